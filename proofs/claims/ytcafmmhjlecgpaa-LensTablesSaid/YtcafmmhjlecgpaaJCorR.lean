/-
  Layer 4: the corrected place, by the document.
-/
import Derived.Test.YtcafmmhjlecgpaaRef10
import Derived.Test.YtcafmmhjlecgpaaJTabR
import Derived.Test.YtcafmmhjlecgpaaJCorM
import Derived.IntWalk
namespace Go.Proofs.Ytcafmmhjlecgpaa
open Go.RowKit
set_option linter.unusedVariables false
set_option linter.unusedSimpArgs false

theorem seg_bounds {P Q S T X D : Int} (hP : -4096 ≤ P ∧ P ≤ 4096) (hQ : -4096 ≤ Q ∧ Q ≤ 4096) (hS : -4096 ≤ S ∧ S ≤ 4096) (hT : -4096 ≤ T ∧ T ≤ 4096) (hD : 1 ≤ D ∧ D ≤ 1048576) (hX : -4294967296 ≤ X ∧ X ≤ 4294967296) :
    ((-8192 ≤ Q - P ∧ Q - P ≤ 8192) ∧ (-8192 ≤ T - S ∧ T - S ≤ 8192)) ∧ (-4294967296 ≤ P * D ∧ P * D ≤ 4294967296) ∧ (-8589934592 ≤ X - P * D ∧ X - P * D ≤ 8589934592) ∧ (-33554432 ≤ S * (Q - P) ∧ S * (Q - P) ≤ 33554432) ∧
      (-35184372088832 ≤ S * (Q - P) * D ∧ S * (Q - P) * D ≤ 35184372088832) ∧ (-70368744177664 ≤ (X - P * D) * (T - S) ∧ (X - P * D) * (T - S) ≤ 70368744177664) ∧ (-8589934592 ≤ (Q - P) * D ∧ (Q - P) * D ≤ 8589934592) ∧ (-4294967296 ≤ S * D ∧ S * D ≤ 4294967296) := by
  have h1 := mul_bd (A := 4096) (B := 1048576) (a := P) (b := D) hP.1 hP.2 (by omega) hD.2
  have h2 := mul_bd (A := 4096) (B := 8192) (a := S) (b := Q - P) hS.1 hS.2 (by omega) (by omega)
  have h3 := mul_bd (A := 33554432) (B := 1048576) (a := S * (Q - P)) (b := D) (by omega) (by omega) (by omega) hD.2
  have h4 := mul_bd (A := 8589934592) (B := 8192) (a := X - P * D) (b := T - S) (by omega) (by omega) (by omega) (by omega)
  have h5 := mul_bd (A := 8192) (B := 1048576) (a := Q - P) (b := D) (by omega) (by omega) (by omega) hD.2
  have h6 := mul_bd (A := 4096) (B := 1048576) (a := S) (b := D) hS.1 hS.2 (by omega) hD.2
  exact ⟨⟨⟨by omega, by omega⟩, by omega, by omega⟩, ⟨by omega, by omega⟩, ⟨by omega, by omega⟩, ⟨by omega, by omega⟩, ⟨by omega, by omega⟩, ⟨by omega, by omega⟩, ⟨by omega, by omega⟩, by omega, by omega⟩
theorem okX.bounds {ks : List (Int × Int)} {X D : Int} (hk : okT ks) (h : okX ks X D) : (1 ≤ D ∧ D ≤ 1048576) ∧ (-4294967296 ≤ X ∧ X ≤ 4294967296) := by
  have hl := hk.1
  have hD : 1 ≤ D := h.1.1
  have q0 := (hk.inT (i := 0) (by omega)).1
  have q1 := (hk.inT (i := ks.length - 1) (by omega)).1
  have h1 := mul_bd (A := 4096) (B := 1048576) (a := at1 ks 0) (b := D) q0.1 q0.2 (by omega) h.2.1
  have h2 := mul_bd (A := 4096) (B := 1048576) (a := at1 ks (ks.length - 1)) (b := D) q1.1 q1.2 (by omega) h.2.1
  have h3 := h.2.2
  exact ⟨⟨hD, h.2.1⟩, by omega, by omega⟩
/-- The cells of a table. -/
theorem KRow.cells {w : World} {a : Option Addr} {n : Nat} {ks : List (Int × Int)} (h : KRow w a n ks) (hn : 0 < n) :
    ∃ b off, a = some ⟨b, off, none⟩ ∧ b < w.heap.size ∧ ∀ j, j < n → w.cell? ⟨b, off + j * 2, none⟩ = some (.int .i64 (at1 ks j)) ∧ w.cell? ⟨b, off + j * 2 + 1, none⟩ = some (.int .i64 (to1 ks j)) := h.2 hn

set_option maxHeartbeats 1000000 in
theorem made_any (n d M N E : Int) (w : World) (HM : Hid (∀ w, Calls Try.prog 117 #[.int .i64 n, .int .i64 d] w fun e w' => e = .returned (.tuple #[.agg #[.int .i64 M, .int .i64 N], .int .i64 E]) ∧ Below w.heap.size w w')) :
    Calls Try.prog 93 #[.int .i64 n, .int .i64 d] w fun e w' => e = .returned (.agg #[.int .i64 M, .int .i64 N]) ∧ Below w.heap.size w w' := by
  go_enter Try.func93, Try.ntmps93
  go_wp2_with (go_at_call 117; (with_reducible refine (HM.out _).mono ?_); rintro e w1 ⟨rfl, hb⟩; (first | ((with_reducible have k0 := Blk.later hb (Blk.new rfl)); skip; obtain ⟨a0, b0⟩ := k0.read; have zl := k0.lt) | ((try (have zk := k0.lt; (first | ((with_reducible refine Blk.keepG hb k0 (fun h => ?_) ?_); (focus ((repeat' (first | (with_reducible assumption) | ((with_reducible refine Blk.new ?_); first | rfl | (simp; done)) | (with_reducible refine Blk.later (by assumption) ?_) | (with_reducible refine Blk.alloc ?_) | (with_reducible refine Blk.drewN ?_) | (with_reducible refine Blk.drew ?_) | (with_reducible refine Blk.other ?_ (by first | omega | (simp; done) | (simp; omega))))); done)); clear k0; intro k0) | (with_reducible replace k0 := Blk.later hb (Blk.set (Blk.set k0))) | (with_reducible replace k0 := Blk.later hb (Blk.set k0))); clear a0 b0; obtain ⟨a0, b0⟩ := k0.read; have zl := k0.lt)))))
  exact bodyPost_ret (v := .agg #[.int .i64 M, .int .i64 N]) (by simp only [results, Try.results93]; go_simp) rfl ⟨rfl, by (repeat' (first | (with_reducible exact Below.refl _ _) | (with_reducible assumption) | (with_reducible refine belowThru ?_ (by assumption)) | (with_reducible refine belowAlloc ?_) | (with_reducible refine Below.setCell ?_ (by first | omega | (simp; done) | (simp; omega)) _) | (with_reducible refine Below.drew ?_) | (with_reducible refine below_drewN ?_ _)))⟩

set_option maxHeartbeats 2000000 in
theorem on_walk (m c bb oo : Nat) (X D P Q : Int) (v : Bool) (w : World) (hm : m ≤ 1000) (hD : D ≤ 1048576) (g1 : -4294967296 ≤ P * D) (g2 : P * D ≤ 4294967296) (g3 : -4294967296 ≤ Q * D) (g4 : Q * D ≤ 4294967296)
    (hl : bb < w.heap.size) (c0 : w.cell? ⟨bb, oo, none⟩ = some (.int .i64 P)) (c1 : w.cell? ⟨bb, oo + m * 2, none⟩ = some (.int .i64 Q)) (hv : v = decide (P * D ≤ X ∧ X ≤ Q * D))
    (HK : Hid (∀ w, Calls Try.prog 88 #[.agg #[.int .i64 X, .int .i64 D]] w fun e w' => e = .returned (.bool true) ∧ Below w.heap.size w w')) :
    Calls Try.prog 53 #[.slice (some ⟨bb, oo, none⟩) (m + 1) c, .agg #[.int .i64 X, .int .i64 D]] w fun e w' => e = .returned (.bool v) ∧ Below w.heap.size w w' := by
  have p0 : (0 : Int) ≤ (m : Int) := by omega
  have p1 : (m : Int) ≤ 1000 := by omega
  have p2 : (m : Int) < (m : Int) + 1 := by omega
  have hw0 : IntKind.i64.wrap (m : Int) = (m : Int) := IntWalk.i64_in _ (by omega)
  have hw1 : IntKind.i64.wrap (P * D) = P * D := IntWalk.i64_in _ (by omega)
  have hw2 : IntKind.i64.wrap (Q * D) = Q * D := IntWalk.i64_in _ (by omega)
  have HC0 := Lib.hid c0; have HC1 := Lib.hid c1
  clear c0 c1
  by_cases h1 : P * D ≤ X
  · have d1 : decide (P * D ≤ X) = true := decide_eq_true h1
    by_cases h2 : X ≤ Q * D
    · have d2 : decide (X ≤ Q * D) = true := decide_eq_true h2
      obtain rfl : v = true := by rw [hv]; exact decide_eq_true ⟨h1, h2⟩
      clear hv h1 h2
      go_enter Try.func53, Try.ntmps53
      go_upto_region 3 with (go_at_call 88; (with_reducible refine (HK.out _).mono ?_); rintro e w1 ⟨rfl, hb⟩; (first | ((with_reducible have k0 := Blk.later hb (Blk.new rfl)); skip; obtain ⟨a0, b0⟩ := k0.read; have zl := k0.lt) | ((try (have zk := k0.lt; (first | ((with_reducible refine Blk.keepG hb k0 (fun h => ?_) ?_); (focus ((repeat' (first | (with_reducible assumption) | ((with_reducible refine Blk.new ?_); first | rfl | (simp; done)) | (with_reducible refine Blk.later (by assumption) ?_) | (with_reducible refine Blk.alloc ?_) | (with_reducible refine Blk.drewN ?_) | (with_reducible refine Blk.drew ?_) | (with_reducible refine Blk.other ?_ (by first | omega | (simp; done) | (simp; omega))))); done)); clear k0; intro k0) | (with_reducible replace k0 := Blk.later hb (Blk.set (Blk.set k0))) | (with_reducible replace k0 := Blk.later hb (Blk.set k0))); clear a0 b0; obtain ⟨a0, b0⟩ := k0.read; have zl := k0.lt)))))
      have hBw : Below w.heap.size w w1 := by (repeat' (first | (with_reducible exact Below.refl _ _) | (with_reducible assumption) | (with_reducible refine belowThru ?_ (by assumption)) | (with_reducible refine belowAlloc ?_) | (with_reducible refine Below.setCell ?_ (by first | omega | (simp; done) | (simp; omega)) _) | (with_reducible refine Below.drew ?_) | (with_reducible refine below_drewN ?_ _)))
      have c0 := cell_later hBw HC0.out
      have c1 := cell_later hBw HC1.out
      go_quiet (fail)
      clear hw1 hw2 hw0
      go_wp2
      go_ret
      exact ⟨rfl, by (repeat' (first | (with_reducible exact Below.refl _ _) | (with_reducible assumption) | (with_reducible refine belowThru ?_ (by assumption)) | (with_reducible refine belowAlloc ?_) | (with_reducible refine Below.setCell ?_ (by first | omega | (simp; done) | (simp; omega)) _) | (with_reducible refine Below.drew ?_) | (with_reducible refine below_drewN ?_ _)))⟩
    · have d2 : decide (X ≤ Q * D) = false := decide_eq_false h2
      obtain rfl : v = false := by rw [hv]; exact decide_eq_false (fun h => h2 h.2)
      clear hv h1 h2
      go_enter Try.func53, Try.ntmps53
      go_upto_region 3 with (go_at_call 88; (with_reducible refine (HK.out _).mono ?_); rintro e w1 ⟨rfl, hb⟩; (first | ((with_reducible have k0 := Blk.later hb (Blk.new rfl)); skip; obtain ⟨a0, b0⟩ := k0.read; have zl := k0.lt) | ((try (have zk := k0.lt; (first | ((with_reducible refine Blk.keepG hb k0 (fun h => ?_) ?_); (focus ((repeat' (first | (with_reducible assumption) | ((with_reducible refine Blk.new ?_); first | rfl | (simp; done)) | (with_reducible refine Blk.later (by assumption) ?_) | (with_reducible refine Blk.alloc ?_) | (with_reducible refine Blk.drewN ?_) | (with_reducible refine Blk.drew ?_) | (with_reducible refine Blk.other ?_ (by first | omega | (simp; done) | (simp; omega))))); done)); clear k0; intro k0) | (with_reducible replace k0 := Blk.later hb (Blk.set (Blk.set k0))) | (with_reducible replace k0 := Blk.later hb (Blk.set k0))); clear a0 b0; obtain ⟨a0, b0⟩ := k0.read; have zl := k0.lt)))))
      have hBw : Below w.heap.size w w1 := by (repeat' (first | (with_reducible exact Below.refl _ _) | (with_reducible assumption) | (with_reducible refine belowThru ?_ (by assumption)) | (with_reducible refine belowAlloc ?_) | (with_reducible refine Below.setCell ?_ (by first | omega | (simp; done) | (simp; omega)) _) | (with_reducible refine Below.drew ?_) | (with_reducible refine below_drewN ?_ _)))
      have c0 := cell_later hBw HC0.out
      have c1 := cell_later hBw HC1.out
      go_quiet (fail)
      clear hw1 hw2 hw0
      go_wp2
      go_ret
      exact ⟨rfl, by (repeat' (first | (with_reducible exact Below.refl _ _) | (with_reducible assumption) | (with_reducible refine belowThru ?_ (by assumption)) | (with_reducible refine belowAlloc ?_) | (with_reducible refine Below.setCell ?_ (by first | omega | (simp; done) | (simp; omega)) _) | (with_reducible refine Below.drew ?_) | (with_reducible refine below_drewN ?_ _)))⟩
  · have d1 : decide (P * D ≤ X) = false := decide_eq_false h1
    obtain rfl : v = false := by rw [hv]; exact decide_eq_false (fun h => h1 h.1)
    clear hv h1
    go_enter Try.func53, Try.ntmps53
    go_upto_region 3 with (go_at_call 88; (with_reducible refine (HK.out _).mono ?_); rintro e w1 ⟨rfl, hb⟩; (first | ((with_reducible have k0 := Blk.later hb (Blk.new rfl)); skip; obtain ⟨a0, b0⟩ := k0.read; have zl := k0.lt) | ((try (have zk := k0.lt; (first | ((with_reducible refine Blk.keepG hb k0 (fun h => ?_) ?_); (focus ((repeat' (first | (with_reducible assumption) | ((with_reducible refine Blk.new ?_); first | rfl | (simp; done)) | (with_reducible refine Blk.later (by assumption) ?_) | (with_reducible refine Blk.alloc ?_) | (with_reducible refine Blk.drewN ?_) | (with_reducible refine Blk.drew ?_) | (with_reducible refine Blk.other ?_ (by first | omega | (simp; done) | (simp; omega))))); done)); clear k0; intro k0) | (with_reducible replace k0 := Blk.later hb (Blk.set (Blk.set k0))) | (with_reducible replace k0 := Blk.later hb (Blk.set k0))); clear a0 b0; obtain ⟨a0, b0⟩ := k0.read; have zl := k0.lt)))))
    have hBw : Below w.heap.size w w1 := by (repeat' (first | (with_reducible exact Below.refl _ _) | (with_reducible assumption) | (with_reducible refine belowThru ?_ (by assumption)) | (with_reducible refine belowAlloc ?_) | (with_reducible refine Below.setCell ?_ (by first | omega | (simp; done) | (simp; omega)) _) | (with_reducible refine Below.drew ?_) | (with_reducible refine below_drewN ?_ _)))
    have c0 := cell_later hBw HC0.out
    have c1 := cell_later hBw HC1.out
    go_quiet (fail)
    clear hw1 hw2 hw0
    go_wp2
    go_ret
    exact ⟨rfl, by (repeat' (first | (with_reducible exact Below.refl _ _) | (with_reducible assumption) | (with_reducible refine belowThru ?_ (by assumption)) | (with_reducible refine belowAlloc ?_) | (with_reducible refine Below.setCell ?_ (by first | omega | (simp; done) | (simp; omega)) _) | (with_reducible refine Below.drew ?_) | (with_reducible refine below_drewN ?_ _)))⟩
set_option maxHeartbeats 1000000 in
theorem on_bad (a : Option Addr) (n c : Nat) (X D : Int) (w : World)
    (HK : Hid (∀ w, Calls Try.prog 88 #[.agg #[.int .i64 X, .int .i64 D]] w fun e w' => e = .returned (.bool false) ∧ Below w.heap.size w w')) :
    Calls Try.prog 53 #[.slice a n c, .agg #[.int .i64 X, .int .i64 D]] w fun e w' => e = .returned (.bool false) ∧ Below w.heap.size w w' := by
  go_enter Try.func53, Try.ntmps53
  go_wp2_with (go_at_call 88; (with_reducible refine (HK.out _).mono ?_); rintro e w1 ⟨rfl, hb⟩; (first | ((with_reducible have k0 := Blk.later hb (Blk.new rfl)); skip; obtain ⟨a0, b0⟩ := k0.read; have zl := k0.lt) | ((try (have zk := k0.lt; (first | ((with_reducible refine Blk.keepG hb k0 (fun h => ?_) ?_); (focus ((repeat' (first | (with_reducible assumption) | ((with_reducible refine Blk.new ?_); first | rfl | (simp; done)) | (with_reducible refine Blk.later (by assumption) ?_) | (with_reducible refine Blk.alloc ?_) | (with_reducible refine Blk.drewN ?_) | (with_reducible refine Blk.drew ?_) | (with_reducible refine Blk.other ?_ (by first | omega | (simp; done) | (simp; omega))))); done)); clear k0; intro k0) | (with_reducible replace k0 := Blk.later hb (Blk.set (Blk.set k0))) | (with_reducible replace k0 := Blk.later hb (Blk.set k0))); clear a0 b0; obtain ⟨a0, b0⟩ := k0.read; have zl := k0.lt)))))
  go_ret
  exact ⟨rfl, by (repeat' (first | (with_reducible exact Below.refl _ _) | (with_reducible assumption) | (with_reducible refine belowThru ?_ (by assumption)) | (with_reducible refine belowAlloc ?_) | (with_reducible refine Below.setCell ?_ (by first | omega | (simp; done) | (simp; omega)) _) | (with_reducible refine Below.drew ?_) | (with_reducible refine below_drewN ?_ _)))⟩
set_option maxHeartbeats 1000000 in
theorem on_den (a : Option Addr) (n c : Nat) (X D : Int) (w : World) (hD : 1048576 < D)
    (HK : Hid (∀ w, Calls Try.prog 88 #[.agg #[.int .i64 X, .int .i64 D]] w fun e w' => e = .returned (.bool true) ∧ Below w.heap.size w w')) :
    Calls Try.prog 53 #[.slice a n c, .agg #[.int .i64 X, .int .i64 D]] w fun e w' => e = .returned (.bool false) ∧ Below w.heap.size w w' := by
  go_enter Try.func53, Try.ntmps53
  go_wp2_with (go_at_call 88; (with_reducible refine (HK.out _).mono ?_); rintro e w1 ⟨rfl, hb⟩; (first | ((with_reducible have k0 := Blk.later hb (Blk.new rfl)); skip; obtain ⟨a0, b0⟩ := k0.read; have zl := k0.lt) | ((try (have zk := k0.lt; (first | ((with_reducible refine Blk.keepG hb k0 (fun h => ?_) ?_); (focus ((repeat' (first | (with_reducible assumption) | ((with_reducible refine Blk.new ?_); first | rfl | (simp; done)) | (with_reducible refine Blk.later (by assumption) ?_) | (with_reducible refine Blk.alloc ?_) | (with_reducible refine Blk.drewN ?_) | (with_reducible refine Blk.drew ?_) | (with_reducible refine Blk.other ?_ (by first | omega | (simp; done) | (simp; omega))))); done)); clear k0; intro k0) | (with_reducible replace k0 := Blk.later hb (Blk.set (Blk.set k0))) | (with_reducible replace k0 := Blk.later hb (Blk.set k0))); clear a0 b0; obtain ⟨a0, b0⟩ := k0.read; have zl := k0.lt)))))
  go_ret
  exact ⟨rfl, by (repeat' (first | (with_reducible exact Below.refl _ _) | (with_reducible assumption) | (with_reducible refine belowThru ?_ (by assumption)) | (with_reducible refine belowAlloc ?_) | (with_reducible refine Below.setCell ?_ (by first | omega | (simp; done) | (simp; omega)) _) | (with_reducible refine Below.drew ?_) | (with_reducible refine below_drewN ?_ _)))⟩

set_option maxRecDepth 100000 in
set_option maxHeartbeats 4000000 in
theorem rcorrected_walk (i n c bb oo : Nat) (ks : List (Int × Int)) (X D M N E : Int) (w : World) (hok : okT ks) (hX : okX ks X D) (hs : Seg ks X D i) (hl : ks.length = n) (hlt : bb < w.heap.size)
    (hc : ∀ j, j < n → w.cell? ⟨bb, oo + j * 2, none⟩ = some (.int .i64 (at1 ks j)) ∧ w.cell? ⟨bb, oo + j * 2 + 1, none⟩ = some (.int .i64 (to1 ks j)))
    (HM : Hid (∀ w, Calls Try.prog 93 #[.int .i64 (to1 ks i * D * (at1 ks (i + 1) - at1 ks i) + (X - at1 ks i * D) * (to1 ks (i + 1) - to1 ks i)), .int .i64 (D * (at1 ks (i + 1) - at1 ks i))] w fun e w' => e = .returned (.agg #[.int .i64 M, .int .i64 N]) ∧ Below w.heap.size w w')) :
    Calls Try.prog 54 #[.slice (some ⟨bb, oo, none⟩) n c, .agg #[.int .i64 X, .int .i64 D]] w fun e w' => e = .returned (.agg #[.int .i64 M, .int .i64 N]) ∧ Below w.heap.size w w' := by
  have hl16 := hok.1
  obtain ⟨hD, hXb⟩ := hX.bounds hok
  have hi2 : i + 2 ≤ n := by have := hs.1; omega
  have hn16 : n ≤ 16 := by omega
  have HC := Lib.hid hc
  have HT : Hid (∀ j, j < n → (-4096 ≤ at1 ks j ∧ at1 ks j ≤ 4096) ∧ -4096 ≤ to1 ks j ∧ to1 ks j ≤ 4096) := fun j hj => hok.inT (by omega)
  have HSG := Lib.hid hs.2.1
  have HSL := Lib.hid hs.2.2
  clear hc hok hX hs hl16 hl
  go_enter Try.func54, Try.ntmps54
  go_wp2
  go_loopw [5] (fun s5 wr => ∃ k : Nat, k ≤ i ∧ s5 = .int .i64 k ∧ Blk wr w.heap.size #[.int .i64 X, .int .i64 D] 24 ∧ Blk wr (w.heap.size + 1) #[.int .i64 0, .int .i64 0] 24 ∧ Below w.heap.size w wr) (fun s5 _ => i - (intOf s5).toNat)
  case atStart => exact ⟨0, Nat.zero_le _, rfl, by (repeat' (first | (with_reducible assumption) | ((with_reducible refine Blk.new ?_); first | rfl | (simp; done)) | (with_reducible refine Blk.later (by assumption) ?_) | (with_reducible refine Blk.alloc ?_) | (with_reducible refine Blk.drewN ?_) | (with_reducible refine Blk.drew ?_) | (with_reducible refine Blk.other ?_ (by first | omega | (simp; done) | (simp; omega))))), by simpa using (Blk.new (by simp)), by (repeat' (first | (with_reducible exact Below.refl _ _) | (with_reducible assumption) | (with_reducible refine belowThru ?_ (by assumption)) | (with_reducible refine belowAlloc ?_) | (with_reducible refine Below.setCell ?_ (by first | omega | (simp; done) | (simp; omega)) _) | (with_reducible refine Below.drew ?_) | (with_reducible refine below_drewN ?_ _)))⟩
  case round =>
    obtain ⟨k, hk, rfl, k0, k1, hB⟩ := hrel
    obtain ⟨a0, b0⟩ := k0.read; obtain ⟨a1, b1⟩ := k1.read
    have zl0 := k0.lt; have zl1 := k1.lt
    have p0 : (0 : Int) ≤ (k : Int) := by omega
    have p1 : (k : Int) + 1 < (n : Int) := by omega
    have p2 : (0 : Int) ≤ (k : Int) + 1 := by omega
    have p3 : ((k : Int) + 1).toNat = k + 1 := by omega
    have p4 : (k : Int) < (n : Int) := by omega
    have hw1 : IntKind.i64.wrap ((k : Int) + 1) = (k : Int) + 1 := IntWalk.i64_in _ (by omega)
    have c1 := cell_later hB (HC.out (k + 1) (by omega)).1
    obtain ⟨Q, hQ⟩ : ∃ Q, at1 ks (k + 1) = Q := ⟨_, rfl⟩
    have q1 := (HT.out (k + 1) (by omega)).1
    rw [hQ] at c1 q1
    have q2 := mul_bd (A := 4096) (B := 1048576) (a := Q) (b := D) q1.1 q1.2 (by omega) hD.2
    have q3 := q2.1; have q4 := q2.2
    have hw2 : IntKind.i64.wrap (Q * D) = Q * D := IntWalk.i64_in _ (by omega)
    by_cases hlt : k < i
    · have d1 : decide (Q * D < X) = true := decide_eq_true (by rw [← hQ]; exact HSG.out k hlt)
      clear hQ
      go_wp2_with fail
      go_quiet (fail)
      clear hw1 hw2
      go_wp2
      go_roundw
      case rel => exact ⟨k + 1, hlt, by go_num, k0, k1, by (repeat' (first | (with_reducible exact Below.refl _ _) | (with_reducible assumption) | (with_reducible refine belowThru ?_ (by assumption)) | (with_reducible refine belowAlloc ?_) | (with_reducible refine Below.setCell ?_ (by first | omega | (simp; done) | (simp; omega)) _) | (with_reducible refine Below.drew ?_) | (with_reducible refine below_drewN ?_ _)))⟩
      case measure => simp [intOf]; omega
    · obtain rfl : k = i := by omega
      have d1 : decide (Q * D < X) = false := decide_eq_false (by have := HSL.out; rw [hQ] at this; omega)
      have c0 := cell_later hB (HC.out k (by omega)).1
      have c2 := cell_later hB (HC.out k (by omega)).2
      have c3 := cell_later hB (HC.out (k + 1) (by omega)).2
      have t0 := HT.out k (by omega)
      have t1 := (HT.out (k + 1) (by omega)).2
      obtain ⟨P, hP⟩ : ∃ P, at1 ks k = P := ⟨_, rfl⟩
      obtain ⟨S, hS⟩ : ∃ S, to1 ks k = S := ⟨_, rfl⟩
      obtain ⟨T, hT⟩ : ∃ T, to1 ks (k + 1) = T := ⟨_, rfl⟩
      rw [hQ, hP, hS, hT] at HM
      rw [hP] at c0; rw [hS] at c2; rw [hT] at c3; rw [hP, hS] at t0; rw [hT] at t1
      obtain ⟨⟨⟨g1, g2⟩, g3, g4⟩, ⟨g5, g6⟩, ⟨g7, g8⟩, -, -, ⟨g13, g14⟩, ⟨g15, g16⟩, g17, g18⟩ := seg_bounds t0.1 q1 t0.2 t1 hD hXb
      clear hP hQ hS hT HC HT HSG HSL t0 t1
      have q5 := mul_bd (A := 4294967296) (B := 8192) (a := S * D) (b := Q - P) g17 g18 g1 g2
      have q6 := q5.1; have q7 := q5.2
      have q8 : -8589934592 ≤ D * (Q - P) := by rw [Int.mul_comm]; exact g15
      have q9 : D * (Q - P) ≤ 8589934592 := by rw [Int.mul_comm]; exact g16
      clear q5 q2 g15 g16
      have hw3 : IntKind.i64.wrap (Q - P) = Q - P := IntWalk.i64_in _ (by omega)
      have hw4 : IntKind.i64.wrap (T - S) = T - S := IntWalk.i64_in _ (by omega)
      go_wp2_with fail
      go_quiet (fail)
      revert nq; intro n1
      go_wp2_with fail
      go_quiet (fail)
      revert nq; intro n2
      go_wp2_with fail
      go_quiet (fail)
      go_wp2_with fail
      obtain ⟨Wz, hWz⟩ : ∃ Wz, ((wr.drewN n1).drewN n2).drewN nq = Wz := ⟨_, rfl⟩
      have c0 : Wz.cell? ⟨bb, oo + k * 2, none⟩ = some (.int .i64 P) := by rw [← hWz]; exact c0
      have c2 : Wz.cell? ⟨bb, oo + k * 2 + 1, none⟩ = some (.int .i64 S) := by rw [← hWz]; exact c2
      have k0 : Blk Wz w.heap.size #[.int .i64 X, .int .i64 D] 24 := by rw [← hWz]; exact k0
      have k1 : Blk Wz (w.heap.size + 1) #[.int .i64 0, .int .i64 0] 24 := by rw [← hWz]; exact k1
      have hB : Below w.heap.size w Wz := by rw [← hWz]; (repeat' (first | (with_reducible exact Below.refl _ _) | (with_reducible assumption) | (with_reducible refine belowThru ?_ (by assumption)) | (with_reducible refine belowAlloc ?_) | (with_reducible refine Below.setCell ?_ (by first | omega | (simp; done) | (simp; omega)) _) | (with_reducible refine Below.drew ?_) | (with_reducible refine below_drewN ?_ _)))
      rw [hWz]
      clear hWz a0 b0 a1 b1 c1 c3
      obtain ⟨a0, b0⟩ := k0.read; obtain ⟨a1, b1⟩ := k1.read
      have hw5 : IntKind.i64.wrap (P * D) = P * D := IntWalk.i64_in _ (by omega)
      have hw6 : IntKind.i64.wrap (X - P * D) = X - P * D := IntWalk.i64_in _ (by omega)
      have hw7 : IntKind.i64.wrap (S * D) = S * D := IntWalk.i64_in _ (by omega)
      have hw8 : IntKind.i64.wrap (S * D * (Q - P)) = S * D * (Q - P) := IntWalk.i64_in _ (by omega)
      have hw9 : IntKind.i64.wrap ((X - P * D) * (T - S)) = (X - P * D) * (T - S) := IntWalk.i64_in _ (by omega)
      have hw10 : IntKind.i64.wrap (S * D * (Q - P) + (X - P * D) * (T - S)) = S * D * (Q - P) + (X - P * D) * (T - S) := IntWalk.i64_in _ (by omega)
      have hw11 : IntKind.i64.wrap (D * (Q - P)) = D * (Q - P) := IntWalk.i64_in _ (by omega)
      refine wp_region_still_tail 28 (by kernel_rfl) (by kernel_rfl) ?_
      simp only [List.take_succ_cons, List.take_zero, List.drop_succ_cons, List.drop_zero]
      repeat still_step
      refine wpStill_nil ?_
      go_wp2_with (go_at_call 93; (with_reducible refine (HM.out _).mono ?_); rintro e w8 ⟨rfl, hb⟩; have kC := Blk.later hb (Blk.drew k1); obtain ⟨rg, rh⟩ := kC.read; have lC8 := kC.lt)
      exact bodyPost_ret (v := .agg #[.int .i64 M, .int .i64 N]) (by simp only [results, Try.results54]; go_simp) rfl ⟨rfl, by (repeat' (first | (with_reducible exact Below.refl _ _) | (with_reducible assumption) | (with_reducible refine belowThru ?_ (by assumption)) | (with_reducible refine belowAlloc ?_) | (with_reducible refine Below.setCell ?_ (by first | omega | (simp; done) | (simp; omega)) _) | (with_reducible refine Below.drew ?_) | (with_reducible refine below_drewN ?_ _)))⟩
end Go.Proofs.Ytcafmmhjlecgpaa
