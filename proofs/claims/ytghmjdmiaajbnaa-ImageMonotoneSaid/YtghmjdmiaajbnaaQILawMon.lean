/-
  The law ImageMonotone: mathematics and walk.
-/
import Derived.Test.YtghmjdmiaajbnaaM21
import Derived.Test.YtghmjdmiaajbnaaM7
import Derived.Test.YtghmjdmiaajbnaaM20
namespace Go.Proofs.Ytghmjdmiaajbnaa
open Go.RowKit
set_option linter.unusedVariables false
set_option linter.unusedSimpArgs false

/-- A point operation, as a list. -/
def ptL (pM pA pD pL pH : Int) (n : Nat) (zs : List Int) : List Int := made n fun k => ptV pM pA pD pL pH (zs[k]?.getD 0)
theorem ptL_len {pM pA pD pL pH : Int} {n : Nat} {zs : List Int} : (ptL pM pA pD pL pH n zs).length = n := by unfold ptL; rw [made_length]
theorem ptL_at {pM pA pD pL pH : Int} {n : Nat} {zs : List Int} {k : Nat} (hk : k < n) : (ptL pM pA pD pL pH n zs)[k]?.getD 0 = ptV pM pA pD pL pH (zs[k]?.getD 0) := by unfold ptL; rw [made_get hk, Option.getD_some]
theorem ptV_mono {pM pA pD pL pH u v : Int} (hP : okP pM pA pD pL pH) (h0 : 0 ≤ pM) (h : u ≤ v) : ptV pM pA pD pL pH u ≤ ptV pM pA pD pL pH v := by
  obtain ⟨-, ⟨d1, -⟩, -, -, hl⟩ := hP
  have h1 : pM * u ≤ pM * v := Int.mul_le_mul_of_nonneg_left h h0
  have h2 : (pM * u + pA) / pD ≤ (pM * v + pA) / pD := Int.ediv_le_ediv (by omega) (by omega)
  unfold ptV inR; omega
theorem ptV_anti {pM pA pD pL pH u v : Int} (hP : okP pM pA pD pL pH) (h0 : pM ≤ 0) (h : u ≤ v) : ptV pM pA pD pL pH v ≤ ptV pM pA pD pL pH u := by
  obtain ⟨-, ⟨d1, -⟩, -, -, hl⟩ := hP
  have h1 : pM * v ≤ pM * u := Int.mul_le_mul_of_nonpos_left h0 h
  have h2 : (pM * v + pA) / pD ≤ (pM * u + pA) / pD := Int.ediv_le_ediv (by omega) (by omega)
  unfold ptV inR; omega
theorem mono_up {W H pM pA pD pL pH : Int} {n : Nat} {xs ys : List Int} (hI : okI W H xs) (hJ : okI W H ys) (hP : okP pM pA pD pL pH) (h0 : ¬ pM < 0) : leB (ptL pM pA pD pL pH n (zipL 3 n xs ys)) (ptL pM pA pD pL pH n xs) n = true :=
  decide_eq_true fun k hk => by rw [ptL_at hk, ptL_at hk, zip_min hI hJ, made_get hk, Option.getD_some]; exact ptV_mono hP (by omega) (by omega)
theorem mono_down {W H pM pA pD pL pH : Int} {n : Nat} {xs ys : List Int} (hI : okI W H xs) (hJ : okI W H ys) (hP : okP pM pA pD pL pH) (h0 : ¬ 0 < pM) : leB (ptL pM pA pD pL pH n xs) (ptL pM pA pD pL pH n (zipL 3 n xs ys)) n = true :=
  decide_eq_true fun k hk => by rw [ptL_at hk, ptL_at hk, zip_min hI hJ, made_get hk, Option.getD_some]; exact ptV_anti hP (by omega) (by omega)
theorem ptV_in {pM pA pD pL pH v : Int} (hP : okP pM pA pD pL pH) : pL ≤ ptV pM pA pD pL pH v ∧ ptV pM pA pD pL pH v ≤ pH := by
  obtain ⟨-, -, -, -, hl⟩ := hP
  unfold ptV inR; omega
theorem rpt_ok {pM pA pD pL pH : Int} (h : okP pM pA pD pL pH) (w : World) : Calls Try.prog 50 #[.agg #[.int .i64 pM, .int .i64 pA, .int .i64 pD, .int .i64 pL, .int .i64 pH]] w fun e w' => e = .returned (.bool true) ∧ Below w.heap.size w w' := by
  have := rvalidPoint_any pM pA pD pL pH w; rw [decide_eq_true h] at this; exact this
theorem rpt_no {pM pA pD pL pH : Int} (h : ¬ okP pM pA pD pL pH) (w : World) : Calls Try.prog 50 #[.agg #[.int .i64 pM, .int .i64 pA, .int .i64 pD, .int .i64 pL, .int .i64 pH]] w fun e w' => e = .returned (.bool false) ∧ Below w.heap.size w w' := by
  have := rvalidPoint_any pM pA pD pL pH w; rw [decide_eq_false h] at this; exact this
set_option maxRecDepth 100000 in
set_option maxHeartbeats 2000000 in
theorem mono_no1 (W H V K pM pA pD pL pH : Int) (a b : Option Addr) (n c p d : Nat) (xs ys : List Int) (hn : n ≤ maxLen) (hp : p ≤ maxLen) (w : World) (hR : Row w a n (iv xs)) (hS : Row w b p (iv ys)) (hx : ¬ (okI W H xs ∧ okI V K ys ∧ W = V ∧ H = K)) :
    Calls Try.prog 14 #[.agg #[.int .i64 W, .int .i64 H, .slice a n c], .agg #[.int .i64 V, .int .i64 K, .slice b p d], .agg #[.int .i64 pM, .int .i64 pA, .int .i64 pD, .int .i64 pL, .int .i64 pH]] w fun e w' => e = .returned (.bool true) ∧ Below w.heap.size w w' := by
  have HR := Lib.hid hR
  have HS := Lib.hid hS
  clear hR hS
  go_enter Try.func14, Try.ntmps14
  go_wp2_with fail
  refine (alive_true _).mono ?_
  rintro e w1 ⟨rfl, hb⟩
  have kn0 : Blk w1 (w.heap.size) #[.int .i64 W, .int .i64 H, .slice a n c] 24 := Blk.later hb (by first | ((repeat' (first | (with_reducible assumption) | ((with_reducible refine Blk.new ?_); first | rfl | (simp; done)) | (with_reducible refine Blk.later (by assumption) ?_) | (with_reducible refine Blk.alloc ?_) | (with_reducible refine Blk.drewN ?_) | (with_reducible refine Blk.drew ?_) | (with_reducible refine Blk.other ?_ (by first | omega | (simp; done) | (simp; omega))))); done) | exact Blk.alloc (Blk.new (by simp)) | exact Blk.set (Blk.set (Blk.set (by (repeat' (first | (with_reducible assumption) | ((with_reducible refine Blk.new ?_); first | rfl | (simp; done)) | (with_reducible refine Blk.later (by assumption) ?_) | (with_reducible refine Blk.alloc ?_) | (with_reducible refine Blk.drewN ?_) | (with_reducible refine Blk.drew ?_) | (with_reducible refine Blk.other ?_ (by first | omega | (simp; done) | (simp; omega)))))))) | exact Blk.alloc (Blk.set (Blk.set (Blk.set (by (repeat' (first | (with_reducible assumption) | ((with_reducible refine Blk.new ?_); first | rfl | (simp; done)) | (with_reducible refine Blk.later (by assumption) ?_) | (with_reducible refine Blk.alloc ?_) | (with_reducible refine Blk.drewN ?_) | (with_reducible refine Blk.drew ?_) | (with_reducible refine Blk.other ?_ (by first | omega | (simp; done) | (simp; omega))))))))))
  have kn1 : Blk w1 (w.heap.size + 1) #[.int .i64 V, .int .i64 K, .slice b p d] 24 := Blk.later hb (by first | ((repeat' (first | (with_reducible assumption) | ((with_reducible refine Blk.new ?_); first | rfl | (simp; done)) | (with_reducible refine Blk.later (by assumption) ?_) | (with_reducible refine Blk.alloc ?_) | (with_reducible refine Blk.drewN ?_) | (with_reducible refine Blk.drew ?_) | (with_reducible refine Blk.other ?_ (by first | omega | (simp; done) | (simp; omega))))); done) | exact Blk.alloc (Blk.new (by simp)) | exact Blk.set (Blk.set (Blk.set (by (repeat' (first | (with_reducible assumption) | ((with_reducible refine Blk.new ?_); first | rfl | (simp; done)) | (with_reducible refine Blk.later (by assumption) ?_) | (with_reducible refine Blk.alloc ?_) | (with_reducible refine Blk.drewN ?_) | (with_reducible refine Blk.drew ?_) | (with_reducible refine Blk.other ?_ (by first | omega | (simp; done) | (simp; omega)))))))) | exact Blk.alloc (Blk.set (Blk.set (Blk.set (by (repeat' (first | (with_reducible assumption) | ((with_reducible refine Blk.new ?_); first | rfl | (simp; done)) | (with_reducible refine Blk.later (by assumption) ?_) | (with_reducible refine Blk.alloc ?_) | (with_reducible refine Blk.drewN ?_) | (with_reducible refine Blk.drew ?_) | (with_reducible refine Blk.other ?_ (by first | omega | (simp; done) | (simp; omega))))))))))
  have kn2 : Blk w1 (w.heap.size + 1 + 1) #[.int .i64 pM, .int .i64 pA, .int .i64 pD, .int .i64 pL, .int .i64 pH] 30 := Blk.later hb (by first | ((repeat' (first | (with_reducible assumption) | ((with_reducible refine Blk.new ?_); first | rfl | (simp; done)) | (with_reducible refine Blk.later (by assumption) ?_) | (with_reducible refine Blk.alloc ?_) | (with_reducible refine Blk.drewN ?_) | (with_reducible refine Blk.drew ?_) | (with_reducible refine Blk.other ?_ (by first | omega | (simp; done) | (simp; omega))))); done) | exact Blk.alloc (Blk.new (by simp)) | exact Blk.set (Blk.set (Blk.set (by (repeat' (first | (with_reducible assumption) | ((with_reducible refine Blk.new ?_); first | rfl | (simp; done)) | (with_reducible refine Blk.later (by assumption) ?_) | (with_reducible refine Blk.alloc ?_) | (with_reducible refine Blk.drewN ?_) | (with_reducible refine Blk.drew ?_) | (with_reducible refine Blk.other ?_ (by first | omega | (simp; done) | (simp; omega)))))))) | exact Blk.alloc (Blk.set (Blk.set (Blk.set (by (repeat' (first | (with_reducible assumption) | ((with_reducible refine Blk.new ?_); first | rfl | (simp; done)) | (with_reducible refine Blk.later (by assumption) ?_) | (with_reducible refine Blk.alloc ?_) | (with_reducible refine Blk.drewN ?_) | (with_reducible refine Blk.drew ?_) | (with_reducible refine Blk.other ?_ (by first | omega | (simp; done) | (simp; omega))))))))))
  have k0 := kn0; clear kn0; obtain ⟨a0, b0⟩ := k0.read; have y0 := k0.lt
  have k1 := kn1; clear kn1; obtain ⟨a1, b1⟩ := k1.read; have y1 := k1.lt
  have k2 := kn2; clear kn2; obtain ⟨a2, b2⟩ := k2.read; have y2 := k2.lt
  have hBw : Below w.heap.size w w1 := by (repeat' (first | (with_reducible exact Below.refl _ _) | (with_reducible assumption) | (with_reducible refine belowThru ?_ (by assumption)) | (with_reducible refine belowAlloc ?_) | (with_reducible refine Below.setCell ?_ (by first | omega | (simp; done) | (simp; omega)) _) | (with_reducible refine Below.drew ?_) | (with_reducible refine below_drewN ?_ _)))
  have hzw1 := hBw.size
  clear hb
  go_wp2_with fail
  refine (sized_no W H V K a b n p c d xs ys hx hn hp _ (HR.out.later (by (repeat' (first | (with_reducible exact Below.refl _ _) | (with_reducible assumption) | (with_reducible refine belowThru ?_ (by assumption)) | (with_reducible refine belowAlloc ?_) | (with_reducible refine Below.setCell ?_ (by first | omega | (simp; done) | (simp; omega)) _) | (with_reducible refine Below.drew ?_) | (with_reducible refine below_drewN ?_ _))))) (HS.out.later (by (repeat' (first | (with_reducible exact Below.refl _ _) | (with_reducible assumption) | (with_reducible refine belowThru ?_ (by assumption)) | (with_reducible refine belowAlloc ?_) | (with_reducible refine Below.setCell ?_ (by first | omega | (simp; done) | (simp; omega)) _) | (with_reducible refine Below.drew ?_) | (with_reducible refine below_drewN ?_ _)))))).mono ?_
  rintro e w2 ⟨rfl, hb⟩
  have kn0 : Blk w2 (w.heap.size) #[.int .i64 W, .int .i64 H, .slice a n c] 24 := Blk.later hb (by (repeat' (first | (with_reducible assumption) | ((with_reducible refine Blk.new ?_); first | rfl | (simp; done)) | (with_reducible refine Blk.later (by assumption) ?_) | (with_reducible refine Blk.alloc ?_) | (with_reducible refine Blk.drewN ?_) | (with_reducible refine Blk.drew ?_) | (with_reducible refine Blk.other ?_ (by first | omega | (simp; done) | (simp; omega))))))
  have kn1 : Blk w2 (w.heap.size + 1) #[.int .i64 V, .int .i64 K, .slice b p d] 24 := Blk.later hb (by (repeat' (first | (with_reducible assumption) | ((with_reducible refine Blk.new ?_); first | rfl | (simp; done)) | (with_reducible refine Blk.later (by assumption) ?_) | (with_reducible refine Blk.alloc ?_) | (with_reducible refine Blk.drewN ?_) | (with_reducible refine Blk.drew ?_) | (with_reducible refine Blk.other ?_ (by first | omega | (simp; done) | (simp; omega))))))
  have kn2 : Blk w2 (w.heap.size + 1 + 1) #[.int .i64 pM, .int .i64 pA, .int .i64 pD, .int .i64 pL, .int .i64 pH] 30 := Blk.later hb (by (repeat' (first | (with_reducible assumption) | ((with_reducible refine Blk.new ?_); first | rfl | (simp; done)) | (with_reducible refine Blk.later (by assumption) ?_) | (with_reducible refine Blk.alloc ?_) | (with_reducible refine Blk.drewN ?_) | (with_reducible refine Blk.drew ?_) | (with_reducible refine Blk.other ?_ (by first | omega | (simp; done) | (simp; omega))))))
  clear k0 a0 b0 k1 a1 b1 k2 a2 b2
  have k0 := kn0; clear kn0; obtain ⟨a0, b0⟩ := k0.read; have y0 := k0.lt
  have k1 := kn1; clear kn1; obtain ⟨a1, b1⟩ := k1.read; have y1 := k1.lt
  have k2 := kn2; clear kn2; obtain ⟨a2, b2⟩ := k2.read; have y2 := k2.lt
  replace hBw : Below w.heap.size w w2 := belowThru (by (repeat' (first | (with_reducible exact Below.refl _ _) | (with_reducible assumption) | (with_reducible refine belowThru ?_ (by assumption)) | (with_reducible refine belowAlloc ?_) | (with_reducible refine Below.setCell ?_ (by first | omega | (simp; done) | (simp; omega)) _) | (with_reducible refine Below.drew ?_) | (with_reducible refine below_drewN ?_ _)))) hb
  have hzw2 := hBw.size
  clear hb
  go_wp2_with fail
  go_ret
  exact ⟨rfl, by (repeat' (first | (with_reducible exact Below.refl _ _) | (with_reducible assumption) | (with_reducible refine belowThru ?_ (by assumption)) | (with_reducible refine belowAlloc ?_) | (with_reducible refine Below.setCell ?_ (by first | omega | (simp; done) | (simp; omega)) _) | (with_reducible refine Below.drew ?_) | (with_reducible refine below_drewN ?_ _)))⟩
set_option maxRecDepth 100000 in
set_option maxHeartbeats 2000000 in
theorem mono_no2 (W H V K pM pA pD pL pH : Int) (a b : Option Addr) (n c p d : Nat) (xs ys : List Int) (hn : n ≤ maxLen) (hp : p ≤ maxLen) (w : World) (hR : Row w a n (iv xs)) (hS : Row w b p (iv ys)) (hI : okI W H xs) (hJ : okI V K ys) (hV : W = V) (hK : H = K) (hP : ¬ okP pM pA pD pL pH) :
    Calls Try.prog 14 #[.agg #[.int .i64 W, .int .i64 H, .slice a n c], .agg #[.int .i64 V, .int .i64 K, .slice b p d], .agg #[.int .i64 pM, .int .i64 pA, .int .i64 pD, .int .i64 pL, .int .i64 pH]] w fun e w' => e = .returned (.bool true) ∧ Below w.heap.size w w' := by
  subst hV hK
  have HR := Lib.hid hR
  have HS := Lib.hid hS
  clear hR hS
  go_enter Try.func14, Try.ntmps14
  go_wp2_with fail
  refine (alive_true _).mono ?_
  rintro e w1 ⟨rfl, hb⟩
  have kn0 : Blk w1 (w.heap.size) #[.int .i64 W, .int .i64 H, .slice a n c] 24 := Blk.later hb (by first | ((repeat' (first | (with_reducible assumption) | ((with_reducible refine Blk.new ?_); first | rfl | (simp; done)) | (with_reducible refine Blk.later (by assumption) ?_) | (with_reducible refine Blk.alloc ?_) | (with_reducible refine Blk.drewN ?_) | (with_reducible refine Blk.drew ?_) | (with_reducible refine Blk.other ?_ (by first | omega | (simp; done) | (simp; omega))))); done) | exact Blk.alloc (Blk.new (by simp)) | exact Blk.set (Blk.set (Blk.set (by (repeat' (first | (with_reducible assumption) | ((with_reducible refine Blk.new ?_); first | rfl | (simp; done)) | (with_reducible refine Blk.later (by assumption) ?_) | (with_reducible refine Blk.alloc ?_) | (with_reducible refine Blk.drewN ?_) | (with_reducible refine Blk.drew ?_) | (with_reducible refine Blk.other ?_ (by first | omega | (simp; done) | (simp; omega)))))))) | exact Blk.alloc (Blk.set (Blk.set (Blk.set (by (repeat' (first | (with_reducible assumption) | ((with_reducible refine Blk.new ?_); first | rfl | (simp; done)) | (with_reducible refine Blk.later (by assumption) ?_) | (with_reducible refine Blk.alloc ?_) | (with_reducible refine Blk.drewN ?_) | (with_reducible refine Blk.drew ?_) | (with_reducible refine Blk.other ?_ (by first | omega | (simp; done) | (simp; omega))))))))))
  have kn1 : Blk w1 (w.heap.size + 1) #[.int .i64 W, .int .i64 H, .slice b p d] 24 := Blk.later hb (by first | ((repeat' (first | (with_reducible assumption) | ((with_reducible refine Blk.new ?_); first | rfl | (simp; done)) | (with_reducible refine Blk.later (by assumption) ?_) | (with_reducible refine Blk.alloc ?_) | (with_reducible refine Blk.drewN ?_) | (with_reducible refine Blk.drew ?_) | (with_reducible refine Blk.other ?_ (by first | omega | (simp; done) | (simp; omega))))); done) | exact Blk.alloc (Blk.new (by simp)) | exact Blk.set (Blk.set (Blk.set (by (repeat' (first | (with_reducible assumption) | ((with_reducible refine Blk.new ?_); first | rfl | (simp; done)) | (with_reducible refine Blk.later (by assumption) ?_) | (with_reducible refine Blk.alloc ?_) | (with_reducible refine Blk.drewN ?_) | (with_reducible refine Blk.drew ?_) | (with_reducible refine Blk.other ?_ (by first | omega | (simp; done) | (simp; omega)))))))) | exact Blk.alloc (Blk.set (Blk.set (Blk.set (by (repeat' (first | (with_reducible assumption) | ((with_reducible refine Blk.new ?_); first | rfl | (simp; done)) | (with_reducible refine Blk.later (by assumption) ?_) | (with_reducible refine Blk.alloc ?_) | (with_reducible refine Blk.drewN ?_) | (with_reducible refine Blk.drew ?_) | (with_reducible refine Blk.other ?_ (by first | omega | (simp; done) | (simp; omega))))))))))
  have kn2 : Blk w1 (w.heap.size + 1 + 1) #[.int .i64 pM, .int .i64 pA, .int .i64 pD, .int .i64 pL, .int .i64 pH] 30 := Blk.later hb (by first | ((repeat' (first | (with_reducible assumption) | ((with_reducible refine Blk.new ?_); first | rfl | (simp; done)) | (with_reducible refine Blk.later (by assumption) ?_) | (with_reducible refine Blk.alloc ?_) | (with_reducible refine Blk.drewN ?_) | (with_reducible refine Blk.drew ?_) | (with_reducible refine Blk.other ?_ (by first | omega | (simp; done) | (simp; omega))))); done) | exact Blk.alloc (Blk.new (by simp)) | exact Blk.set (Blk.set (Blk.set (by (repeat' (first | (with_reducible assumption) | ((with_reducible refine Blk.new ?_); first | rfl | (simp; done)) | (with_reducible refine Blk.later (by assumption) ?_) | (with_reducible refine Blk.alloc ?_) | (with_reducible refine Blk.drewN ?_) | (with_reducible refine Blk.drew ?_) | (with_reducible refine Blk.other ?_ (by first | omega | (simp; done) | (simp; omega)))))))) | exact Blk.alloc (Blk.set (Blk.set (Blk.set (by (repeat' (first | (with_reducible assumption) | ((with_reducible refine Blk.new ?_); first | rfl | (simp; done)) | (with_reducible refine Blk.later (by assumption) ?_) | (with_reducible refine Blk.alloc ?_) | (with_reducible refine Blk.drewN ?_) | (with_reducible refine Blk.drew ?_) | (with_reducible refine Blk.other ?_ (by first | omega | (simp; done) | (simp; omega))))))))))
  have k0 := kn0; clear kn0; obtain ⟨a0, b0⟩ := k0.read; have y0 := k0.lt
  have k1 := kn1; clear kn1; obtain ⟨a1, b1⟩ := k1.read; have y1 := k1.lt
  have k2 := kn2; clear kn2; obtain ⟨a2, b2⟩ := k2.read; have y2 := k2.lt
  have hBw : Below w.heap.size w w1 := by (repeat' (first | (with_reducible exact Below.refl _ _) | (with_reducible assumption) | (with_reducible refine belowThru ?_ (by assumption)) | (with_reducible refine belowAlloc ?_) | (with_reducible refine Below.setCell ?_ (by first | omega | (simp; done) | (simp; omega)) _) | (with_reducible refine Below.drew ?_) | (with_reducible refine below_drewN ?_ _)))
  have hzw1 := hBw.size
  clear hb
  go_wp2_with fail
  refine (sized_yes W H a b n p c d xs ys hI hJ hn hp _ (HR.out.later (by (repeat' (first | (with_reducible exact Below.refl _ _) | (with_reducible assumption) | (with_reducible refine belowThru ?_ (by assumption)) | (with_reducible refine belowAlloc ?_) | (with_reducible refine Below.setCell ?_ (by first | omega | (simp; done) | (simp; omega)) _) | (with_reducible refine Below.drew ?_) | (with_reducible refine below_drewN ?_ _))))) (HS.out.later (by (repeat' (first | (with_reducible exact Below.refl _ _) | (with_reducible assumption) | (with_reducible refine belowThru ?_ (by assumption)) | (with_reducible refine belowAlloc ?_) | (with_reducible refine Below.setCell ?_ (by first | omega | (simp; done) | (simp; omega)) _) | (with_reducible refine Below.drew ?_) | (with_reducible refine below_drewN ?_ _)))))).mono ?_
  rintro e w2 ⟨rfl, hb⟩
  have kn0 : Blk w2 (w.heap.size) #[.int .i64 W, .int .i64 H, .slice a n c] 24 := Blk.later hb (by (repeat' (first | (with_reducible assumption) | ((with_reducible refine Blk.new ?_); first | rfl | (simp; done)) | (with_reducible refine Blk.later (by assumption) ?_) | (with_reducible refine Blk.alloc ?_) | (with_reducible refine Blk.drewN ?_) | (with_reducible refine Blk.drew ?_) | (with_reducible refine Blk.other ?_ (by first | omega | (simp; done) | (simp; omega))))))
  have kn1 : Blk w2 (w.heap.size + 1) #[.int .i64 W, .int .i64 H, .slice b p d] 24 := Blk.later hb (by (repeat' (first | (with_reducible assumption) | ((with_reducible refine Blk.new ?_); first | rfl | (simp; done)) | (with_reducible refine Blk.later (by assumption) ?_) | (with_reducible refine Blk.alloc ?_) | (with_reducible refine Blk.drewN ?_) | (with_reducible refine Blk.drew ?_) | (with_reducible refine Blk.other ?_ (by first | omega | (simp; done) | (simp; omega))))))
  have kn2 : Blk w2 (w.heap.size + 1 + 1) #[.int .i64 pM, .int .i64 pA, .int .i64 pD, .int .i64 pL, .int .i64 pH] 30 := Blk.later hb (by (repeat' (first | (with_reducible assumption) | ((with_reducible refine Blk.new ?_); first | rfl | (simp; done)) | (with_reducible refine Blk.later (by assumption) ?_) | (with_reducible refine Blk.alloc ?_) | (with_reducible refine Blk.drewN ?_) | (with_reducible refine Blk.drew ?_) | (with_reducible refine Blk.other ?_ (by first | omega | (simp; done) | (simp; omega))))))
  clear k0 a0 b0 k1 a1 b1 k2 a2 b2
  have k0 := kn0; clear kn0; obtain ⟨a0, b0⟩ := k0.read; have y0 := k0.lt
  have k1 := kn1; clear kn1; obtain ⟨a1, b1⟩ := k1.read; have y1 := k1.lt
  have k2 := kn2; clear kn2; obtain ⟨a2, b2⟩ := k2.read; have y2 := k2.lt
  replace hBw : Below w.heap.size w w2 := belowThru (by (repeat' (first | (with_reducible exact Below.refl _ _) | (with_reducible assumption) | (with_reducible refine belowThru ?_ (by assumption)) | (with_reducible refine belowAlloc ?_) | (with_reducible refine Below.setCell ?_ (by first | omega | (simp; done) | (simp; omega)) _) | (with_reducible refine Below.drew ?_) | (with_reducible refine below_drewN ?_ _)))) hb
  have hzw2 := hBw.size
  clear hb
  go_wp2_with fail
  refine (rpt_no hP _).mono ?_
  rintro e w3 ⟨rfl, hb⟩
  have kn0 : Blk w3 (w.heap.size) #[.int .i64 W, .int .i64 H, .slice a n c] 24 := Blk.later hb (by (repeat' (first | (with_reducible assumption) | ((with_reducible refine Blk.new ?_); first | rfl | (simp; done)) | (with_reducible refine Blk.later (by assumption) ?_) | (with_reducible refine Blk.alloc ?_) | (with_reducible refine Blk.drewN ?_) | (with_reducible refine Blk.drew ?_) | (with_reducible refine Blk.other ?_ (by first | omega | (simp; done) | (simp; omega))))))
  have kn1 : Blk w3 (w.heap.size + 1) #[.int .i64 W, .int .i64 H, .slice b p d] 24 := Blk.later hb (by (repeat' (first | (with_reducible assumption) | ((with_reducible refine Blk.new ?_); first | rfl | (simp; done)) | (with_reducible refine Blk.later (by assumption) ?_) | (with_reducible refine Blk.alloc ?_) | (with_reducible refine Blk.drewN ?_) | (with_reducible refine Blk.drew ?_) | (with_reducible refine Blk.other ?_ (by first | omega | (simp; done) | (simp; omega))))))
  have kn2 : Blk w3 (w.heap.size + 1 + 1) #[.int .i64 pM, .int .i64 pA, .int .i64 pD, .int .i64 pL, .int .i64 pH] 30 := Blk.later hb (by (repeat' (first | (with_reducible assumption) | ((with_reducible refine Blk.new ?_); first | rfl | (simp; done)) | (with_reducible refine Blk.later (by assumption) ?_) | (with_reducible refine Blk.alloc ?_) | (with_reducible refine Blk.drewN ?_) | (with_reducible refine Blk.drew ?_) | (with_reducible refine Blk.other ?_ (by first | omega | (simp; done) | (simp; omega))))))
  clear k0 a0 b0 k1 a1 b1 k2 a2 b2
  have k0 := kn0; clear kn0; obtain ⟨a0, b0⟩ := k0.read; have y0 := k0.lt
  have k1 := kn1; clear kn1; obtain ⟨a1, b1⟩ := k1.read; have y1 := k1.lt
  have k2 := kn2; clear kn2; obtain ⟨a2, b2⟩ := k2.read; have y2 := k2.lt
  replace hBw : Below w.heap.size w w3 := belowThru (by (repeat' (first | (with_reducible exact Below.refl _ _) | (with_reducible assumption) | (with_reducible refine belowThru ?_ (by assumption)) | (with_reducible refine belowAlloc ?_) | (with_reducible refine Below.setCell ?_ (by first | omega | (simp; done) | (simp; omega)) _) | (with_reducible refine Below.drew ?_) | (with_reducible refine below_drewN ?_ _)))) hb
  have hzw3 := hBw.size
  clear hb
  go_wp2_with fail
  go_ret
  exact ⟨rfl, by (repeat' (first | (with_reducible exact Below.refl _ _) | (with_reducible assumption) | (with_reducible refine belowThru ?_ (by assumption)) | (with_reducible refine belowAlloc ?_) | (with_reducible refine Below.setCell ?_ (by first | omega | (simp; done) | (simp; omega)) _) | (with_reducible refine Below.drew ?_) | (with_reducible refine below_drewN ?_ _)))⟩
set_option maxRecDepth 100000 in
set_option maxHeartbeats 2000000 in
theorem mono_yes (W H pM pA pD pL pH : Int) (a b : Option Addr) (n c d : Nat) (xs ys : List Int) (hn : n ≤ maxLen) (w : World) (hR : Row w a n (iv xs)) (hS : Row w b n (iv ys)) (hI : okI W H xs) (hJ : okI W H ys) (hP : okP pM pA pD pL pH) :
    Calls Try.prog 14 #[.agg #[.int .i64 W, .int .i64 H, .slice a n c], .agg #[.int .i64 W, .int .i64 H, .slice b n d], .agg #[.int .i64 pM, .int .i64 pA, .int .i64 pD, .int .i64 pL, .int .i64 pH]] w fun e w' => e = .returned (.bool true) ∧ Below w.heap.size w w' := by
  have hlx : xs.length = n := by have := hR.1; rwa [iv_length] at this
  obtain ⟨ZL, hZL⟩ : ∃ Z, zipL 3 n xs ys = Z := ⟨_, rfl⟩
  obtain ⟨ZX, hZX⟩ : ∃ Z, ptL pM pA pD pL pH n ZL = Z := ⟨_, rfl⟩
  obtain ⟨ZY, hZY⟩ : ∃ Z, ptL pM pA pD pL pH n xs = Z := ⟨_, rfl⟩
  have lL : Hid (ZL.length = n) := by show _ = _; rw [← hZL]; exact zipL_len
  have lX : Hid (ZX.length = n) := by show _ = _; rw [← hZX]; exact ptL_len
  have lY : Hid (ZY.length = n) := by show _ = _; rw [← hZY]; exact ptL_len
  have iL : okI W H ZL := by rw [← hZL]; exact zipL_ok hI hlx
  have CL : Hid (∀ (a a' : Option Addr) (c c' : Nat) (w : World), Row w a n (iv xs) → Row w a' n (iv ys) → Calls Try.prog 17 #[.agg #[.int .i64 W, .int .i64 H, .slice a n c], .agg #[.int .i64 W, .int .i64 H, .slice a' n c'], .int .u8 3] w (RetI W H ZL 0 w)) := fun a a' c c' w hR hT => by rw [← hZL]; exact zip_ok W H 3 a a' n c c' xs ys hI hJ (by omega) (by omega) hn w hR hT
  have CX : Hid (∀ (a : Option Addr) (c : Nat) (w : World), Row w a n (iv ZL) → Calls Try.prog 15 #[.agg #[.int .i64 W, .int .i64 H, .slice a n c], .agg #[.int .i64 pM, .int .i64 pA, .int .i64 pD, .int .i64 pL, .int .i64 pH]] w (RetI W H ZX 0 w)) := fun a c w hR => by rw [← hZX]; exact point_ok W H pM pA pD pL pH a n c ZL iL hP hn w hR
  have CY : Hid (∀ (a : Option Addr) (c : Nat) (w : World), Row w a n (iv xs) → Calls Try.prog 15 #[.agg #[.int .i64 W, .int .i64 H, .slice a n c], .agg #[.int .i64 pM, .int .i64 pA, .int .i64 pD, .int .i64 pL, .int .i64 pH]] w (RetI W H ZY 0 w)) := fun a c w hR => by rw [← hZY]; exact point_ok W H pM pA pD pL pH a n c xs hI hP hn w hR
  have HB1 : Hid (¬ pM < 0 → ∀ (a b : Option Addr) (c d : Nat) (w : World), Row w a n (iv ZX) → Row w b n (iv ZY) → Calls Try.prog 42 #[.agg #[.int .i64 W, .int .i64 H, .slice a n c], .agg #[.int .i64 W, .int .i64 H, .slice b n d]] w fun e w' => e = .returned (.bool true) ∧ Below w.heap.size w w') := fun h a b c d w h1 h2 => by
    have q := mono_up (n := n) hI hJ hP h
    rw [hZL, hZX, hZY] at q
    rw [← q]; exact below_any W H a b n c d ZX ZY hn w h1 h2
  have HB2 : Hid (¬ 0 < pM → ∀ (a b : Option Addr) (c d : Nat) (w : World), Row w a n (iv ZY) → Row w b n (iv ZX) → Calls Try.prog 42 #[.agg #[.int .i64 W, .int .i64 H, .slice a n c], .agg #[.int .i64 W, .int .i64 H, .slice b n d]] w fun e w' => e = .returned (.bool true) ∧ Below w.heap.size w w') := fun h a b c d w h1 h2 => by
    have q := mono_down (n := n) hI hJ hP h
    rw [hZL, hZX, hZY] at q
    rw [← q]; exact below_any W H a b n c d ZY ZX hn w h1 h2
  have HIN : Hid (∀ (k : Nat) (z : Int), k < n → ZX[k]? = some z → pL ≤ z ∧ z ≤ pH) := fun k z hk hz => by
    have e := ptL_at (pM := pM) (pA := pA) (pD := pD) (pL := pL) (pH := pH) (zs := ZL) hk
    rw [hZX, hz, Option.getD_some] at e
    rw [e]; exact ptV_in hP
  have HI := Lib.hid hI; have HJ := Lib.hid hJ; have HP := Lib.hid hP; have HN := Lib.hid hn
  unfold maxLen at hn
  clear hZL hZX hZY iL hI hJ hP hlx
  have HR := Lib.hid hR
  have HS := Lib.hid hS
  clear hR hS
  go_enter Try.func14, Try.ntmps14
  go_wp2_with fail
  refine (alive_true _).mono ?_
  rintro e w1 ⟨rfl, hb⟩
  have kn0 : Blk w1 (w.heap.size) #[.int .i64 W, .int .i64 H, .slice a n c] 24 := Blk.later hb (by first | ((repeat' (first | (with_reducible assumption) | ((with_reducible refine Blk.new ?_); first | rfl | (simp; done)) | (with_reducible refine Blk.later (by assumption) ?_) | (with_reducible refine Blk.alloc ?_) | (with_reducible refine Blk.drewN ?_) | (with_reducible refine Blk.drew ?_) | (with_reducible refine Blk.other ?_ (by first | omega | (simp; done) | (simp; omega))))); done) | exact Blk.alloc (Blk.new (by simp)) | exact Blk.set (Blk.set (Blk.set (by (repeat' (first | (with_reducible assumption) | ((with_reducible refine Blk.new ?_); first | rfl | (simp; done)) | (with_reducible refine Blk.later (by assumption) ?_) | (with_reducible refine Blk.alloc ?_) | (with_reducible refine Blk.drewN ?_) | (with_reducible refine Blk.drew ?_) | (with_reducible refine Blk.other ?_ (by first | omega | (simp; done) | (simp; omega)))))))) | exact Blk.alloc (Blk.set (Blk.set (Blk.set (by (repeat' (first | (with_reducible assumption) | ((with_reducible refine Blk.new ?_); first | rfl | (simp; done)) | (with_reducible refine Blk.later (by assumption) ?_) | (with_reducible refine Blk.alloc ?_) | (with_reducible refine Blk.drewN ?_) | (with_reducible refine Blk.drew ?_) | (with_reducible refine Blk.other ?_ (by first | omega | (simp; done) | (simp; omega))))))))))
  have kn1 : Blk w1 (w.heap.size + 1) #[.int .i64 W, .int .i64 H, .slice b n d] 24 := Blk.later hb (by first | ((repeat' (first | (with_reducible assumption) | ((with_reducible refine Blk.new ?_); first | rfl | (simp; done)) | (with_reducible refine Blk.later (by assumption) ?_) | (with_reducible refine Blk.alloc ?_) | (with_reducible refine Blk.drewN ?_) | (with_reducible refine Blk.drew ?_) | (with_reducible refine Blk.other ?_ (by first | omega | (simp; done) | (simp; omega))))); done) | exact Blk.alloc (Blk.new (by simp)) | exact Blk.set (Blk.set (Blk.set (by (repeat' (first | (with_reducible assumption) | ((with_reducible refine Blk.new ?_); first | rfl | (simp; done)) | (with_reducible refine Blk.later (by assumption) ?_) | (with_reducible refine Blk.alloc ?_) | (with_reducible refine Blk.drewN ?_) | (with_reducible refine Blk.drew ?_) | (with_reducible refine Blk.other ?_ (by first | omega | (simp; done) | (simp; omega)))))))) | exact Blk.alloc (Blk.set (Blk.set (Blk.set (by (repeat' (first | (with_reducible assumption) | ((with_reducible refine Blk.new ?_); first | rfl | (simp; done)) | (with_reducible refine Blk.later (by assumption) ?_) | (with_reducible refine Blk.alloc ?_) | (with_reducible refine Blk.drewN ?_) | (with_reducible refine Blk.drew ?_) | (with_reducible refine Blk.other ?_ (by first | omega | (simp; done) | (simp; omega))))))))))
  have kn2 : Blk w1 (w.heap.size + 1 + 1) #[.int .i64 pM, .int .i64 pA, .int .i64 pD, .int .i64 pL, .int .i64 pH] 30 := Blk.later hb (by first | ((repeat' (first | (with_reducible assumption) | ((with_reducible refine Blk.new ?_); first | rfl | (simp; done)) | (with_reducible refine Blk.later (by assumption) ?_) | (with_reducible refine Blk.alloc ?_) | (with_reducible refine Blk.drewN ?_) | (with_reducible refine Blk.drew ?_) | (with_reducible refine Blk.other ?_ (by first | omega | (simp; done) | (simp; omega))))); done) | exact Blk.alloc (Blk.new (by simp)) | exact Blk.set (Blk.set (Blk.set (by (repeat' (first | (with_reducible assumption) | ((with_reducible refine Blk.new ?_); first | rfl | (simp; done)) | (with_reducible refine Blk.later (by assumption) ?_) | (with_reducible refine Blk.alloc ?_) | (with_reducible refine Blk.drewN ?_) | (with_reducible refine Blk.drew ?_) | (with_reducible refine Blk.other ?_ (by first | omega | (simp; done) | (simp; omega)))))))) | exact Blk.alloc (Blk.set (Blk.set (Blk.set (by (repeat' (first | (with_reducible assumption) | ((with_reducible refine Blk.new ?_); first | rfl | (simp; done)) | (with_reducible refine Blk.later (by assumption) ?_) | (with_reducible refine Blk.alloc ?_) | (with_reducible refine Blk.drewN ?_) | (with_reducible refine Blk.drew ?_) | (with_reducible refine Blk.other ?_ (by first | omega | (simp; done) | (simp; omega))))))))))
  have k0 := kn0; clear kn0; obtain ⟨a0, b0⟩ := k0.read; have y0 := k0.lt
  have k1 := kn1; clear kn1; obtain ⟨a1, b1⟩ := k1.read; have y1 := k1.lt
  have k2 := kn2; clear kn2; obtain ⟨a2, b2⟩ := k2.read; have y2 := k2.lt
  have hBw : Below w.heap.size w w1 := by (repeat' (first | (with_reducible exact Below.refl _ _) | (with_reducible assumption) | (with_reducible refine belowThru ?_ (by assumption)) | (with_reducible refine belowAlloc ?_) | (with_reducible refine Below.setCell ?_ (by first | omega | (simp; done) | (simp; omega)) _) | (with_reducible refine Below.drew ?_) | (with_reducible refine below_drewN ?_ _)))
  have hzw1 := hBw.size
  clear hb
  go_wp2_with fail
  refine (sized_yes W H a b _ _ c d xs ys HI.out HJ.out HN.out HN.out _ (HR.out.later (by (repeat' (first | (with_reducible exact Below.refl _ _) | (with_reducible assumption) | (with_reducible refine belowThru ?_ (by assumption)) | (with_reducible refine belowAlloc ?_) | (with_reducible refine Below.setCell ?_ (by first | omega | (simp; done) | (simp; omega)) _) | (with_reducible refine Below.drew ?_) | (with_reducible refine below_drewN ?_ _))))) (HS.out.later (by (repeat' (first | (with_reducible exact Below.refl _ _) | (with_reducible assumption) | (with_reducible refine belowThru ?_ (by assumption)) | (with_reducible refine belowAlloc ?_) | (with_reducible refine Below.setCell ?_ (by first | omega | (simp; done) | (simp; omega)) _) | (with_reducible refine Below.drew ?_) | (with_reducible refine below_drewN ?_ _)))))).mono ?_
  rintro e w2 ⟨rfl, hb⟩
  have kn0 : Blk w2 (w.heap.size) #[.int .i64 W, .int .i64 H, .slice a n c] 24 := Blk.later hb (by (repeat' (first | (with_reducible assumption) | ((with_reducible refine Blk.new ?_); first | rfl | (simp; done)) | (with_reducible refine Blk.later (by assumption) ?_) | (with_reducible refine Blk.alloc ?_) | (with_reducible refine Blk.drewN ?_) | (with_reducible refine Blk.drew ?_) | (with_reducible refine Blk.other ?_ (by first | omega | (simp; done) | (simp; omega))))))
  have kn1 : Blk w2 (w.heap.size + 1) #[.int .i64 W, .int .i64 H, .slice b n d] 24 := Blk.later hb (by (repeat' (first | (with_reducible assumption) | ((with_reducible refine Blk.new ?_); first | rfl | (simp; done)) | (with_reducible refine Blk.later (by assumption) ?_) | (with_reducible refine Blk.alloc ?_) | (with_reducible refine Blk.drewN ?_) | (with_reducible refine Blk.drew ?_) | (with_reducible refine Blk.other ?_ (by first | omega | (simp; done) | (simp; omega))))))
  have kn2 : Blk w2 (w.heap.size + 1 + 1) #[.int .i64 pM, .int .i64 pA, .int .i64 pD, .int .i64 pL, .int .i64 pH] 30 := Blk.later hb (by (repeat' (first | (with_reducible assumption) | ((with_reducible refine Blk.new ?_); first | rfl | (simp; done)) | (with_reducible refine Blk.later (by assumption) ?_) | (with_reducible refine Blk.alloc ?_) | (with_reducible refine Blk.drewN ?_) | (with_reducible refine Blk.drew ?_) | (with_reducible refine Blk.other ?_ (by first | omega | (simp; done) | (simp; omega))))))
  clear k0 a0 b0 k1 a1 b1 k2 a2 b2
  have k0 := kn0; clear kn0; obtain ⟨a0, b0⟩ := k0.read; have y0 := k0.lt
  have k1 := kn1; clear kn1; obtain ⟨a1, b1⟩ := k1.read; have y1 := k1.lt
  have k2 := kn2; clear kn2; obtain ⟨a2, b2⟩ := k2.read; have y2 := k2.lt
  replace hBw : Below w.heap.size w w2 := belowThru (by (repeat' (first | (with_reducible exact Below.refl _ _) | (with_reducible assumption) | (with_reducible refine belowThru ?_ (by assumption)) | (with_reducible refine belowAlloc ?_) | (with_reducible refine Below.setCell ?_ (by first | omega | (simp; done) | (simp; omega)) _) | (with_reducible refine Below.drew ?_) | (with_reducible refine below_drewN ?_ _)))) hb
  have hzw2 := hBw.size
  clear hb
  go_wp2_with fail
  refine (rpt_ok HP.out _).mono ?_
  rintro e w3 ⟨rfl, hb⟩
  have kn0 : Blk w3 (w.heap.size) #[.int .i64 W, .int .i64 H, .slice a n c] 24 := Blk.later hb (by (repeat' (first | (with_reducible assumption) | ((with_reducible refine Blk.new ?_); first | rfl | (simp; done)) | (with_reducible refine Blk.later (by assumption) ?_) | (with_reducible refine Blk.alloc ?_) | (with_reducible refine Blk.drewN ?_) | (with_reducible refine Blk.drew ?_) | (with_reducible refine Blk.other ?_ (by first | omega | (simp; done) | (simp; omega))))))
  have kn1 : Blk w3 (w.heap.size + 1) #[.int .i64 W, .int .i64 H, .slice b n d] 24 := Blk.later hb (by (repeat' (first | (with_reducible assumption) | ((with_reducible refine Blk.new ?_); first | rfl | (simp; done)) | (with_reducible refine Blk.later (by assumption) ?_) | (with_reducible refine Blk.alloc ?_) | (with_reducible refine Blk.drewN ?_) | (with_reducible refine Blk.drew ?_) | (with_reducible refine Blk.other ?_ (by first | omega | (simp; done) | (simp; omega))))))
  have kn2 : Blk w3 (w.heap.size + 1 + 1) #[.int .i64 pM, .int .i64 pA, .int .i64 pD, .int .i64 pL, .int .i64 pH] 30 := Blk.later hb (by (repeat' (first | (with_reducible assumption) | ((with_reducible refine Blk.new ?_); first | rfl | (simp; done)) | (with_reducible refine Blk.later (by assumption) ?_) | (with_reducible refine Blk.alloc ?_) | (with_reducible refine Blk.drewN ?_) | (with_reducible refine Blk.drew ?_) | (with_reducible refine Blk.other ?_ (by first | omega | (simp; done) | (simp; omega))))))
  clear k0 a0 b0 k1 a1 b1 k2 a2 b2
  have k0 := kn0; clear kn0; obtain ⟨a0, b0⟩ := k0.read; have y0 := k0.lt
  have k1 := kn1; clear kn1; obtain ⟨a1, b1⟩ := k1.read; have y1 := k1.lt
  have k2 := kn2; clear kn2; obtain ⟨a2, b2⟩ := k2.read; have y2 := k2.lt
  replace hBw : Below w.heap.size w w3 := belowThru (by (repeat' (first | (with_reducible exact Below.refl _ _) | (with_reducible assumption) | (with_reducible refine belowThru ?_ (by assumption)) | (with_reducible refine belowAlloc ?_) | (with_reducible refine Below.setCell ?_ (by first | omega | (simp; done) | (simp; omega)) _) | (with_reducible refine Below.drew ?_) | (with_reducible refine below_drewN ?_ _)))) hb
  have hzw3 := hBw.size
  clear hb
  go_wp2_with fail
  refine (CL.out _ _ _ _ _ (HR.out.later (by (repeat' (first | (with_reducible exact Below.refl _ _) | (with_reducible assumption) | (with_reducible refine belowThru ?_ (by assumption)) | (with_reducible refine belowAlloc ?_) | (with_reducible refine Below.setCell ?_ (by first | omega | (simp; done) | (simp; omega)) _) | (with_reducible refine Below.drew ?_) | (with_reducible refine below_drewN ?_ _))))) (HS.out.later (by (repeat' (first | (with_reducible exact Below.refl _ _) | (with_reducible assumption) | (with_reducible refine belowThru ?_ (by assumption)) | (with_reducible refine belowAlloc ?_) | (with_reducible refine Below.setCell ?_ (by first | omega | (simp; done) | (simp; omega)) _) | (with_reducible refine Below.drew ?_) | (with_reducible refine below_drewN ?_ _)))))).mono ?_
  rintro e w4 ⟨ae1, ne1, ce1, rfl, hN, hb⟩
  have kn0 : Blk w4 (w.heap.size) #[.int .i64 W, .int .i64 H, .slice a n c] 24 := Blk.later hb (by (repeat' (first | (with_reducible assumption) | ((with_reducible refine Blk.new ?_); first | rfl | (simp; done)) | (with_reducible refine Blk.later (by assumption) ?_) | (with_reducible refine Blk.alloc ?_) | (with_reducible refine Blk.drewN ?_) | (with_reducible refine Blk.drew ?_) | (with_reducible refine Blk.other ?_ (by first | omega | (simp; done) | (simp; omega))))))
  have kn1 : Blk w4 (w.heap.size + 1) #[.int .i64 W, .int .i64 H, .slice b n d] 24 := Blk.later hb (by (repeat' (first | (with_reducible assumption) | ((with_reducible refine Blk.new ?_); first | rfl | (simp; done)) | (with_reducible refine Blk.later (by assumption) ?_) | (with_reducible refine Blk.alloc ?_) | (with_reducible refine Blk.drewN ?_) | (with_reducible refine Blk.drew ?_) | (with_reducible refine Blk.other ?_ (by first | omega | (simp; done) | (simp; omega))))))
  have kn2 : Blk w4 (w.heap.size + 1 + 1) #[.int .i64 pM, .int .i64 pA, .int .i64 pD, .int .i64 pL, .int .i64 pH] 30 := Blk.later hb (by (repeat' (first | (with_reducible assumption) | ((with_reducible refine Blk.new ?_); first | rfl | (simp; done)) | (with_reducible refine Blk.later (by assumption) ?_) | (with_reducible refine Blk.alloc ?_) | (with_reducible refine Blk.drewN ?_) | (with_reducible refine Blk.drew ?_) | (with_reducible refine Blk.other ?_ (by first | omega | (simp; done) | (simp; omega))))))
  clear k0 a0 b0 k1 a1 b1 k2 a2 b2
  have k0 := kn0; clear kn0; obtain ⟨a0, b0⟩ := k0.read; have y0 := k0.lt
  have k1 := kn1; clear kn1; obtain ⟨a1, b1⟩ := k1.read; have y1 := k1.lt
  have k2 := kn2; clear kn2; obtain ⟨a2, b2⟩ := k2.read; have y2 := k2.lt
  replace hBw : Below w.heap.size w w4 := belowThru (by (repeat' (first | (with_reducible exact Below.refl _ _) | (with_reducible assumption) | (with_reducible refine belowThru ?_ (by assumption)) | (with_reducible refine belowAlloc ?_) | (with_reducible refine Below.setCell ?_ (by first | omega | (simp; done) | (simp; omega)) _) | (with_reducible refine Below.drew ?_) | (with_reducible refine below_drewN ?_ _)))) hb
  have hzw4 := hBw.size
  clear hb
  have Re1 := Lib.hid hN.row
  have hle1 : Hid (ne1 = (ZL).length) := hN.1.symm
  obtain rfl : n = ne1 := (hle1.out.trans lL.out).symm
  clear hN
  go_wp2_with fail
  refine (CX.out _ _ _ (Re1.out.later (by (repeat' (first | (with_reducible exact Below.refl _ _) | (with_reducible assumption) | (with_reducible refine belowThru ?_ (by assumption)) | (with_reducible refine belowAlloc ?_) | (with_reducible refine Below.setCell ?_ (by first | omega | (simp; done) | (simp; omega)) _) | (with_reducible refine Below.drew ?_) | (with_reducible refine below_drewN ?_ _)))))).mono ?_
  rintro e w5 ⟨ae2, ne2, ce2, rfl, hN, hb⟩
  have kn0 : Blk w5 (w.heap.size) #[.int .i64 W, .int .i64 H, .slice a n c] 24 := Blk.later hb (by (repeat' (first | (with_reducible assumption) | ((with_reducible refine Blk.new ?_); first | rfl | (simp; done)) | (with_reducible refine Blk.later (by assumption) ?_) | (with_reducible refine Blk.alloc ?_) | (with_reducible refine Blk.drewN ?_) | (with_reducible refine Blk.drew ?_) | (with_reducible refine Blk.other ?_ (by first | omega | (simp; done) | (simp; omega))))))
  have kn1 : Blk w5 (w.heap.size + 1) #[.int .i64 W, .int .i64 H, .slice b n d] 24 := Blk.later hb (by (repeat' (first | (with_reducible assumption) | ((with_reducible refine Blk.new ?_); first | rfl | (simp; done)) | (with_reducible refine Blk.later (by assumption) ?_) | (with_reducible refine Blk.alloc ?_) | (with_reducible refine Blk.drewN ?_) | (with_reducible refine Blk.drew ?_) | (with_reducible refine Blk.other ?_ (by first | omega | (simp; done) | (simp; omega))))))
  have kn2 : Blk w5 (w.heap.size + 1 + 1) #[.int .i64 pM, .int .i64 pA, .int .i64 pD, .int .i64 pL, .int .i64 pH] 30 := Blk.later hb (by (repeat' (first | (with_reducible assumption) | ((with_reducible refine Blk.new ?_); first | rfl | (simp; done)) | (with_reducible refine Blk.later (by assumption) ?_) | (with_reducible refine Blk.alloc ?_) | (with_reducible refine Blk.drewN ?_) | (with_reducible refine Blk.drew ?_) | (with_reducible refine Blk.other ?_ (by first | omega | (simp; done) | (simp; omega))))))
  have kn3 : Blk w5 (w4.heap.size) #[.int .i64 W, .int .i64 H, .slice ae1 n ce1] 24 := Blk.later hb (by first | ((repeat' (first | (with_reducible assumption) | ((with_reducible refine Blk.new ?_); first | rfl | (simp; done)) | (with_reducible refine Blk.later (by assumption) ?_) | (with_reducible refine Blk.alloc ?_) | (with_reducible refine Blk.drewN ?_) | (with_reducible refine Blk.drew ?_) | (with_reducible refine Blk.other ?_ (by first | omega | (simp; done) | (simp; omega))))); done) | exact Blk.alloc (Blk.new (by simp)) | exact Blk.set (Blk.set (Blk.set (by (repeat' (first | (with_reducible assumption) | ((with_reducible refine Blk.new ?_); first | rfl | (simp; done)) | (with_reducible refine Blk.later (by assumption) ?_) | (with_reducible refine Blk.alloc ?_) | (with_reducible refine Blk.drewN ?_) | (with_reducible refine Blk.drew ?_) | (with_reducible refine Blk.other ?_ (by first | omega | (simp; done) | (simp; omega)))))))) | exact Blk.alloc (Blk.set (Blk.set (Blk.set (by (repeat' (first | (with_reducible assumption) | ((with_reducible refine Blk.new ?_); first | rfl | (simp; done)) | (with_reducible refine Blk.later (by assumption) ?_) | (with_reducible refine Blk.alloc ?_) | (with_reducible refine Blk.drewN ?_) | (with_reducible refine Blk.drew ?_) | (with_reducible refine Blk.other ?_ (by first | omega | (simp; done) | (simp; omega))))))))))
  clear k0 a0 b0 k1 a1 b1 k2 a2 b2
  have k0 := kn0; clear kn0; obtain ⟨a0, b0⟩ := k0.read; have y0 := k0.lt
  have k1 := kn1; clear kn1; obtain ⟨a1, b1⟩ := k1.read; have y1 := k1.lt
  have k2 := kn2; clear kn2; obtain ⟨a2, b2⟩ := k2.read; have y2 := k2.lt
  have k3 := kn3; clear kn3; obtain ⟨a3, b3⟩ := k3.read; have y3 := k3.lt
  have Re1n := Lib.hid (Re1.out.later (w' := w5) (by (repeat' (first | (with_reducible exact Below.refl _ _) | (with_reducible assumption) | (with_reducible refine belowThru ?_ (by assumption)) | (with_reducible refine belowAlloc ?_) | (with_reducible refine Below.setCell ?_ (by first | omega | (simp; done) | (simp; omega)) _) | (with_reducible refine Below.drew ?_) | (with_reducible refine below_drewN ?_ _))))); clear Re1; have Re1 := Re1n; clear Re1n
  replace hBw : Below w.heap.size w w5 := belowThru (by (repeat' (first | (with_reducible exact Below.refl _ _) | (with_reducible assumption) | (with_reducible refine belowThru ?_ (by assumption)) | (with_reducible refine belowAlloc ?_) | (with_reducible refine Below.setCell ?_ (by first | omega | (simp; done) | (simp; omega)) _) | (with_reducible refine Below.drew ?_) | (with_reducible refine below_drewN ?_ _)))) hb
  have hzw5 := hBw.size
  clear hb
  have Re2 := Lib.hid hN.row
  have hle2 : Hid (ne2 = (ZX).length) := hN.1.symm
  obtain rfl : n = ne2 := (hle2.out.trans lX.out).symm
  clear hN
  go_wp2_with fail
  refine (CY.out _ _ _ (HR.out.later (by (repeat' (first | (with_reducible exact Below.refl _ _) | (with_reducible assumption) | (with_reducible refine belowThru ?_ (by assumption)) | (with_reducible refine belowAlloc ?_) | (with_reducible refine Below.setCell ?_ (by first | omega | (simp; done) | (simp; omega)) _) | (with_reducible refine Below.drew ?_) | (with_reducible refine below_drewN ?_ _)))))).mono ?_
  rintro e w6 ⟨ae3, ne3, ce3, rfl, hN, hb⟩
  have kn0 : Blk w6 (w.heap.size) #[.int .i64 W, .int .i64 H, .slice a n c] 24 := Blk.later hb (by (repeat' (first | (with_reducible assumption) | ((with_reducible refine Blk.new ?_); first | rfl | (simp; done)) | (with_reducible refine Blk.later (by assumption) ?_) | (with_reducible refine Blk.alloc ?_) | (with_reducible refine Blk.drewN ?_) | (with_reducible refine Blk.drew ?_) | (with_reducible refine Blk.other ?_ (by first | omega | (simp; done) | (simp; omega))))))
  have kn1 : Blk w6 (w.heap.size + 1) #[.int .i64 W, .int .i64 H, .slice b n d] 24 := Blk.later hb (by (repeat' (first | (with_reducible assumption) | ((with_reducible refine Blk.new ?_); first | rfl | (simp; done)) | (with_reducible refine Blk.later (by assumption) ?_) | (with_reducible refine Blk.alloc ?_) | (with_reducible refine Blk.drewN ?_) | (with_reducible refine Blk.drew ?_) | (with_reducible refine Blk.other ?_ (by first | omega | (simp; done) | (simp; omega))))))
  have kn2 : Blk w6 (w.heap.size + 1 + 1) #[.int .i64 pM, .int .i64 pA, .int .i64 pD, .int .i64 pL, .int .i64 pH] 30 := Blk.later hb (by (repeat' (first | (with_reducible assumption) | ((with_reducible refine Blk.new ?_); first | rfl | (simp; done)) | (with_reducible refine Blk.later (by assumption) ?_) | (with_reducible refine Blk.alloc ?_) | (with_reducible refine Blk.drewN ?_) | (with_reducible refine Blk.drew ?_) | (with_reducible refine Blk.other ?_ (by first | omega | (simp; done) | (simp; omega))))))
  have kn3 : Blk w6 (w4.heap.size) #[.int .i64 W, .int .i64 H, .slice ae1 n ce1] 24 := Blk.later hb (by (repeat' (first | (with_reducible assumption) | ((with_reducible refine Blk.new ?_); first | rfl | (simp; done)) | (with_reducible refine Blk.later (by assumption) ?_) | (with_reducible refine Blk.alloc ?_) | (with_reducible refine Blk.drewN ?_) | (with_reducible refine Blk.drew ?_) | (with_reducible refine Blk.other ?_ (by first | omega | (simp; done) | (simp; omega))))))
  have kn4 : Blk w6 (w5.heap.size) #[.int .i64 W, .int .i64 H, .slice ae2 n ce2] 24 := Blk.later hb (by first | ((repeat' (first | (with_reducible assumption) | ((with_reducible refine Blk.new ?_); first | rfl | (simp; done)) | (with_reducible refine Blk.later (by assumption) ?_) | (with_reducible refine Blk.alloc ?_) | (with_reducible refine Blk.drewN ?_) | (with_reducible refine Blk.drew ?_) | (with_reducible refine Blk.other ?_ (by first | omega | (simp; done) | (simp; omega))))); done) | exact Blk.alloc (Blk.new (by simp)) | exact Blk.set (Blk.set (Blk.set (by (repeat' (first | (with_reducible assumption) | ((with_reducible refine Blk.new ?_); first | rfl | (simp; done)) | (with_reducible refine Blk.later (by assumption) ?_) | (with_reducible refine Blk.alloc ?_) | (with_reducible refine Blk.drewN ?_) | (with_reducible refine Blk.drew ?_) | (with_reducible refine Blk.other ?_ (by first | omega | (simp; done) | (simp; omega)))))))) | exact Blk.alloc (Blk.set (Blk.set (Blk.set (by (repeat' (first | (with_reducible assumption) | ((with_reducible refine Blk.new ?_); first | rfl | (simp; done)) | (with_reducible refine Blk.later (by assumption) ?_) | (with_reducible refine Blk.alloc ?_) | (with_reducible refine Blk.drewN ?_) | (with_reducible refine Blk.drew ?_) | (with_reducible refine Blk.other ?_ (by first | omega | (simp; done) | (simp; omega))))))))))
  clear k0 a0 b0 k1 a1 b1 k2 a2 b2 k3 a3 b3
  have k0 := kn0; clear kn0; obtain ⟨a0, b0⟩ := k0.read; have y0 := k0.lt
  have k1 := kn1; clear kn1; obtain ⟨a1, b1⟩ := k1.read; have y1 := k1.lt
  have k2 := kn2; clear kn2; obtain ⟨a2, b2⟩ := k2.read; have y2 := k2.lt
  have k3 := kn3; clear kn3; obtain ⟨a3, b3⟩ := k3.read; have y3 := k3.lt
  have k4 := kn4; clear kn4; obtain ⟨a4, b4⟩ := k4.read; have y4 := k4.lt
  have Re1n := Lib.hid (Re1.out.later (w' := w6) (by (repeat' (first | (with_reducible exact Below.refl _ _) | (with_reducible assumption) | (with_reducible refine belowThru ?_ (by assumption)) | (with_reducible refine belowAlloc ?_) | (with_reducible refine Below.setCell ?_ (by first | omega | (simp; done) | (simp; omega)) _) | (with_reducible refine Below.drew ?_) | (with_reducible refine below_drewN ?_ _))))); clear Re1; have Re1 := Re1n; clear Re1n
  have Re2n := Lib.hid (Re2.out.later (w' := w6) (by (repeat' (first | (with_reducible exact Below.refl _ _) | (with_reducible assumption) | (with_reducible refine belowThru ?_ (by assumption)) | (with_reducible refine belowAlloc ?_) | (with_reducible refine Below.setCell ?_ (by first | omega | (simp; done) | (simp; omega)) _) | (with_reducible refine Below.drew ?_) | (with_reducible refine below_drewN ?_ _))))); clear Re2; have Re2 := Re2n; clear Re2n
  replace hBw : Below w.heap.size w w6 := belowThru (by (repeat' (first | (with_reducible exact Below.refl _ _) | (with_reducible assumption) | (with_reducible refine belowThru ?_ (by assumption)) | (with_reducible refine belowAlloc ?_) | (with_reducible refine Below.setCell ?_ (by first | omega | (simp; done) | (simp; omega)) _) | (with_reducible refine Below.drew ?_) | (with_reducible refine below_drewN ?_ _)))) hb
  have hzw6 := hBw.size
  clear hb
  have Re3 := Lib.hid hN.row
  have hle3 : Hid (ne3 = (ZY).length) := hN.1.symm
  obtain rfl : n = ne3 := (hle3.out.trans lY.out).symm
  clear hN
  go_wp2_with fail
  have kn5 : Blk (w6.alloc (.cells #[.int .i64 W, .int .i64 H, .slice ae3 n ce3] 24)) (w6.heap.size) #[.int .i64 W, .int .i64 H, .slice ae3 n ce3] 24 := Blk.new rfl
  have kn0 : Blk (w6.alloc (.cells #[.int .i64 W, .int .i64 H, .slice ae3 n ce3] 24)) (w.heap.size) #[.int .i64 W, .int .i64 H, .slice a n c] 24 := by (repeat' (first | (with_reducible assumption) | ((with_reducible refine Blk.new ?_); first | rfl | (simp; done)) | (with_reducible refine Blk.later (by assumption) ?_) | (with_reducible refine Blk.alloc ?_) | (with_reducible refine Blk.drewN ?_) | (with_reducible refine Blk.drew ?_) | (with_reducible refine Blk.other ?_ (by first | omega | (simp; done) | (simp; omega)))))
  have kn1 : Blk (w6.alloc (.cells #[.int .i64 W, .int .i64 H, .slice ae3 n ce3] 24)) (w.heap.size + 1) #[.int .i64 W, .int .i64 H, .slice b n d] 24 := by (repeat' (first | (with_reducible assumption) | ((with_reducible refine Blk.new ?_); first | rfl | (simp; done)) | (with_reducible refine Blk.later (by assumption) ?_) | (with_reducible refine Blk.alloc ?_) | (with_reducible refine Blk.drewN ?_) | (with_reducible refine Blk.drew ?_) | (with_reducible refine Blk.other ?_ (by first | omega | (simp; done) | (simp; omega)))))
  have kn2 : Blk (w6.alloc (.cells #[.int .i64 W, .int .i64 H, .slice ae3 n ce3] 24)) (w.heap.size + 1 + 1) #[.int .i64 pM, .int .i64 pA, .int .i64 pD, .int .i64 pL, .int .i64 pH] 30 := by (repeat' (first | (with_reducible assumption) | ((with_reducible refine Blk.new ?_); first | rfl | (simp; done)) | (with_reducible refine Blk.later (by assumption) ?_) | (with_reducible refine Blk.alloc ?_) | (with_reducible refine Blk.drewN ?_) | (with_reducible refine Blk.drew ?_) | (with_reducible refine Blk.other ?_ (by first | omega | (simp; done) | (simp; omega)))))
  have kn3 : Blk (w6.alloc (.cells #[.int .i64 W, .int .i64 H, .slice ae3 n ce3] 24)) (w4.heap.size) #[.int .i64 W, .int .i64 H, .slice ae1 n ce1] 24 := by (repeat' (first | (with_reducible assumption) | ((with_reducible refine Blk.new ?_); first | rfl | (simp; done)) | (with_reducible refine Blk.later (by assumption) ?_) | (with_reducible refine Blk.alloc ?_) | (with_reducible refine Blk.drewN ?_) | (with_reducible refine Blk.drew ?_) | (with_reducible refine Blk.other ?_ (by first | omega | (simp; done) | (simp; omega)))))
  have kn4 : Blk (w6.alloc (.cells #[.int .i64 W, .int .i64 H, .slice ae3 n ce3] 24)) (w5.heap.size) #[.int .i64 W, .int .i64 H, .slice ae2 n ce2] 24 := by (repeat' (first | (with_reducible assumption) | ((with_reducible refine Blk.new ?_); first | rfl | (simp; done)) | (with_reducible refine Blk.later (by assumption) ?_) | (with_reducible refine Blk.alloc ?_) | (with_reducible refine Blk.drewN ?_) | (with_reducible refine Blk.drew ?_) | (with_reducible refine Blk.other ?_ (by first | omega | (simp; done) | (simp; omega)))))
  clear k0 a0 b0 y0 k1 a1 b1 y1 k2 a2 b2 y2 k3 a3 b3 y3 k4 a4 b4 y4
  have Re1n := Lib.hid (Re1.out.later (w' := (w6.alloc (.cells #[.int .i64 W, .int .i64 H, .slice ae3 n ce3] 24))) (by (repeat' (first | (with_reducible exact Below.refl _ _) | (with_reducible assumption) | (with_reducible refine belowThru ?_ (by assumption)) | (with_reducible refine belowAlloc ?_) | (with_reducible refine Below.setCell ?_ (by first | omega | (simp; done) | (simp; omega)) _) | (with_reducible refine Below.drew ?_) | (with_reducible refine below_drewN ?_ _))))); clear Re1; have Re1 := Re1n; clear Re1n
  have Re2n := Lib.hid (Re2.out.later (w' := (w6.alloc (.cells #[.int .i64 W, .int .i64 H, .slice ae3 n ce3] 24))) (by (repeat' (first | (with_reducible exact Below.refl _ _) | (with_reducible assumption) | (with_reducible refine belowThru ?_ (by assumption)) | (with_reducible refine belowAlloc ?_) | (with_reducible refine Below.setCell ?_ (by first | omega | (simp; done) | (simp; omega)) _) | (with_reducible refine Below.drew ?_) | (with_reducible refine below_drewN ?_ _))))); clear Re2; have Re2 := Re2n; clear Re2n
  have Re3n := Lib.hid (Re3.out.later (w' := (w6.alloc (.cells #[.int .i64 W, .int .i64 H, .slice ae3 n ce3] 24))) (by (repeat' (first | (with_reducible exact Below.refl _ _) | (with_reducible assumption) | (with_reducible refine belowThru ?_ (by assumption)) | (with_reducible refine belowAlloc ?_) | (with_reducible refine Below.setCell ?_ (by first | omega | (simp; done) | (simp; omega)) _) | (with_reducible refine Below.drew ?_) | (with_reducible refine below_drewN ?_ _))))); clear Re3; have Re3 := Re3n; clear Re3n
  replace hBw : Below w.heap.size w (w6.alloc (.cells #[.int .i64 W, .int .i64 H, .slice ae3 n ce3] 24)) := by (repeat' (first | (with_reducible exact Below.refl _ _) | (with_reducible assumption) | (with_reducible refine belowThru ?_ (by assumption)) | (with_reducible refine belowAlloc ?_) | (with_reducible refine Below.setCell ?_ (by first | omega | (simp; done) | (simp; omega)) _) | (with_reducible refine Below.drew ?_) | (with_reducible refine below_drewN ?_ _)))
  obtain ⟨Wp, hWp⟩ : ∃ Wp, (w6.alloc (.cells #[.int .i64 W, .int .i64 H, .slice ae3 n ce3] 24)) = Wp := ⟨_, rfl⟩
  rw [hWp] at kn0 kn1 kn2 kn3 kn4 kn5 hBw Re1 Re2 Re3 ⊢
  obtain ⟨bz, hbz⟩ : ∃ bz, w6.heap.size = bz := ⟨_, rfl⟩
  rw [hbz] at kn5 ⊢
  clear hWp hbz
  have k0 := kn0; clear kn0; have y0 := k0.lt
  have k1 := kn1; clear kn1; have y1 := k1.lt
  have k2 := kn2; clear kn2; have y2 := k2.lt
  have k3 := kn3; clear kn3; have y3 := k3.lt
  have k4 := kn4; clear kn4; have y4 := k4.lt
  have k5 := kn5; clear kn5; have y5 := k5.lt
  obtain ⟨a2, b2⟩ := k2.read; obtain ⟨a4, b4⟩ := k4.read
  go_loopw [14] (fun s14 wr => ∃ k : Nat, k ≤ n ∧ s14 = .int .i64 k ∧ Below Wp.heap.size Wp wr) (fun s14 _ => n - (intOf s14).toNat)
  case atStart => exact ⟨0, Nat.zero_le _, rfl, Below.refl _ _⟩
  case round =>
    clear a2 b2 a4 b4
    obtain ⟨k, hk, rfl, hB⟩ := hrel
    have q0 := Blk.later hB k0; have q1 := Blk.later hB k1; have q2 := Blk.later hB k2; have q4 := Blk.later hB k4; have q5 := Blk.later hB k5
    obtain ⟨a2, b2⟩ := q2.read; obtain ⟨a4, b4⟩ := q4.read
    by_cases hlt : k < n
    · obtain ⟨bb, oo, z, rfl, hbl, hz, hc⟩ := Re2.out.int hlt
      obtain ⟨z1, z2⟩ := HIN.out k z hlt hz
      have hc := cell_later hB hc
      have p0 : (0 : Int) ≤ (k : Int) := by omega
      have p1 : (k : Int) < (n : Int) := by omega
      have d1 : decide (z < pL) = false := decide_eq_false (by omega)
      have d2 : decide (pH < z) = false := decide_eq_false (by omega)
      clear hz z1 z2
      go_wp2_with fail
      go_quiet (fail)
      go_wp2
      go_roundw
      case rel => exact ⟨k + 1, hlt, by go_num, by (repeat' (first | (with_reducible exact Below.refl _ _) | (with_reducible assumption) | (with_reducible refine belowThru ?_ (by assumption)) | (with_reducible refine belowAlloc ?_) | (with_reducible refine Below.setCell ?_ (by first | omega | (simp; done) | (simp; omega)) _) | (with_reducible refine Below.drew ?_) | (with_reducible refine below_drewN ?_ _)))⟩
      case measure => simp [intOf]; omega
    · have he : k = n := by omega
      subst he
      have RX2 := Lib.hid (Re2.out.later hB); have RY2 := Lib.hid (Re3.out.later hB)
      replace hBw : Below w.heap.size w wr := belowThru hBw hB
      obtain ⟨a5, b5⟩ := q5.read
      clear k0 k1 k2 k4 k5 hk hlt
      by_cases hs : pM < 0
      · have hs2 : ¬ 0 < pM := by omega
        go_wp2_with fail
        refine (HB2.out hs2 _ _ _ _ _ (RY2.out.later (by (repeat' (first | (with_reducible exact Below.refl _ _) | (with_reducible assumption) | (with_reducible refine belowThru ?_ (by assumption)) | (with_reducible refine belowAlloc ?_) | (with_reducible refine Below.setCell ?_ (by first | omega | (simp; done) | (simp; omega)) _) | (with_reducible refine Below.drew ?_) | (with_reducible refine below_drewN ?_ _))))) (RX2.out.later (by (repeat' (first | (with_reducible exact Below.refl _ _) | (with_reducible assumption) | (with_reducible refine belowThru ?_ (by assumption)) | (with_reducible refine belowAlloc ?_) | (with_reducible refine Below.setCell ?_ (by first | omega | (simp; done) | (simp; omega)) _) | (with_reducible refine Below.drew ?_) | (with_reducible refine below_drewN ?_ _)))))).mono ?_
        rintro e we ⟨rfl, hb⟩
        go_wp2_with fail
        go_ret
        exact ⟨rfl, by (repeat' (first | (with_reducible exact Below.refl _ _) | (with_reducible assumption) | (with_reducible refine belowThru ?_ (by assumption)) | (with_reducible refine belowAlloc ?_) | (with_reducible refine Below.setCell ?_ (by first | omega | (simp; done) | (simp; omega)) _) | (with_reducible refine Below.drew ?_) | (with_reducible refine below_drewN ?_ _)))⟩
      · by_cases hs2 : 0 < pM
        · go_wp2_with fail
          refine (HB1.out hs _ _ _ _ _ (RX2.out.later (by (repeat' (first | (with_reducible exact Below.refl _ _) | (with_reducible assumption) | (with_reducible refine belowThru ?_ (by assumption)) | (with_reducible refine belowAlloc ?_) | (with_reducible refine Below.setCell ?_ (by first | omega | (simp; done) | (simp; omega)) _) | (with_reducible refine Below.drew ?_) | (with_reducible refine below_drewN ?_ _))))) (RY2.out.later (by (repeat' (first | (with_reducible exact Below.refl _ _) | (with_reducible assumption) | (with_reducible refine belowThru ?_ (by assumption)) | (with_reducible refine belowAlloc ?_) | (with_reducible refine Below.setCell ?_ (by first | omega | (simp; done) | (simp; omega)) _) | (with_reducible refine Below.drew ?_) | (with_reducible refine below_drewN ?_ _)))))).mono ?_
          rintro e we ⟨rfl, hb⟩
          have q2e := Blk.later hb q2
          obtain ⟨a2e, b2e⟩ := q2e.read
          go_wp2_with fail
          go_ret
          exact ⟨rfl, by (repeat' (first | (with_reducible exact Below.refl _ _) | (with_reducible assumption) | (with_reducible refine belowThru ?_ (by assumption)) | (with_reducible refine belowAlloc ?_) | (with_reducible refine Below.setCell ?_ (by first | omega | (simp; done) | (simp; omega)) _) | (with_reducible refine Below.drew ?_) | (with_reducible refine below_drewN ?_ _)))⟩
        · go_wp2_with fail
          refine (HB1.out hs _ _ _ _ _ (RX2.out.later (by (repeat' (first | (with_reducible exact Below.refl _ _) | (with_reducible assumption) | (with_reducible refine belowThru ?_ (by assumption)) | (with_reducible refine belowAlloc ?_) | (with_reducible refine Below.setCell ?_ (by first | omega | (simp; done) | (simp; omega)) _) | (with_reducible refine Below.drew ?_) | (with_reducible refine below_drewN ?_ _))))) (RY2.out.later (by (repeat' (first | (with_reducible exact Below.refl _ _) | (with_reducible assumption) | (with_reducible refine belowThru ?_ (by assumption)) | (with_reducible refine belowAlloc ?_) | (with_reducible refine Below.setCell ?_ (by first | omega | (simp; done) | (simp; omega)) _) | (with_reducible refine Below.drew ?_) | (with_reducible refine below_drewN ?_ _)))))).mono ?_
          rintro e we ⟨rfl, hb⟩
          have q2e := Blk.later hb q2; have q4e := Blk.later hb q4; have q5e := Blk.later hb q5
          obtain ⟨a2e, b2e⟩ := q2e.read; obtain ⟨a4e, b4e⟩ := q4e.read; obtain ⟨a5e, b5e⟩ := q5e.read
          have RX3 := Lib.hid (RX2.out.later hb); have RY3 := Lib.hid (RY2.out.later hb)
          have hBe : Below w.heap.size w we := belowThru hBw hb
          clear hb a2 b2 a4 b4 a5 b5
          go_wp2_with fail
          refine (HB2.out hs2 _ _ _ _ _ (RY3.out.later (by (repeat' (first | (with_reducible exact Below.refl _ _) | (with_reducible assumption) | (with_reducible refine belowThru ?_ (by assumption)) | (with_reducible refine belowAlloc ?_) | (with_reducible refine Below.setCell ?_ (by first | omega | (simp; done) | (simp; omega)) _) | (with_reducible refine Below.drew ?_) | (with_reducible refine below_drewN ?_ _))))) (RX3.out.later (by (repeat' (first | (with_reducible exact Below.refl _ _) | (with_reducible assumption) | (with_reducible refine belowThru ?_ (by assumption)) | (with_reducible refine belowAlloc ?_) | (with_reducible refine Below.setCell ?_ (by first | omega | (simp; done) | (simp; omega)) _) | (with_reducible refine Below.drew ?_) | (with_reducible refine below_drewN ?_ _)))))).mono ?_
          rintro e wf ⟨rfl, hb⟩
          go_wp2_with fail
          go_ret
          exact ⟨rfl, belowThru hBe hb⟩
theorem mono_true (W H V K pM pA pD pL pH : Int) (a b : Option Addr) (n c p d : Nat) (xs ys : List Int) (hn : n ≤ maxLen) (hp : p ≤ maxLen) (w : World) (hR : Row w a n (iv xs)) (hS : Row w b p (iv ys)) :
    Calls Try.prog 14 #[.agg #[.int .i64 W, .int .i64 H, .slice a n c], .agg #[.int .i64 V, .int .i64 K, .slice b p d], .agg #[.int .i64 pM, .int .i64 pA, .int .i64 pD, .int .i64 pL, .int .i64 pH]] w fun e w' => e = .returned (.bool true) ∧ Below w.heap.size w w' := by
  by_cases hx : okI W H xs ∧ okI V K ys ∧ W = V ∧ H = K
  · obtain ⟨hI, hJ, rfl, rfl⟩ := hx
    by_cases hP : okP pM pA pD pL pH
    · have hlx : xs.length = n := by have := hR.1; rwa [iv_length] at this
      have hly : ys.length = p := by have := hS.1; rwa [iv_length] at this
      obtain rfl : n = p := by have := hI.2.1; have := hJ.2.1; omega
      exact mono_yes W H pM pA pD pL pH a b n c d xs ys hn w hR hS hI hJ hP
    · exact mono_no2 W H W H pM pA pD pL pH a b n c p d xs ys hn hp w hR hS hI hJ rfl rfl hP
  · exact mono_no1 W H V K pM pA pD pL pH a b n c p d xs ys hn hp w hR hS hx
end Go.Proofs.Ytghmjdmiaajbnaa
