/-
  The law GaugeTolerance: the walk.
-/
import Derived.Test.YtbcgebobfnclnaaM6
namespace Go.Proofs.Ytbcgebobfnclnaa
open Go.RowKit Go.Shelf
set_option linter.unusedVariables false
set_option linter.unusedSimpArgs false

set_option maxRecDepth 100000 in
set_option maxHeartbeats 16000000 in
theorem tol_nd (t n s1 s2 s3 s4 l1 l2 h1 h2 o1 o2 o3 o4 nz : Int) (a : Option Addr) (m c : Nat) (zs : List Int) (w : World) (hR : Row w a m (iv zs)) (hl : m ≤ 64) (Z1 Z2 Z3 Z4 V Y1 Y2 Y3 Y4 U X1 X2 X3 X4 C E2 E3 : Int) (hnz : nz < n) (hU : (U != 2) = true) (H1 : Hid (∀ w, Row w a m (iv zs) → Calls Try.prog 27 #[.agg #[.int .i64 t, .int .i64 n, .int .i64 s1, .int .i64 s2, .int .i64 s3, .int .i64 s4, .int .i64 l1, .int .i64 l2, .int .i64 h1, .int .i64 h2], .slice a m c] w fun e w' => e = .returned (.tuple #[.agg #[.int .i64 Z1, .int .i64 Z2, .int .i64 Z3, .int .i64 Z4], .int .u8 3, .int .i64 0]) ∧ Below w.heap.size w w')) (H2 : Hid (∀ w, Row w a m (iv zs) → Calls Try.prog 27 #[.agg #[.int .i64 t, .int .i64 n, .int .i64 s1, .int .i64 s2, .int .i64 s3, .int .i64 s4, .int .i64 o1, .int .i64 o2, .int .i64 o3, .int .i64 o4], .slice a m c] w fun e w' => e = .returned (.tuple #[.agg #[.int .i64 Y1, .int .i64 Y2, .int .i64 Y3, .int .i64 Y4], .int .u8 U, .int .i64 0]) ∧ Below w.heap.size w w')) (H3 : Hid (∀ w, Row w a m (iv zs) → Calls Try.prog 27 #[.agg #[.int .i64 t, .int .i64 nz, .int .i64 s1, .int .i64 s2, .int .i64 s3, .int .i64 s4, .int .i64 l1, .int .i64 l2, .int .i64 h1, .int .i64 h2], .slice a m c] w fun e w' => e = .returned (.tuple #[.agg #[.int .i64 X1, .int .i64 X2, .int .i64 X3, .int .i64 X4], .int .u8 C, .int .i64 0]) ∧ Below w.heap.size w w')) (HI : Hid (∀ w, Calls Try.prog 55 #[.agg #[.int .i64 l1, .int .i64 l2, .int .i64 h1, .int .i64 h2], .agg #[.int .i64 o1, .int .i64 o2, .int .i64 o3, .int .i64 o4]] w fun e w' => e = .returned (.bool true) ∧ Below w.heap.size w w')) :
    Calls Try.prog 14 #[.agg #[.int .i64 t, .int .i64 n, .int .i64 s1, .int .i64 s2, .int .i64 s3, .int .i64 s4, .int .i64 l1, .int .i64 l2, .int .i64 h1, .int .i64 h2], .slice a m c, .agg #[.int .i64 o1, .int .i64 o2], .agg #[.int .i64 o3, .int .i64 o4], .int .i64 nz] w fun e w' => e = .returned (.bool true) ∧ Below w.heap.size w w' := by
  have hd : decide (64 < (m : Int)) = false := by simp; omega
  have hmx : Try.prog.follows .mixedOrders = true := by kernel_rfl
  have HR := Lib.hid hR
  clear hR
  go_enter Try.func14, Try.ntmps14
  go_wp2_with fail
  refine (alive_true _).mono ?_
  rintro e w1 ⟨rfl, hb⟩
  have kn0 : Blk w1 (w.heap.size) #[.int .i64 t, .int .i64 n, .int .i64 s1, .int .i64 s2, .int .i64 s3, .int .i64 s4, .int .i64 l1, .int .i64 l2, .int .i64 h1, .int .i64 h2] 41 := Blk.later hb (by (repeat' first | (with_reducible assumption) | ((with_reducible refine Blk.new ?_); first | rfl | (simp; done)) | (with_reducible refine Blk.alloc ?_)))
  have kn1 : Blk w1 (w.heap.size + 1) #[.int .i64 o1, .int .i64 o2] 23 := Blk.later hb (by (repeat' first | (with_reducible assumption) | ((with_reducible refine Blk.new ?_); first | rfl | (simp; done)) | (with_reducible refine Blk.alloc ?_)))
  have kn2 : Blk w1 (w.heap.size + 1 + 1) #[.int .i64 o3, .int .i64 o4] 23 := Blk.later hb (by (repeat' first | (with_reducible assumption) | ((with_reducible refine Blk.new ?_); first | rfl | (simp; done)) | (with_reducible refine Blk.alloc ?_)))
  have k0 := kn0; clear kn0; obtain ⟨a0, b0⟩ := k0.read; have y0 := k0.lt
  have k1 := kn1; clear kn1; obtain ⟨a1, b1⟩ := k1.read; have y1 := k1.lt
  have k2 := kn2; clear kn2; obtain ⟨a2, b2⟩ := k2.read; have y2 := k2.lt
  have hBw : Below w.heap.size w w1 := by (repeat' first | (with_reducible exact Below.refl _ _) | (with_reducible assumption) | (with_reducible refine belowThru ?_ (by assumption)) | (with_reducible refine belowAlloc ?_))
  have hzw1 := hBw.size
  clear hb
  go_wp2_with fail
  refine (H1.out _ (HR.out.later (by (repeat' first | (with_reducible exact Below.refl _ _) | (with_reducible assumption) | (with_reducible refine belowThru ?_ (by assumption)) | (with_reducible refine belowAlloc ?_))))).mono ?_
  rintro e w2 ⟨rfl, hb⟩
  have kn0 : Blk w2 (w.heap.size) #[.int .i64 t, .int .i64 n, .int .i64 s1, .int .i64 s2, .int .i64 s3, .int .i64 s4, .int .i64 l1, .int .i64 l2, .int .i64 h1, .int .i64 h2] 41 := Blk.later hb (by (repeat' first | (with_reducible assumption) | ((with_reducible refine Blk.new ?_); first | rfl | (simp; done)) | (with_reducible refine Blk.alloc ?_)))
  have kn1 : Blk w2 (w.heap.size + 1) #[.int .i64 o1, .int .i64 o2] 23 := Blk.later hb (by (repeat' first | (with_reducible assumption) | ((with_reducible refine Blk.new ?_); first | rfl | (simp; done)) | (with_reducible refine Blk.alloc ?_)))
  have kn2 : Blk w2 (w.heap.size + 1 + 1) #[.int .i64 o3, .int .i64 o4] 23 := Blk.later hb (by (repeat' first | (with_reducible assumption) | ((with_reducible refine Blk.new ?_); first | rfl | (simp; done)) | (with_reducible refine Blk.alloc ?_)))
  clear k0 a0 b0 y0
  clear k1 a1 b1 y1
  clear k2 a2 b2 y2
  have k0 := kn0; clear kn0; obtain ⟨a0, b0⟩ := k0.read; have y0 := k0.lt
  have k1 := kn1; clear kn1; obtain ⟨a1, b1⟩ := k1.read; have y1 := k1.lt
  have k2 := kn2; clear kn2; obtain ⟨a2, b2⟩ := k2.read; have y2 := k2.lt
  replace hBw : Below w.heap.size w w2 := belowThru (by (repeat' first | (with_reducible exact Below.refl _ _) | (with_reducible assumption) | (with_reducible refine belowThru ?_ (by assumption)) | (with_reducible refine belowAlloc ?_))) hb
  have hzw2 := hBw.size
  clear hb
  go_wp2_with fail
  have hB4w : w.heap.size + 1 + 1 < w2.heap.size + 1 := by omega
  have hB43 : w2.heap.size < w2.heap.size + 1 := by omega
  obtain ⟨Wp, hWp⟩ : ∃ Wp, ((w2.alloc (.cells #[.int .i64 Z1, .int .i64 Z2, .int .i64 Z3, .int .i64 Z4] 30)).alloc (.cells #[.int .i64 t, .int .i64 n, .int .i64 s1, .int .i64 s2, .int .i64 s3, .int .i64 s4, .int .i64 l1, .int .i64 l2, .int .i64 h1, .int .i64 h2] 41)) = Wp := ⟨_, rfl⟩
  have kn0 : Blk Wp (w.heap.size) #[.int .i64 t, .int .i64 n, .int .i64 s1, .int .i64 s2, .int .i64 s3, .int .i64 s4, .int .i64 l1, .int .i64 l2, .int .i64 h1, .int .i64 h2] 41 := by rw [← hWp]; (repeat' first | (with_reducible assumption) | ((with_reducible refine Blk.new ?_); first | rfl | (simp; done)) | (with_reducible refine Blk.alloc ?_))
  have kn1 : Blk Wp (w.heap.size + 1) #[.int .i64 o1, .int .i64 o2] 23 := by rw [← hWp]; (repeat' first | (with_reducible assumption) | ((with_reducible refine Blk.new ?_); first | rfl | (simp; done)) | (with_reducible refine Blk.alloc ?_))
  have kn2 : Blk Wp (w.heap.size + 1 + 1) #[.int .i64 o3, .int .i64 o4] 23 := by rw [← hWp]; (repeat' first | (with_reducible assumption) | ((with_reducible refine Blk.new ?_); first | rfl | (simp; done)) | (with_reducible refine Blk.alloc ?_))
  have kn3 : Blk Wp (w2.heap.size) #[.int .i64 Z1, .int .i64 Z2, .int .i64 Z3, .int .i64 Z4] 30 := by rw [← hWp]; (repeat' first | (with_reducible assumption) | ((with_reducible refine Blk.new ?_); first | rfl | (simp; done)) | (with_reducible refine Blk.alloc ?_))
  have kn4 : Blk Wp (w2.heap.size + 1) #[.int .i64 t, .int .i64 n, .int .i64 s1, .int .i64 s2, .int .i64 s3, .int .i64 s4, .int .i64 l1, .int .i64 l2, .int .i64 h1, .int .i64 h2] 41 := by rw [← hWp]; (repeat' first | (with_reducible assumption) | ((with_reducible refine Blk.new ?_); first | rfl | (simp; done)) | (with_reducible refine Blk.alloc ?_))
  replace hBw : Below w.heap.size w Wp := by rw [← hWp]; (repeat' first | (with_reducible exact Below.refl _ _) | (with_reducible assumption) | (with_reducible refine belowThru ?_ (by assumption)) | (with_reducible refine belowAlloc ?_))
  clear k0 a0 b0 y0
  clear k1 a1 b1 y1
  clear k2 a2 b2 y2
  rw [hWp]
  clear hWp
  have k0 := kn0; clear kn0; have y0 := k0.lt
  have k1 := kn1; clear kn1; have y1 := k1.lt
  have k2 := kn2; clear kn2; have y2 := k2.lt
  have k3 := kn3; clear kn3; have y3 := k3.lt
  have k4 := kn4; clear kn4; have y4 := k4.lt
  obtain ⟨B4, hB4⟩ : ∃ z, w2.heap.size + 1 = z := ⟨_, rfl⟩
  rw [hB4] at k4 y4 hB4w hB43 ⊢
  clear hB4
  refine wp_region_held_drew (S := fun w' => (Blk w' (w.heap.size + 1) #[.int .i64 o1, .int .i64 o2] 23 ∧ (∀ i : Nat, w'.cell? ⟨w.heap.size + 1, i, none⟩ = (#[.int .i64 o1, .int .i64 o2] : Array Value)[i]?)) ∧ (Blk w' (w.heap.size + 1 + 1) #[.int .i64 o3, .int .i64 o4] 23 ∧ (∀ i : Nat, w'.cell? ⟨w.heap.size + 1 + 1, i, none⟩ = (#[.int .i64 o3, .int .i64 o4] : Array Value)[i]?)) ∧ Below w.heap.size w w') hmx ⟨k1.drew.full, k2.drew.full, hBw.drew⟩ (fun hHeld => ?_)
  obtain ⟨Wd, hWd⟩ : ∃ Wd, Wp.drew = Wd := ⟨_, rfl⟩
  have q0 : Blk Wd (w.heap.size) #[.int .i64 t, .int .i64 n, .int .i64 s1, .int .i64 s2, .int .i64 s3, .int .i64 s4, .int .i64 l1, .int .i64 l2, .int .i64 h1, .int .i64 h2] 41 := by rw [← hWd]; exact k0.drew
  have q1 : Blk Wd (w.heap.size + 1) #[.int .i64 o1, .int .i64 o2] 23 := by rw [← hWd]; exact k1.drew
  have q2 : Blk Wd (w.heap.size + 1 + 1) #[.int .i64 o3, .int .i64 o4] 23 := by rw [← hWd]; exact k2.drew
  have q3 : Blk Wd (w2.heap.size) #[.int .i64 Z1, .int .i64 Z2, .int .i64 Z3, .int .i64 Z4] 30 := by rw [← hWd]; exact k3.drew
  have q4 : Blk Wd (B4) #[.int .i64 t, .int .i64 n, .int .i64 s1, .int .i64 s2, .int .i64 s3, .int .i64 s4, .int .i64 l1, .int .i64 l2, .int .i64 h1, .int .i64 h2] 41 := by rw [← hWd]; exact k4.drew
  have hBd : Below w.heap.size w Wd := by rw [← hWd]; exact hBw.drew
  rw [hWd] at hHeld ⊢
  clear hWd k0 k1 k2 k3 k4 y0 y1 y2 y3 y4 hBw
  refine wpAnyH_take (i := 0) (v := ?_) rfl (by kernel_rfl) (by kernel_rfl) (by kernel_rfl) (fun _ _ _ h => h) (Or.inl ⟨by rfl, ?hT0⟩) (by assumption) ?_
  case hT0 => ((intro w hSw; (try dsimp only at hSw); go_simp); try (with_reducible rfl))
  try simp only [Act.put, List.setIfInBounds_toArray, List.set_cons_zero, List.set_cons_succ]
  refine wpAnyH_take (i := 1) (v := ?_) rfl (by kernel_rfl) (by kernel_rfl) (by kernel_rfl) (fun _ _ _ h => h) (Or.inl ⟨by rfl, ?hT1⟩) (by assumption) ?_
  case hT1 => ((intro w hSw; (try dsimp only at hSw); go_simp); try (with_reducible rfl))
  try simp only [Act.put, List.setIfInBounds_toArray, List.set_cons_zero, List.set_cons_succ]
  refine wpAnyH_ready (rs := [2]) (by kernel_rfl) (by simp) ?_
  refine AllReadyH.cons rfl (fun K hK => ?_) AllReadyH.nil
  go_simp
  refine hK.out _ _ ?_ (fun hHeldN => ?_)
  · (try dsimp only); ((first | (apply hold2; (focus assumption); intro p0 p1 pB) | skip); refine ⟨Blk.full ?_, Blk.full ?_, ?_⟩; all_goals (first | ((repeat' first | (with_reducible assumption) | (with_reducible refine Blk.other ?_ (by first | omega | (simp; omega)))); done) | ((repeat' first | (with_reducible exact Below.refl _ _) | (with_reducible assumption) | (with_reducible refine belowThru ?_ (by assumption)) | (with_reducible refine belowAlloc ?_) | (with_reducible refine Below.setCell ?_ (by first | omega | (simp; omega)) _) | (with_reducible refine Below.drew ?_)); done)))
  clear hK K hHeld
  have hHeld := hHeldN
  clear hHeldN
  try simp only [Act.put, List.setIfInBounds_toArray, List.set_cons_zero, List.set_cons_succ]
  obtain ⟨r4, s4'⟩ := q4.read
  refine wpAnyH_ready (rs := [3]) (by kernel_rfl) (by simp) ?_
  refine AllReadyH.cons rfl (fun K hK => ?_) AllReadyH.nil
  go_simp
  refine hK.out _ _ ?_ (fun hHeldN => ?_)
  · (try dsimp only); ((first | (apply hold2; (focus assumption); intro p0 p1 pB) | skip); refine ⟨Blk.full ?_, Blk.full ?_, ?_⟩; all_goals (first | ((repeat' first | (with_reducible assumption) | (with_reducible refine Blk.other ?_ (by first | omega | (simp; omega)))); done) | ((repeat' first | (with_reducible exact Below.refl _ _) | (with_reducible assumption) | (with_reducible refine belowThru ?_ (by assumption)) | (with_reducible refine belowAlloc ?_) | (with_reducible refine Below.setCell ?_ (by first | omega | (simp; omega)) _) | (with_reducible refine Below.drew ?_)); done)))
  clear hK K hHeld
  have hHeld := hHeldN
  clear hHeldN
  try simp only [Act.put, List.setIfInBounds_toArray, List.set_cons_zero, List.set_cons_succ]
  refine wpAnyH_ready (rs := [4]) (by kernel_rfl) (by simp) ?_
  refine AllReadyH.cons rfl (fun K hK => ?_) AllReadyH.nil
  go_simp
  refine hK.out _ _ ?_ (fun hHeldN => ?_)
  · (try dsimp only); ((first | (apply hold2; (focus assumption); intro p0 p1 pB) | skip); refine ⟨Blk.full ?_, Blk.full ?_, ?_⟩; all_goals (first | ((repeat' first | (with_reducible assumption) | (with_reducible refine Blk.other ?_ (by first | omega | (simp; omega)))); done) | ((repeat' first | (with_reducible exact Below.refl _ _) | (with_reducible assumption) | (with_reducible refine belowThru ?_ (by assumption)) | (with_reducible refine belowAlloc ?_) | (with_reducible refine Below.setCell ?_ (by first | omega | (simp; omega)) _) | (with_reducible refine Below.drew ?_)); done)))
  clear hK K hHeld
  have hHeld := hHeldN
  clear hHeldN
  try simp only [Act.put, List.setIfInBounds_toArray, List.set_cons_zero, List.set_cons_succ]
  refine wpAnyH_ready (rs := [5]) (by kernel_rfl) (by simp) ?_
  refine AllReadyH.cons rfl (fun K hK => ?_) AllReadyH.nil
  go_simp
  refine hK.out _ _ ?_ (fun hHeldN => ?_)
  · (try dsimp only); ((first | (apply hold2; (focus assumption); intro p0 p1 pB) | skip); refine ⟨Blk.full ?_, Blk.full ?_, ?_⟩; all_goals (first | ((repeat' first | (with_reducible assumption) | (with_reducible refine Blk.other ?_ (by first | omega | (simp; omega)))); done) | ((repeat' first | (with_reducible exact Below.refl _ _) | (with_reducible assumption) | (with_reducible refine belowThru ?_ (by assumption)) | (with_reducible refine belowAlloc ?_) | (with_reducible refine Below.setCell ?_ (by first | omega | (simp; omega)) _) | (with_reducible refine Below.drew ?_)); done)))
  clear hK K hHeld
  have hHeld := hHeldN
  clear hHeldN
  try simp only [Act.put, List.setIfInBounds_toArray, List.set_cons_zero, List.set_cons_succ]
  refine wpAnyH_done (by kernel_rfl) ?_ _
  obtain ⟨Wq, hWq⟩ : ∃ Wq, ((((Wd.setCell ⟨B4, 6, none⟩ (.int .i64 o1)).setCell ⟨B4, 7, none⟩ (.int .i64 o2)).setCell ⟨B4, 8, none⟩ (.int .i64 o3)).setCell ⟨B4, 9, none⟩ (.int .i64 o4)) = Wq := ⟨_, rfl⟩
  have q5 : Blk Wq B4 #[.int .i64 t, .int .i64 n, .int .i64 s1, .int .i64 s2, .int .i64 s3, .int .i64 s4, .int .i64 o1, .int .i64 o2, .int .i64 o3, .int .i64 o4] 41 := by rw [← hWq]; exact Blk.set (Blk.set (Blk.set (Blk.set q4)))
  have p0 : Blk Wq (w.heap.size) #[.int .i64 t, .int .i64 n, .int .i64 s1, .int .i64 s2, .int .i64 s3, .int .i64 s4, .int .i64 l1, .int .i64 l2, .int .i64 h1, .int .i64 h2] 41 := by rw [← hWq]; (repeat' first | (with_reducible assumption) | (with_reducible refine Blk.other ?_ (by first | omega | (simp; omega))))
  have p1 : Blk Wq (w.heap.size + 1) #[.int .i64 o1, .int .i64 o2] 23 := by rw [← hWq]; (repeat' first | (with_reducible assumption) | (with_reducible refine Blk.other ?_ (by first | omega | (simp; omega))))
  have p2 : Blk Wq (w.heap.size + 1 + 1) #[.int .i64 o3, .int .i64 o4] 23 := by rw [← hWq]; (repeat' first | (with_reducible assumption) | (with_reducible refine Blk.other ?_ (by first | omega | (simp; omega))))
  have p3 : Blk Wq (w2.heap.size) #[.int .i64 Z1, .int .i64 Z2, .int .i64 Z3, .int .i64 Z4] 30 := by rw [← hWq]; (repeat' first | (with_reducible assumption) | (with_reducible refine Blk.other ?_ (by first | omega | (simp; omega))))
  have hBn : Below w.heap.size w Wq := by rw [← hWq]; (repeat' first | (with_reducible exact Below.refl _ _) | (with_reducible assumption) | (with_reducible refine belowThru ?_ (by assumption)) | (with_reducible refine belowAlloc ?_) | (with_reducible refine Below.setCell ?_ (by first | omega | (simp; omega)) _) | (with_reducible refine Below.drew ?_))
  rw [hWq]
  clear hWq q0 q1 q2 q3 q4 r4 s4' hHeld hBd
  have k0 := p0; clear p0; obtain ⟨a0, b0⟩ := k0.read; have y0 := k0.lt
  have k1 := p1; clear p1; obtain ⟨a1, b1⟩ := k1.read; have y1 := k1.lt
  have k2 := p2; clear p2; obtain ⟨a2, b2⟩ := k2.read; have y2 := k2.lt
  have k3 := p3; clear p3; obtain ⟨a3, b3⟩ := k3.read; have y3 := k3.lt
  have k4 := q5; clear q5; obtain ⟨a4, b4⟩ := k4.read; have y4 := k4.lt; have hBw := hBn; clear hBn; have hzq := hBw.size
  go_wp2_with fail
  refine (H2.out _ (HR.out.later (by (repeat' first | (with_reducible exact Below.refl _ _) | (with_reducible assumption) | (with_reducible refine belowThru ?_ (by assumption)) | (with_reducible refine belowAlloc ?_))))).mono ?_
  rintro e w3 ⟨rfl, hb⟩
  have kn0 : Blk w3 (w.heap.size) #[.int .i64 t, .int .i64 n, .int .i64 s1, .int .i64 s2, .int .i64 s3, .int .i64 s4, .int .i64 l1, .int .i64 l2, .int .i64 h1, .int .i64 h2] 41 := Blk.later hb (by (repeat' first | (with_reducible assumption) | ((with_reducible refine Blk.new ?_); first | rfl | (simp; done)) | (with_reducible refine Blk.alloc ?_)))
  have kn1 : Blk w3 (w.heap.size + 1) #[.int .i64 o1, .int .i64 o2] 23 := Blk.later hb (by (repeat' first | (with_reducible assumption) | ((with_reducible refine Blk.new ?_); first | rfl | (simp; done)) | (with_reducible refine Blk.alloc ?_)))
  have kn2 : Blk w3 (w.heap.size + 1 + 1) #[.int .i64 o3, .int .i64 o4] 23 := Blk.later hb (by (repeat' first | (with_reducible assumption) | ((with_reducible refine Blk.new ?_); first | rfl | (simp; done)) | (with_reducible refine Blk.alloc ?_)))
  have kn3 : Blk w3 (w2.heap.size) #[.int .i64 Z1, .int .i64 Z2, .int .i64 Z3, .int .i64 Z4] 30 := Blk.later hb (by (repeat' first | (with_reducible assumption) | ((with_reducible refine Blk.new ?_); first | rfl | (simp; done)) | (with_reducible refine Blk.alloc ?_)))
  have kn4 : Blk w3 (B4) #[.int .i64 t, .int .i64 n, .int .i64 s1, .int .i64 s2, .int .i64 s3, .int .i64 s4, .int .i64 o1, .int .i64 o2, .int .i64 o3, .int .i64 o4] 41 := Blk.later hb (by (repeat' first | (with_reducible assumption) | ((with_reducible refine Blk.new ?_); first | rfl | (simp; done)) | (with_reducible refine Blk.alloc ?_)))
  clear k0 a0 b0 y0
  clear k1 a1 b1 y1
  clear k2 a2 b2 y2
  clear k3 a3 b3 y3
  clear k4 a4 b4 y4
  have k0 := kn0; clear kn0; obtain ⟨a0, b0⟩ := k0.read; have y0 := k0.lt
  have k1 := kn1; clear kn1; obtain ⟨a1, b1⟩ := k1.read; have y1 := k1.lt
  have k2 := kn2; clear kn2; obtain ⟨a2, b2⟩ := k2.read; have y2 := k2.lt
  have k3 := kn3; clear kn3; obtain ⟨a3, b3⟩ := k3.read; have y3 := k3.lt
  have k4 := kn4; clear kn4; obtain ⟨a4, b4⟩ := k4.read; have y4 := k4.lt
  replace hBw : Below w.heap.size w w3 := belowThru (by (repeat' first | (with_reducible exact Below.refl _ _) | (with_reducible assumption) | (with_reducible refine belowThru ?_ (by assumption)) | (with_reducible refine belowAlloc ?_))) hb
  have hzw3 := hBw.size
  clear hb
  go_wp2_with fail
  refine (H3.out _ (HR.out.later (by (repeat' first | (with_reducible exact Below.refl _ _) | (with_reducible assumption) | (with_reducible refine belowThru ?_ (by assumption)) | (with_reducible refine belowAlloc ?_))))).mono ?_
  rintro e w4 ⟨rfl, hb⟩
  have kn0 : Blk w4 (w.heap.size) #[.int .i64 t, .int .i64 n, .int .i64 s1, .int .i64 s2, .int .i64 s3, .int .i64 s4, .int .i64 l1, .int .i64 l2, .int .i64 h1, .int .i64 h2] 41 := Blk.later hb (by (repeat' first | (with_reducible assumption) | ((with_reducible refine Blk.new ?_); first | rfl | (simp; done)) | (with_reducible refine Blk.alloc ?_)))
  have kn1 : Blk w4 (w.heap.size + 1) #[.int .i64 o1, .int .i64 o2] 23 := Blk.later hb (by (repeat' first | (with_reducible assumption) | ((with_reducible refine Blk.new ?_); first | rfl | (simp; done)) | (with_reducible refine Blk.alloc ?_)))
  have kn2 : Blk w4 (w.heap.size + 1 + 1) #[.int .i64 o3, .int .i64 o4] 23 := Blk.later hb (by (repeat' first | (with_reducible assumption) | ((with_reducible refine Blk.new ?_); first | rfl | (simp; done)) | (with_reducible refine Blk.alloc ?_)))
  have kn3 : Blk w4 (w2.heap.size) #[.int .i64 Z1, .int .i64 Z2, .int .i64 Z3, .int .i64 Z4] 30 := Blk.later hb (by (repeat' first | (with_reducible assumption) | ((with_reducible refine Blk.new ?_); first | rfl | (simp; done)) | (with_reducible refine Blk.alloc ?_)))
  have kn4 : Blk w4 (B4) #[.int .i64 t, .int .i64 n, .int .i64 s1, .int .i64 s2, .int .i64 s3, .int .i64 s4, .int .i64 o1, .int .i64 o2, .int .i64 o3, .int .i64 o4] 41 := Blk.later hb (by (repeat' first | (with_reducible assumption) | ((with_reducible refine Blk.new ?_); first | rfl | (simp; done)) | (with_reducible refine Blk.alloc ?_)))
  have kn5 : Blk w4 (w3.heap.size) #[.int .i64 Y1, .int .i64 Y2, .int .i64 Y3, .int .i64 Y4] 30 := Blk.later hb (by (repeat' first | (with_reducible assumption) | ((with_reducible refine Blk.new ?_); first | rfl | (simp; done)) | (with_reducible refine Blk.alloc ?_)))
  have kn6 : Blk w4 (w3.heap.size + 1) #[.int .i64 t, .int .i64 nz, .int .i64 s1, .int .i64 s2, .int .i64 s3, .int .i64 s4, .int .i64 l1, .int .i64 l2, .int .i64 h1, .int .i64 h2] 41 := Blk.later hb (by (repeat' first | (with_reducible assumption) | ((with_reducible refine Blk.new ?_); first | rfl | (simp; done)) | (with_reducible refine Blk.alloc ?_)))
  clear k0 a0 b0 y0
  clear k1 a1 b1 y1
  clear k2 a2 b2 y2
  clear k3 a3 b3 y3
  clear k4 a4 b4 y4
  have k0 := kn0; clear kn0; obtain ⟨a0, b0⟩ := k0.read; have y0 := k0.lt
  have k1 := kn1; clear kn1; obtain ⟨a1, b1⟩ := k1.read; have y1 := k1.lt
  have k2 := kn2; clear kn2; obtain ⟨a2, b2⟩ := k2.read; have y2 := k2.lt
  have k3 := kn3; clear kn3; obtain ⟨a3, b3⟩ := k3.read; have y3 := k3.lt
  have k4 := kn4; clear kn4; obtain ⟨a4, b4⟩ := k4.read; have y4 := k4.lt
  have k5 := kn5; clear kn5; obtain ⟨a5, b5⟩ := k5.read; have y5 := k5.lt
  have k6 := kn6; clear kn6; obtain ⟨a6, b6⟩ := k6.read; have y6 := k6.lt
  replace hBw : Below w.heap.size w w4 := belowThru (by (repeat' first | (with_reducible exact Below.refl _ _) | (with_reducible assumption) | (with_reducible refine belowThru ?_ (by assumption)) | (with_reducible refine belowAlloc ?_))) hb
  have hzw4 := hBw.size
  clear hb
  go_wp2_with fail
  refine (HI.out _).mono ?_
  rintro e w5 ⟨rfl, hb⟩
  have kn0 : Blk w5 (w.heap.size) #[.int .i64 t, .int .i64 n, .int .i64 s1, .int .i64 s2, .int .i64 s3, .int .i64 s4, .int .i64 l1, .int .i64 l2, .int .i64 h1, .int .i64 h2] 41 := Blk.later hb (by (repeat' first | (with_reducible assumption) | ((with_reducible refine Blk.new ?_); first | rfl | (simp; done)) | (with_reducible refine Blk.alloc ?_)))
  have kn1 : Blk w5 (w.heap.size + 1) #[.int .i64 o1, .int .i64 o2] 23 := Blk.later hb (by (repeat' first | (with_reducible assumption) | ((with_reducible refine Blk.new ?_); first | rfl | (simp; done)) | (with_reducible refine Blk.alloc ?_)))
  have kn2 : Blk w5 (w.heap.size + 1 + 1) #[.int .i64 o3, .int .i64 o4] 23 := Blk.later hb (by (repeat' first | (with_reducible assumption) | ((with_reducible refine Blk.new ?_); first | rfl | (simp; done)) | (with_reducible refine Blk.alloc ?_)))
  have kn3 : Blk w5 (w2.heap.size) #[.int .i64 Z1, .int .i64 Z2, .int .i64 Z3, .int .i64 Z4] 30 := Blk.later hb (by (repeat' first | (with_reducible assumption) | ((with_reducible refine Blk.new ?_); first | rfl | (simp; done)) | (with_reducible refine Blk.alloc ?_)))
  have kn4 : Blk w5 (B4) #[.int .i64 t, .int .i64 n, .int .i64 s1, .int .i64 s2, .int .i64 s3, .int .i64 s4, .int .i64 o1, .int .i64 o2, .int .i64 o3, .int .i64 o4] 41 := Blk.later hb (by (repeat' first | (with_reducible assumption) | ((with_reducible refine Blk.new ?_); first | rfl | (simp; done)) | (with_reducible refine Blk.alloc ?_)))
  have kn5 : Blk w5 (w3.heap.size) #[.int .i64 Y1, .int .i64 Y2, .int .i64 Y3, .int .i64 Y4] 30 := Blk.later hb (by (repeat' first | (with_reducible assumption) | ((with_reducible refine Blk.new ?_); first | rfl | (simp; done)) | (with_reducible refine Blk.alloc ?_)))
  have kn6 : Blk w5 (w3.heap.size + 1) #[.int .i64 t, .int .i64 nz, .int .i64 s1, .int .i64 s2, .int .i64 s3, .int .i64 s4, .int .i64 l1, .int .i64 l2, .int .i64 h1, .int .i64 h2] 41 := Blk.later hb (by (repeat' first | (with_reducible assumption) | ((with_reducible refine Blk.new ?_); first | rfl | (simp; done)) | (with_reducible refine Blk.alloc ?_)))
  have kn7 : Blk w5 (w4.heap.size) #[.int .i64 X1, .int .i64 X2, .int .i64 X3, .int .i64 X4] 30 := Blk.later hb (by (repeat' first | (with_reducible assumption) | ((with_reducible refine Blk.new ?_); first | rfl | (simp; done)) | (with_reducible refine Blk.alloc ?_)))
  clear k0 a0 b0 y0
  clear k1 a1 b1 y1
  clear k2 a2 b2 y2
  clear k3 a3 b3 y3
  clear k4 a4 b4 y4
  clear k5 a5 b5 y5
  clear k6 a6 b6 y6
  have k0 := kn0; clear kn0; obtain ⟨a0, b0⟩ := k0.read; have y0 := k0.lt
  have k1 := kn1; clear kn1; obtain ⟨a1, b1⟩ := k1.read; have y1 := k1.lt
  have k2 := kn2; clear kn2; obtain ⟨a2, b2⟩ := k2.read; have y2 := k2.lt
  have k3 := kn3; clear kn3; obtain ⟨a3, b3⟩ := k3.read; have y3 := k3.lt
  have k4 := kn4; clear kn4; obtain ⟨a4, b4⟩ := k4.read; have y4 := k4.lt
  have k5 := kn5; clear kn5; obtain ⟨a5, b5⟩ := k5.read; have y5 := k5.lt
  have k6 := kn6; clear kn6; obtain ⟨a6, b6⟩ := k6.read; have y6 := k6.lt
  have k7 := kn7; clear kn7; obtain ⟨a7, b7⟩ := k7.read; have y7 := k7.lt
  replace hBw : Below w.heap.size w w5 := belowThru (by (repeat' first | (with_reducible exact Below.refl _ _) | (with_reducible assumption) | (with_reducible refine belowThru ?_ (by assumption)) | (with_reducible refine belowAlloc ?_))) hb
  have hzw5 := hBw.size
  clear hb
  go_wp2_with fail
  go_ret
  exact ⟨rfl, by (repeat' first | (with_reducible exact Below.refl _ _) | (with_reducible assumption) | (with_reducible refine belowThru ?_ (by assumption)) | (with_reducible refine belowAlloc ?_))⟩
set_option maxRecDepth 100000 in
set_option maxHeartbeats 16000000 in
theorem tol_1f (t n s1 s2 s3 s4 l1 l2 h1 h2 o1 o2 o3 o4 nz : Int) (a : Option Addr) (m c : Nat) (zs : List Int) (w : World) (hR : Row w a m (iv zs)) (hl : m ≤ 64) (Z1 Z2 Z3 Z4 V Y1 Y2 Y3 Y4 U X1 X2 X3 X4 C E2 E3 : Int) (hnz : ¬ nz < n) (hC : (C == 2) = false) (hE2 : (E2 != 0) = true) (H1 : Hid (∀ w, Row w a m (iv zs) → Calls Try.prog 27 #[.agg #[.int .i64 t, .int .i64 n, .int .i64 s1, .int .i64 s2, .int .i64 s3, .int .i64 s4, .int .i64 l1, .int .i64 l2, .int .i64 h1, .int .i64 h2], .slice a m c] w fun e w' => e = .returned (.tuple #[.agg #[.int .i64 Z1, .int .i64 Z2, .int .i64 Z3, .int .i64 Z4], .int .u8 1, .int .i64 0]) ∧ Below w.heap.size w w')) (H2 : Hid (∀ w, Row w a m (iv zs) → Calls Try.prog 27 #[.agg #[.int .i64 t, .int .i64 n, .int .i64 s1, .int .i64 s2, .int .i64 s3, .int .i64 s4, .int .i64 o1, .int .i64 o2, .int .i64 o3, .int .i64 o4], .slice a m c] w fun e w' => e = .returned (.tuple #[.agg #[.int .i64 Y1, .int .i64 Y2, .int .i64 Y3, .int .i64 Y4], .int .u8 U, .int .i64 E2]) ∧ Below w.heap.size w w')) (H3 : Hid (∀ w, Row w a m (iv zs) → Calls Try.prog 27 #[.agg #[.int .i64 t, .int .i64 nz, .int .i64 s1, .int .i64 s2, .int .i64 s3, .int .i64 s4, .int .i64 l1, .int .i64 l2, .int .i64 h1, .int .i64 h2], .slice a m c] w fun e w' => e = .returned (.tuple #[.agg #[.int .i64 X1, .int .i64 X2, .int .i64 X3, .int .i64 X4], .int .u8 C, .int .i64 0]) ∧ Below w.heap.size w w'))  :
    Calls Try.prog 14 #[.agg #[.int .i64 t, .int .i64 n, .int .i64 s1, .int .i64 s2, .int .i64 s3, .int .i64 s4, .int .i64 l1, .int .i64 l2, .int .i64 h1, .int .i64 h2], .slice a m c, .agg #[.int .i64 o1, .int .i64 o2], .agg #[.int .i64 o3, .int .i64 o4], .int .i64 nz] w fun e w' => e = .returned (.bool true) ∧ Below w.heap.size w w' := by
  have hd : decide (64 < (m : Int)) = false := by simp; omega
  have hmx : Try.prog.follows .mixedOrders = true := by kernel_rfl
  have HR := Lib.hid hR
  clear hR
  go_enter Try.func14, Try.ntmps14
  go_wp2_with fail
  refine (alive_true _).mono ?_
  rintro e w1 ⟨rfl, hb⟩
  have kn0 : Blk w1 (w.heap.size) #[.int .i64 t, .int .i64 n, .int .i64 s1, .int .i64 s2, .int .i64 s3, .int .i64 s4, .int .i64 l1, .int .i64 l2, .int .i64 h1, .int .i64 h2] 41 := Blk.later hb (by (repeat' first | (with_reducible assumption) | ((with_reducible refine Blk.new ?_); first | rfl | (simp; done)) | (with_reducible refine Blk.alloc ?_)))
  have kn1 : Blk w1 (w.heap.size + 1) #[.int .i64 o1, .int .i64 o2] 23 := Blk.later hb (by (repeat' first | (with_reducible assumption) | ((with_reducible refine Blk.new ?_); first | rfl | (simp; done)) | (with_reducible refine Blk.alloc ?_)))
  have kn2 : Blk w1 (w.heap.size + 1 + 1) #[.int .i64 o3, .int .i64 o4] 23 := Blk.later hb (by (repeat' first | (with_reducible assumption) | ((with_reducible refine Blk.new ?_); first | rfl | (simp; done)) | (with_reducible refine Blk.alloc ?_)))
  have k0 := kn0; clear kn0; obtain ⟨a0, b0⟩ := k0.read; have y0 := k0.lt
  have k1 := kn1; clear kn1; obtain ⟨a1, b1⟩ := k1.read; have y1 := k1.lt
  have k2 := kn2; clear kn2; obtain ⟨a2, b2⟩ := k2.read; have y2 := k2.lt
  have hBw : Below w.heap.size w w1 := by (repeat' first | (with_reducible exact Below.refl _ _) | (with_reducible assumption) | (with_reducible refine belowThru ?_ (by assumption)) | (with_reducible refine belowAlloc ?_))
  have hzw1 := hBw.size
  clear hb
  go_wp2_with fail
  refine (H1.out _ (HR.out.later (by (repeat' first | (with_reducible exact Below.refl _ _) | (with_reducible assumption) | (with_reducible refine belowThru ?_ (by assumption)) | (with_reducible refine belowAlloc ?_))))).mono ?_
  rintro e w2 ⟨rfl, hb⟩
  have kn0 : Blk w2 (w.heap.size) #[.int .i64 t, .int .i64 n, .int .i64 s1, .int .i64 s2, .int .i64 s3, .int .i64 s4, .int .i64 l1, .int .i64 l2, .int .i64 h1, .int .i64 h2] 41 := Blk.later hb (by (repeat' first | (with_reducible assumption) | ((with_reducible refine Blk.new ?_); first | rfl | (simp; done)) | (with_reducible refine Blk.alloc ?_)))
  have kn1 : Blk w2 (w.heap.size + 1) #[.int .i64 o1, .int .i64 o2] 23 := Blk.later hb (by (repeat' first | (with_reducible assumption) | ((with_reducible refine Blk.new ?_); first | rfl | (simp; done)) | (with_reducible refine Blk.alloc ?_)))
  have kn2 : Blk w2 (w.heap.size + 1 + 1) #[.int .i64 o3, .int .i64 o4] 23 := Blk.later hb (by (repeat' first | (with_reducible assumption) | ((with_reducible refine Blk.new ?_); first | rfl | (simp; done)) | (with_reducible refine Blk.alloc ?_)))
  clear k0 a0 b0 y0
  clear k1 a1 b1 y1
  clear k2 a2 b2 y2
  have k0 := kn0; clear kn0; obtain ⟨a0, b0⟩ := k0.read; have y0 := k0.lt
  have k1 := kn1; clear kn1; obtain ⟨a1, b1⟩ := k1.read; have y1 := k1.lt
  have k2 := kn2; clear kn2; obtain ⟨a2, b2⟩ := k2.read; have y2 := k2.lt
  replace hBw : Below w.heap.size w w2 := belowThru (by (repeat' first | (with_reducible exact Below.refl _ _) | (with_reducible assumption) | (with_reducible refine belowThru ?_ (by assumption)) | (with_reducible refine belowAlloc ?_))) hb
  have hzw2 := hBw.size
  clear hb
  go_wp2_with fail
  have hB4w : w.heap.size + 1 + 1 < w2.heap.size + 1 := by omega
  have hB43 : w2.heap.size < w2.heap.size + 1 := by omega
  obtain ⟨Wp, hWp⟩ : ∃ Wp, ((w2.alloc (.cells #[.int .i64 Z1, .int .i64 Z2, .int .i64 Z3, .int .i64 Z4] 30)).alloc (.cells #[.int .i64 t, .int .i64 n, .int .i64 s1, .int .i64 s2, .int .i64 s3, .int .i64 s4, .int .i64 l1, .int .i64 l2, .int .i64 h1, .int .i64 h2] 41)) = Wp := ⟨_, rfl⟩
  have kn0 : Blk Wp (w.heap.size) #[.int .i64 t, .int .i64 n, .int .i64 s1, .int .i64 s2, .int .i64 s3, .int .i64 s4, .int .i64 l1, .int .i64 l2, .int .i64 h1, .int .i64 h2] 41 := by rw [← hWp]; (repeat' first | (with_reducible assumption) | ((with_reducible refine Blk.new ?_); first | rfl | (simp; done)) | (with_reducible refine Blk.alloc ?_))
  have kn1 : Blk Wp (w.heap.size + 1) #[.int .i64 o1, .int .i64 o2] 23 := by rw [← hWp]; (repeat' first | (with_reducible assumption) | ((with_reducible refine Blk.new ?_); first | rfl | (simp; done)) | (with_reducible refine Blk.alloc ?_))
  have kn2 : Blk Wp (w.heap.size + 1 + 1) #[.int .i64 o3, .int .i64 o4] 23 := by rw [← hWp]; (repeat' first | (with_reducible assumption) | ((with_reducible refine Blk.new ?_); first | rfl | (simp; done)) | (with_reducible refine Blk.alloc ?_))
  have kn3 : Blk Wp (w2.heap.size) #[.int .i64 Z1, .int .i64 Z2, .int .i64 Z3, .int .i64 Z4] 30 := by rw [← hWp]; (repeat' first | (with_reducible assumption) | ((with_reducible refine Blk.new ?_); first | rfl | (simp; done)) | (with_reducible refine Blk.alloc ?_))
  have kn4 : Blk Wp (w2.heap.size + 1) #[.int .i64 t, .int .i64 n, .int .i64 s1, .int .i64 s2, .int .i64 s3, .int .i64 s4, .int .i64 l1, .int .i64 l2, .int .i64 h1, .int .i64 h2] 41 := by rw [← hWp]; (repeat' first | (with_reducible assumption) | ((with_reducible refine Blk.new ?_); first | rfl | (simp; done)) | (with_reducible refine Blk.alloc ?_))
  replace hBw : Below w.heap.size w Wp := by rw [← hWp]; (repeat' first | (with_reducible exact Below.refl _ _) | (with_reducible assumption) | (with_reducible refine belowThru ?_ (by assumption)) | (with_reducible refine belowAlloc ?_))
  clear k0 a0 b0 y0
  clear k1 a1 b1 y1
  clear k2 a2 b2 y2
  rw [hWp]
  clear hWp
  have k0 := kn0; clear kn0; have y0 := k0.lt
  have k1 := kn1; clear kn1; have y1 := k1.lt
  have k2 := kn2; clear kn2; have y2 := k2.lt
  have k3 := kn3; clear kn3; have y3 := k3.lt
  have k4 := kn4; clear kn4; have y4 := k4.lt
  obtain ⟨B4, hB4⟩ : ∃ z, w2.heap.size + 1 = z := ⟨_, rfl⟩
  rw [hB4] at k4 y4 hB4w hB43 ⊢
  clear hB4
  refine wp_region_held_drew (S := fun w' => (Blk w' (w.heap.size + 1) #[.int .i64 o1, .int .i64 o2] 23 ∧ (∀ i : Nat, w'.cell? ⟨w.heap.size + 1, i, none⟩ = (#[.int .i64 o1, .int .i64 o2] : Array Value)[i]?)) ∧ (Blk w' (w.heap.size + 1 + 1) #[.int .i64 o3, .int .i64 o4] 23 ∧ (∀ i : Nat, w'.cell? ⟨w.heap.size + 1 + 1, i, none⟩ = (#[.int .i64 o3, .int .i64 o4] : Array Value)[i]?)) ∧ Below w.heap.size w w') hmx ⟨k1.drew.full, k2.drew.full, hBw.drew⟩ (fun hHeld => ?_)
  obtain ⟨Wd, hWd⟩ : ∃ Wd, Wp.drew = Wd := ⟨_, rfl⟩
  have q0 : Blk Wd (w.heap.size) #[.int .i64 t, .int .i64 n, .int .i64 s1, .int .i64 s2, .int .i64 s3, .int .i64 s4, .int .i64 l1, .int .i64 l2, .int .i64 h1, .int .i64 h2] 41 := by rw [← hWd]; exact k0.drew
  have q1 : Blk Wd (w.heap.size + 1) #[.int .i64 o1, .int .i64 o2] 23 := by rw [← hWd]; exact k1.drew
  have q2 : Blk Wd (w.heap.size + 1 + 1) #[.int .i64 o3, .int .i64 o4] 23 := by rw [← hWd]; exact k2.drew
  have q3 : Blk Wd (w2.heap.size) #[.int .i64 Z1, .int .i64 Z2, .int .i64 Z3, .int .i64 Z4] 30 := by rw [← hWd]; exact k3.drew
  have q4 : Blk Wd (B4) #[.int .i64 t, .int .i64 n, .int .i64 s1, .int .i64 s2, .int .i64 s3, .int .i64 s4, .int .i64 l1, .int .i64 l2, .int .i64 h1, .int .i64 h2] 41 := by rw [← hWd]; exact k4.drew
  have hBd : Below w.heap.size w Wd := by rw [← hWd]; exact hBw.drew
  rw [hWd] at hHeld ⊢
  clear hWd k0 k1 k2 k3 k4 y0 y1 y2 y3 y4 hBw
  refine wpAnyH_take (i := 0) (v := ?_) rfl (by kernel_rfl) (by kernel_rfl) (by kernel_rfl) (fun _ _ _ h => h) (Or.inl ⟨by rfl, ?hT2⟩) (by assumption) ?_
  case hT2 => ((intro w hSw; (try dsimp only at hSw); go_simp); try (with_reducible rfl))
  try simp only [Act.put, List.setIfInBounds_toArray, List.set_cons_zero, List.set_cons_succ]
  refine wpAnyH_take (i := 1) (v := ?_) rfl (by kernel_rfl) (by kernel_rfl) (by kernel_rfl) (fun _ _ _ h => h) (Or.inl ⟨by rfl, ?hT3⟩) (by assumption) ?_
  case hT3 => ((intro w hSw; (try dsimp only at hSw); go_simp); try (with_reducible rfl))
  try simp only [Act.put, List.setIfInBounds_toArray, List.set_cons_zero, List.set_cons_succ]
  refine wpAnyH_ready (rs := [2]) (by kernel_rfl) (by simp) ?_
  refine AllReadyH.cons rfl (fun K hK => ?_) AllReadyH.nil
  go_simp
  refine hK.out _ _ ?_ (fun hHeldN => ?_)
  · (try dsimp only); ((first | (apply hold2; (focus assumption); intro p0 p1 pB) | skip); refine ⟨Blk.full ?_, Blk.full ?_, ?_⟩; all_goals (first | ((repeat' first | (with_reducible assumption) | (with_reducible refine Blk.other ?_ (by first | omega | (simp; omega)))); done) | ((repeat' first | (with_reducible exact Below.refl _ _) | (with_reducible assumption) | (with_reducible refine belowThru ?_ (by assumption)) | (with_reducible refine belowAlloc ?_) | (with_reducible refine Below.setCell ?_ (by first | omega | (simp; omega)) _) | (with_reducible refine Below.drew ?_)); done)))
  clear hK K hHeld
  have hHeld := hHeldN
  clear hHeldN
  try simp only [Act.put, List.setIfInBounds_toArray, List.set_cons_zero, List.set_cons_succ]
  obtain ⟨r4, s4'⟩ := q4.read
  refine wpAnyH_ready (rs := [3]) (by kernel_rfl) (by simp) ?_
  refine AllReadyH.cons rfl (fun K hK => ?_) AllReadyH.nil
  go_simp
  refine hK.out _ _ ?_ (fun hHeldN => ?_)
  · (try dsimp only); ((first | (apply hold2; (focus assumption); intro p0 p1 pB) | skip); refine ⟨Blk.full ?_, Blk.full ?_, ?_⟩; all_goals (first | ((repeat' first | (with_reducible assumption) | (with_reducible refine Blk.other ?_ (by first | omega | (simp; omega)))); done) | ((repeat' first | (with_reducible exact Below.refl _ _) | (with_reducible assumption) | (with_reducible refine belowThru ?_ (by assumption)) | (with_reducible refine belowAlloc ?_) | (with_reducible refine Below.setCell ?_ (by first | omega | (simp; omega)) _) | (with_reducible refine Below.drew ?_)); done)))
  clear hK K hHeld
  have hHeld := hHeldN
  clear hHeldN
  try simp only [Act.put, List.setIfInBounds_toArray, List.set_cons_zero, List.set_cons_succ]
  refine wpAnyH_ready (rs := [4]) (by kernel_rfl) (by simp) ?_
  refine AllReadyH.cons rfl (fun K hK => ?_) AllReadyH.nil
  go_simp
  refine hK.out _ _ ?_ (fun hHeldN => ?_)
  · (try dsimp only); ((first | (apply hold2; (focus assumption); intro p0 p1 pB) | skip); refine ⟨Blk.full ?_, Blk.full ?_, ?_⟩; all_goals (first | ((repeat' first | (with_reducible assumption) | (with_reducible refine Blk.other ?_ (by first | omega | (simp; omega)))); done) | ((repeat' first | (with_reducible exact Below.refl _ _) | (with_reducible assumption) | (with_reducible refine belowThru ?_ (by assumption)) | (with_reducible refine belowAlloc ?_) | (with_reducible refine Below.setCell ?_ (by first | omega | (simp; omega)) _) | (with_reducible refine Below.drew ?_)); done)))
  clear hK K hHeld
  have hHeld := hHeldN
  clear hHeldN
  try simp only [Act.put, List.setIfInBounds_toArray, List.set_cons_zero, List.set_cons_succ]
  refine wpAnyH_ready (rs := [5]) (by kernel_rfl) (by simp) ?_
  refine AllReadyH.cons rfl (fun K hK => ?_) AllReadyH.nil
  go_simp
  refine hK.out _ _ ?_ (fun hHeldN => ?_)
  · (try dsimp only); ((first | (apply hold2; (focus assumption); intro p0 p1 pB) | skip); refine ⟨Blk.full ?_, Blk.full ?_, ?_⟩; all_goals (first | ((repeat' first | (with_reducible assumption) | (with_reducible refine Blk.other ?_ (by first | omega | (simp; omega)))); done) | ((repeat' first | (with_reducible exact Below.refl _ _) | (with_reducible assumption) | (with_reducible refine belowThru ?_ (by assumption)) | (with_reducible refine belowAlloc ?_) | (with_reducible refine Below.setCell ?_ (by first | omega | (simp; omega)) _) | (with_reducible refine Below.drew ?_)); done)))
  clear hK K hHeld
  have hHeld := hHeldN
  clear hHeldN
  try simp only [Act.put, List.setIfInBounds_toArray, List.set_cons_zero, List.set_cons_succ]
  refine wpAnyH_done (by kernel_rfl) ?_ _
  obtain ⟨Wq, hWq⟩ : ∃ Wq, ((((Wd.setCell ⟨B4, 6, none⟩ (.int .i64 o1)).setCell ⟨B4, 7, none⟩ (.int .i64 o2)).setCell ⟨B4, 8, none⟩ (.int .i64 o3)).setCell ⟨B4, 9, none⟩ (.int .i64 o4)) = Wq := ⟨_, rfl⟩
  have q5 : Blk Wq B4 #[.int .i64 t, .int .i64 n, .int .i64 s1, .int .i64 s2, .int .i64 s3, .int .i64 s4, .int .i64 o1, .int .i64 o2, .int .i64 o3, .int .i64 o4] 41 := by rw [← hWq]; exact Blk.set (Blk.set (Blk.set (Blk.set q4)))
  have p0 : Blk Wq (w.heap.size) #[.int .i64 t, .int .i64 n, .int .i64 s1, .int .i64 s2, .int .i64 s3, .int .i64 s4, .int .i64 l1, .int .i64 l2, .int .i64 h1, .int .i64 h2] 41 := by rw [← hWq]; (repeat' first | (with_reducible assumption) | (with_reducible refine Blk.other ?_ (by first | omega | (simp; omega))))
  have p1 : Blk Wq (w.heap.size + 1) #[.int .i64 o1, .int .i64 o2] 23 := by rw [← hWq]; (repeat' first | (with_reducible assumption) | (with_reducible refine Blk.other ?_ (by first | omega | (simp; omega))))
  have p2 : Blk Wq (w.heap.size + 1 + 1) #[.int .i64 o3, .int .i64 o4] 23 := by rw [← hWq]; (repeat' first | (with_reducible assumption) | (with_reducible refine Blk.other ?_ (by first | omega | (simp; omega))))
  have p3 : Blk Wq (w2.heap.size) #[.int .i64 Z1, .int .i64 Z2, .int .i64 Z3, .int .i64 Z4] 30 := by rw [← hWq]; (repeat' first | (with_reducible assumption) | (with_reducible refine Blk.other ?_ (by first | omega | (simp; omega))))
  have hBn : Below w.heap.size w Wq := by rw [← hWq]; (repeat' first | (with_reducible exact Below.refl _ _) | (with_reducible assumption) | (with_reducible refine belowThru ?_ (by assumption)) | (with_reducible refine belowAlloc ?_) | (with_reducible refine Below.setCell ?_ (by first | omega | (simp; omega)) _) | (with_reducible refine Below.drew ?_))
  rw [hWq]
  clear hWq q0 q1 q2 q3 q4 r4 s4' hHeld hBd
  have k0 := p0; clear p0; obtain ⟨a0, b0⟩ := k0.read; have y0 := k0.lt
  have k1 := p1; clear p1; obtain ⟨a1, b1⟩ := k1.read; have y1 := k1.lt
  have k2 := p2; clear p2; obtain ⟨a2, b2⟩ := k2.read; have y2 := k2.lt
  have k3 := p3; clear p3; obtain ⟨a3, b3⟩ := k3.read; have y3 := k3.lt
  have k4 := q5; clear q5; obtain ⟨a4, b4⟩ := k4.read; have y4 := k4.lt; have hBw := hBn; clear hBn; have hzq := hBw.size
  go_wp2_with fail
  refine (H2.out _ (HR.out.later (by (repeat' first | (with_reducible exact Below.refl _ _) | (with_reducible assumption) | (with_reducible refine belowThru ?_ (by assumption)) | (with_reducible refine belowAlloc ?_))))).mono ?_
  rintro e w3 ⟨rfl, hb⟩
  have kn0 : Blk w3 (w.heap.size) #[.int .i64 t, .int .i64 n, .int .i64 s1, .int .i64 s2, .int .i64 s3, .int .i64 s4, .int .i64 l1, .int .i64 l2, .int .i64 h1, .int .i64 h2] 41 := Blk.later hb (by (repeat' first | (with_reducible assumption) | ((with_reducible refine Blk.new ?_); first | rfl | (simp; done)) | (with_reducible refine Blk.alloc ?_)))
  have kn1 : Blk w3 (w.heap.size + 1) #[.int .i64 o1, .int .i64 o2] 23 := Blk.later hb (by (repeat' first | (with_reducible assumption) | ((with_reducible refine Blk.new ?_); first | rfl | (simp; done)) | (with_reducible refine Blk.alloc ?_)))
  have kn2 : Blk w3 (w.heap.size + 1 + 1) #[.int .i64 o3, .int .i64 o4] 23 := Blk.later hb (by (repeat' first | (with_reducible assumption) | ((with_reducible refine Blk.new ?_); first | rfl | (simp; done)) | (with_reducible refine Blk.alloc ?_)))
  have kn3 : Blk w3 (w2.heap.size) #[.int .i64 Z1, .int .i64 Z2, .int .i64 Z3, .int .i64 Z4] 30 := Blk.later hb (by (repeat' first | (with_reducible assumption) | ((with_reducible refine Blk.new ?_); first | rfl | (simp; done)) | (with_reducible refine Blk.alloc ?_)))
  have kn4 : Blk w3 (B4) #[.int .i64 t, .int .i64 n, .int .i64 s1, .int .i64 s2, .int .i64 s3, .int .i64 s4, .int .i64 o1, .int .i64 o2, .int .i64 o3, .int .i64 o4] 41 := Blk.later hb (by (repeat' first | (with_reducible assumption) | ((with_reducible refine Blk.new ?_); first | rfl | (simp; done)) | (with_reducible refine Blk.alloc ?_)))
  clear k0 a0 b0 y0
  clear k1 a1 b1 y1
  clear k2 a2 b2 y2
  clear k3 a3 b3 y3
  clear k4 a4 b4 y4
  have k0 := kn0; clear kn0; obtain ⟨a0, b0⟩ := k0.read; have y0 := k0.lt
  have k1 := kn1; clear kn1; obtain ⟨a1, b1⟩ := k1.read; have y1 := k1.lt
  have k2 := kn2; clear kn2; obtain ⟨a2, b2⟩ := k2.read; have y2 := k2.lt
  have k3 := kn3; clear kn3; obtain ⟨a3, b3⟩ := k3.read; have y3 := k3.lt
  have k4 := kn4; clear kn4; obtain ⟨a4, b4⟩ := k4.read; have y4 := k4.lt
  replace hBw : Below w.heap.size w w3 := belowThru (by (repeat' first | (with_reducible exact Below.refl _ _) | (with_reducible assumption) | (with_reducible refine belowThru ?_ (by assumption)) | (with_reducible refine belowAlloc ?_))) hb
  have hzw3 := hBw.size
  clear hb
  go_wp2_with fail
  refine (H3.out _ (HR.out.later (by (repeat' first | (with_reducible exact Below.refl _ _) | (with_reducible assumption) | (with_reducible refine belowThru ?_ (by assumption)) | (with_reducible refine belowAlloc ?_))))).mono ?_
  rintro e w4 ⟨rfl, hb⟩
  have kn0 : Blk w4 (w.heap.size) #[.int .i64 t, .int .i64 n, .int .i64 s1, .int .i64 s2, .int .i64 s3, .int .i64 s4, .int .i64 l1, .int .i64 l2, .int .i64 h1, .int .i64 h2] 41 := Blk.later hb (by (repeat' first | (with_reducible assumption) | ((with_reducible refine Blk.new ?_); first | rfl | (simp; done)) | (with_reducible refine Blk.alloc ?_)))
  have kn1 : Blk w4 (w.heap.size + 1) #[.int .i64 o1, .int .i64 o2] 23 := Blk.later hb (by (repeat' first | (with_reducible assumption) | ((with_reducible refine Blk.new ?_); first | rfl | (simp; done)) | (with_reducible refine Blk.alloc ?_)))
  have kn2 : Blk w4 (w.heap.size + 1 + 1) #[.int .i64 o3, .int .i64 o4] 23 := Blk.later hb (by (repeat' first | (with_reducible assumption) | ((with_reducible refine Blk.new ?_); first | rfl | (simp; done)) | (with_reducible refine Blk.alloc ?_)))
  have kn3 : Blk w4 (w2.heap.size) #[.int .i64 Z1, .int .i64 Z2, .int .i64 Z3, .int .i64 Z4] 30 := Blk.later hb (by (repeat' first | (with_reducible assumption) | ((with_reducible refine Blk.new ?_); first | rfl | (simp; done)) | (with_reducible refine Blk.alloc ?_)))
  have kn4 : Blk w4 (B4) #[.int .i64 t, .int .i64 n, .int .i64 s1, .int .i64 s2, .int .i64 s3, .int .i64 s4, .int .i64 o1, .int .i64 o2, .int .i64 o3, .int .i64 o4] 41 := Blk.later hb (by (repeat' first | (with_reducible assumption) | ((with_reducible refine Blk.new ?_); first | rfl | (simp; done)) | (with_reducible refine Blk.alloc ?_)))
  have kn5 : Blk w4 (w3.heap.size) #[.int .i64 Y1, .int .i64 Y2, .int .i64 Y3, .int .i64 Y4] 30 := Blk.later hb (by (repeat' first | (with_reducible assumption) | ((with_reducible refine Blk.new ?_); first | rfl | (simp; done)) | (with_reducible refine Blk.alloc ?_)))
  have kn6 : Blk w4 (w3.heap.size + 1) #[.int .i64 t, .int .i64 nz, .int .i64 s1, .int .i64 s2, .int .i64 s3, .int .i64 s4, .int .i64 l1, .int .i64 l2, .int .i64 h1, .int .i64 h2] 41 := Blk.later hb (by (repeat' first | (with_reducible assumption) | ((with_reducible refine Blk.new ?_); first | rfl | (simp; done)) | (with_reducible refine Blk.alloc ?_)))
  clear k0 a0 b0 y0
  clear k1 a1 b1 y1
  clear k2 a2 b2 y2
  clear k3 a3 b3 y3
  clear k4 a4 b4 y4
  have k0 := kn0; clear kn0; obtain ⟨a0, b0⟩ := k0.read; have y0 := k0.lt
  have k1 := kn1; clear kn1; obtain ⟨a1, b1⟩ := k1.read; have y1 := k1.lt
  have k2 := kn2; clear kn2; obtain ⟨a2, b2⟩ := k2.read; have y2 := k2.lt
  have k3 := kn3; clear kn3; obtain ⟨a3, b3⟩ := k3.read; have y3 := k3.lt
  have k4 := kn4; clear kn4; obtain ⟨a4, b4⟩ := k4.read; have y4 := k4.lt
  have k5 := kn5; clear kn5; obtain ⟨a5, b5⟩ := k5.read; have y5 := k5.lt
  have k6 := kn6; clear kn6; obtain ⟨a6, b6⟩ := k6.read; have y6 := k6.lt
  replace hBw : Below w.heap.size w w4 := belowThru (by (repeat' first | (with_reducible exact Below.refl _ _) | (with_reducible assumption) | (with_reducible refine belowThru ?_ (by assumption)) | (with_reducible refine belowAlloc ?_))) hb
  have hzw4 := hBw.size
  clear hb
  go_wp2_with fail
  go_ret
  exact ⟨rfl, by (repeat' first | (with_reducible exact Below.refl _ _) | (with_reducible assumption) | (with_reducible refine belowThru ?_ (by assumption)) | (with_reducible refine belowAlloc ?_))⟩
set_option maxRecDepth 100000 in
set_option maxHeartbeats 16000000 in
theorem tol_1o (t n s1 s2 s3 s4 l1 l2 h1 h2 o1 o2 o3 o4 nz : Int) (a : Option Addr) (m c : Nat) (zs : List Int) (w : World) (hR : Row w a m (iv zs)) (hl : m ≤ 64) (Z1 Z2 Z3 Z4 V Y1 Y2 Y3 Y4 U X1 X2 X3 X4 C E2 E3 : Int) (hnz : ¬ nz < n) (hC : (C == 2) = false)  (H1 : Hid (∀ w, Row w a m (iv zs) → Calls Try.prog 27 #[.agg #[.int .i64 t, .int .i64 n, .int .i64 s1, .int .i64 s2, .int .i64 s3, .int .i64 s4, .int .i64 l1, .int .i64 l2, .int .i64 h1, .int .i64 h2], .slice a m c] w fun e w' => e = .returned (.tuple #[.agg #[.int .i64 Z1, .int .i64 Z2, .int .i64 Z3, .int .i64 Z4], .int .u8 1, .int .i64 0]) ∧ Below w.heap.size w w')) (H2 : Hid (∀ w, Row w a m (iv zs) → Calls Try.prog 27 #[.agg #[.int .i64 t, .int .i64 n, .int .i64 s1, .int .i64 s2, .int .i64 s3, .int .i64 s4, .int .i64 o1, .int .i64 o2, .int .i64 o3, .int .i64 o4], .slice a m c] w fun e w' => e = .returned (.tuple #[.agg #[.int .i64 Y1, .int .i64 Y2, .int .i64 Y3, .int .i64 Y4], .int .u8 U, .int .i64 0]) ∧ Below w.heap.size w w')) (H3 : Hid (∀ w, Row w a m (iv zs) → Calls Try.prog 27 #[.agg #[.int .i64 t, .int .i64 nz, .int .i64 s1, .int .i64 s2, .int .i64 s3, .int .i64 s4, .int .i64 l1, .int .i64 l2, .int .i64 h1, .int .i64 h2], .slice a m c] w fun e w' => e = .returned (.tuple #[.agg #[.int .i64 X1, .int .i64 X2, .int .i64 X3, .int .i64 X4], .int .u8 C, .int .i64 0]) ∧ Below w.heap.size w w')) (HI : Hid (∀ w, Calls Try.prog 55 #[.agg #[.int .i64 l1, .int .i64 l2, .int .i64 h1, .int .i64 h2], .agg #[.int .i64 o1, .int .i64 o2, .int .i64 o3, .int .i64 o4]] w fun e w' => e = .returned (.bool false) ∧ Below w.heap.size w w')) :
    Calls Try.prog 14 #[.agg #[.int .i64 t, .int .i64 n, .int .i64 s1, .int .i64 s2, .int .i64 s3, .int .i64 s4, .int .i64 l1, .int .i64 l2, .int .i64 h1, .int .i64 h2], .slice a m c, .agg #[.int .i64 o1, .int .i64 o2], .agg #[.int .i64 o3, .int .i64 o4], .int .i64 nz] w fun e w' => e = .returned (.bool true) ∧ Below w.heap.size w w' := by
  have hd : decide (64 < (m : Int)) = false := by simp; omega
  have hmx : Try.prog.follows .mixedOrders = true := by kernel_rfl
  have HR := Lib.hid hR
  clear hR
  go_enter Try.func14, Try.ntmps14
  go_wp2_with fail
  refine (alive_true _).mono ?_
  rintro e w1 ⟨rfl, hb⟩
  have kn0 : Blk w1 (w.heap.size) #[.int .i64 t, .int .i64 n, .int .i64 s1, .int .i64 s2, .int .i64 s3, .int .i64 s4, .int .i64 l1, .int .i64 l2, .int .i64 h1, .int .i64 h2] 41 := Blk.later hb (by (repeat' first | (with_reducible assumption) | ((with_reducible refine Blk.new ?_); first | rfl | (simp; done)) | (with_reducible refine Blk.alloc ?_)))
  have kn1 : Blk w1 (w.heap.size + 1) #[.int .i64 o1, .int .i64 o2] 23 := Blk.later hb (by (repeat' first | (with_reducible assumption) | ((with_reducible refine Blk.new ?_); first | rfl | (simp; done)) | (with_reducible refine Blk.alloc ?_)))
  have kn2 : Blk w1 (w.heap.size + 1 + 1) #[.int .i64 o3, .int .i64 o4] 23 := Blk.later hb (by (repeat' first | (with_reducible assumption) | ((with_reducible refine Blk.new ?_); first | rfl | (simp; done)) | (with_reducible refine Blk.alloc ?_)))
  have k0 := kn0; clear kn0; obtain ⟨a0, b0⟩ := k0.read; have y0 := k0.lt
  have k1 := kn1; clear kn1; obtain ⟨a1, b1⟩ := k1.read; have y1 := k1.lt
  have k2 := kn2; clear kn2; obtain ⟨a2, b2⟩ := k2.read; have y2 := k2.lt
  have hBw : Below w.heap.size w w1 := by (repeat' first | (with_reducible exact Below.refl _ _) | (with_reducible assumption) | (with_reducible refine belowThru ?_ (by assumption)) | (with_reducible refine belowAlloc ?_))
  have hzw1 := hBw.size
  clear hb
  go_wp2_with fail
  refine (H1.out _ (HR.out.later (by (repeat' first | (with_reducible exact Below.refl _ _) | (with_reducible assumption) | (with_reducible refine belowThru ?_ (by assumption)) | (with_reducible refine belowAlloc ?_))))).mono ?_
  rintro e w2 ⟨rfl, hb⟩
  have kn0 : Blk w2 (w.heap.size) #[.int .i64 t, .int .i64 n, .int .i64 s1, .int .i64 s2, .int .i64 s3, .int .i64 s4, .int .i64 l1, .int .i64 l2, .int .i64 h1, .int .i64 h2] 41 := Blk.later hb (by (repeat' first | (with_reducible assumption) | ((with_reducible refine Blk.new ?_); first | rfl | (simp; done)) | (with_reducible refine Blk.alloc ?_)))
  have kn1 : Blk w2 (w.heap.size + 1) #[.int .i64 o1, .int .i64 o2] 23 := Blk.later hb (by (repeat' first | (with_reducible assumption) | ((with_reducible refine Blk.new ?_); first | rfl | (simp; done)) | (with_reducible refine Blk.alloc ?_)))
  have kn2 : Blk w2 (w.heap.size + 1 + 1) #[.int .i64 o3, .int .i64 o4] 23 := Blk.later hb (by (repeat' first | (with_reducible assumption) | ((with_reducible refine Blk.new ?_); first | rfl | (simp; done)) | (with_reducible refine Blk.alloc ?_)))
  clear k0 a0 b0 y0
  clear k1 a1 b1 y1
  clear k2 a2 b2 y2
  have k0 := kn0; clear kn0; obtain ⟨a0, b0⟩ := k0.read; have y0 := k0.lt
  have k1 := kn1; clear kn1; obtain ⟨a1, b1⟩ := k1.read; have y1 := k1.lt
  have k2 := kn2; clear kn2; obtain ⟨a2, b2⟩ := k2.read; have y2 := k2.lt
  replace hBw : Below w.heap.size w w2 := belowThru (by (repeat' first | (with_reducible exact Below.refl _ _) | (with_reducible assumption) | (with_reducible refine belowThru ?_ (by assumption)) | (with_reducible refine belowAlloc ?_))) hb
  have hzw2 := hBw.size
  clear hb
  go_wp2_with fail
  have hB4w : w.heap.size + 1 + 1 < w2.heap.size + 1 := by omega
  have hB43 : w2.heap.size < w2.heap.size + 1 := by omega
  obtain ⟨Wp, hWp⟩ : ∃ Wp, ((w2.alloc (.cells #[.int .i64 Z1, .int .i64 Z2, .int .i64 Z3, .int .i64 Z4] 30)).alloc (.cells #[.int .i64 t, .int .i64 n, .int .i64 s1, .int .i64 s2, .int .i64 s3, .int .i64 s4, .int .i64 l1, .int .i64 l2, .int .i64 h1, .int .i64 h2] 41)) = Wp := ⟨_, rfl⟩
  have kn0 : Blk Wp (w.heap.size) #[.int .i64 t, .int .i64 n, .int .i64 s1, .int .i64 s2, .int .i64 s3, .int .i64 s4, .int .i64 l1, .int .i64 l2, .int .i64 h1, .int .i64 h2] 41 := by rw [← hWp]; (repeat' first | (with_reducible assumption) | ((with_reducible refine Blk.new ?_); first | rfl | (simp; done)) | (with_reducible refine Blk.alloc ?_))
  have kn1 : Blk Wp (w.heap.size + 1) #[.int .i64 o1, .int .i64 o2] 23 := by rw [← hWp]; (repeat' first | (with_reducible assumption) | ((with_reducible refine Blk.new ?_); first | rfl | (simp; done)) | (with_reducible refine Blk.alloc ?_))
  have kn2 : Blk Wp (w.heap.size + 1 + 1) #[.int .i64 o3, .int .i64 o4] 23 := by rw [← hWp]; (repeat' first | (with_reducible assumption) | ((with_reducible refine Blk.new ?_); first | rfl | (simp; done)) | (with_reducible refine Blk.alloc ?_))
  have kn3 : Blk Wp (w2.heap.size) #[.int .i64 Z1, .int .i64 Z2, .int .i64 Z3, .int .i64 Z4] 30 := by rw [← hWp]; (repeat' first | (with_reducible assumption) | ((with_reducible refine Blk.new ?_); first | rfl | (simp; done)) | (with_reducible refine Blk.alloc ?_))
  have kn4 : Blk Wp (w2.heap.size + 1) #[.int .i64 t, .int .i64 n, .int .i64 s1, .int .i64 s2, .int .i64 s3, .int .i64 s4, .int .i64 l1, .int .i64 l2, .int .i64 h1, .int .i64 h2] 41 := by rw [← hWp]; (repeat' first | (with_reducible assumption) | ((with_reducible refine Blk.new ?_); first | rfl | (simp; done)) | (with_reducible refine Blk.alloc ?_))
  replace hBw : Below w.heap.size w Wp := by rw [← hWp]; (repeat' first | (with_reducible exact Below.refl _ _) | (with_reducible assumption) | (with_reducible refine belowThru ?_ (by assumption)) | (with_reducible refine belowAlloc ?_))
  clear k0 a0 b0 y0
  clear k1 a1 b1 y1
  clear k2 a2 b2 y2
  rw [hWp]
  clear hWp
  have k0 := kn0; clear kn0; have y0 := k0.lt
  have k1 := kn1; clear kn1; have y1 := k1.lt
  have k2 := kn2; clear kn2; have y2 := k2.lt
  have k3 := kn3; clear kn3; have y3 := k3.lt
  have k4 := kn4; clear kn4; have y4 := k4.lt
  obtain ⟨B4, hB4⟩ : ∃ z, w2.heap.size + 1 = z := ⟨_, rfl⟩
  rw [hB4] at k4 y4 hB4w hB43 ⊢
  clear hB4
  refine wp_region_held_drew (S := fun w' => (Blk w' (w.heap.size + 1) #[.int .i64 o1, .int .i64 o2] 23 ∧ (∀ i : Nat, w'.cell? ⟨w.heap.size + 1, i, none⟩ = (#[.int .i64 o1, .int .i64 o2] : Array Value)[i]?)) ∧ (Blk w' (w.heap.size + 1 + 1) #[.int .i64 o3, .int .i64 o4] 23 ∧ (∀ i : Nat, w'.cell? ⟨w.heap.size + 1 + 1, i, none⟩ = (#[.int .i64 o3, .int .i64 o4] : Array Value)[i]?)) ∧ Below w.heap.size w w') hmx ⟨k1.drew.full, k2.drew.full, hBw.drew⟩ (fun hHeld => ?_)
  obtain ⟨Wd, hWd⟩ : ∃ Wd, Wp.drew = Wd := ⟨_, rfl⟩
  have q0 : Blk Wd (w.heap.size) #[.int .i64 t, .int .i64 n, .int .i64 s1, .int .i64 s2, .int .i64 s3, .int .i64 s4, .int .i64 l1, .int .i64 l2, .int .i64 h1, .int .i64 h2] 41 := by rw [← hWd]; exact k0.drew
  have q1 : Blk Wd (w.heap.size + 1) #[.int .i64 o1, .int .i64 o2] 23 := by rw [← hWd]; exact k1.drew
  have q2 : Blk Wd (w.heap.size + 1 + 1) #[.int .i64 o3, .int .i64 o4] 23 := by rw [← hWd]; exact k2.drew
  have q3 : Blk Wd (w2.heap.size) #[.int .i64 Z1, .int .i64 Z2, .int .i64 Z3, .int .i64 Z4] 30 := by rw [← hWd]; exact k3.drew
  have q4 : Blk Wd (B4) #[.int .i64 t, .int .i64 n, .int .i64 s1, .int .i64 s2, .int .i64 s3, .int .i64 s4, .int .i64 l1, .int .i64 l2, .int .i64 h1, .int .i64 h2] 41 := by rw [← hWd]; exact k4.drew
  have hBd : Below w.heap.size w Wd := by rw [← hWd]; exact hBw.drew
  rw [hWd] at hHeld ⊢
  clear hWd k0 k1 k2 k3 k4 y0 y1 y2 y3 y4 hBw
  refine wpAnyH_take (i := 0) (v := ?_) rfl (by kernel_rfl) (by kernel_rfl) (by kernel_rfl) (fun _ _ _ h => h) (Or.inl ⟨by rfl, ?hT4⟩) (by assumption) ?_
  case hT4 => ((intro w hSw; (try dsimp only at hSw); go_simp); try (with_reducible rfl))
  try simp only [Act.put, List.setIfInBounds_toArray, List.set_cons_zero, List.set_cons_succ]
  refine wpAnyH_take (i := 1) (v := ?_) rfl (by kernel_rfl) (by kernel_rfl) (by kernel_rfl) (fun _ _ _ h => h) (Or.inl ⟨by rfl, ?hT5⟩) (by assumption) ?_
  case hT5 => ((intro w hSw; (try dsimp only at hSw); go_simp); try (with_reducible rfl))
  try simp only [Act.put, List.setIfInBounds_toArray, List.set_cons_zero, List.set_cons_succ]
  refine wpAnyH_ready (rs := [2]) (by kernel_rfl) (by simp) ?_
  refine AllReadyH.cons rfl (fun K hK => ?_) AllReadyH.nil
  go_simp
  refine hK.out _ _ ?_ (fun hHeldN => ?_)
  · (try dsimp only); ((first | (apply hold2; (focus assumption); intro p0 p1 pB) | skip); refine ⟨Blk.full ?_, Blk.full ?_, ?_⟩; all_goals (first | ((repeat' first | (with_reducible assumption) | (with_reducible refine Blk.other ?_ (by first | omega | (simp; omega)))); done) | ((repeat' first | (with_reducible exact Below.refl _ _) | (with_reducible assumption) | (with_reducible refine belowThru ?_ (by assumption)) | (with_reducible refine belowAlloc ?_) | (with_reducible refine Below.setCell ?_ (by first | omega | (simp; omega)) _) | (with_reducible refine Below.drew ?_)); done)))
  clear hK K hHeld
  have hHeld := hHeldN
  clear hHeldN
  try simp only [Act.put, List.setIfInBounds_toArray, List.set_cons_zero, List.set_cons_succ]
  obtain ⟨r4, s4'⟩ := q4.read
  refine wpAnyH_ready (rs := [3]) (by kernel_rfl) (by simp) ?_
  refine AllReadyH.cons rfl (fun K hK => ?_) AllReadyH.nil
  go_simp
  refine hK.out _ _ ?_ (fun hHeldN => ?_)
  · (try dsimp only); ((first | (apply hold2; (focus assumption); intro p0 p1 pB) | skip); refine ⟨Blk.full ?_, Blk.full ?_, ?_⟩; all_goals (first | ((repeat' first | (with_reducible assumption) | (with_reducible refine Blk.other ?_ (by first | omega | (simp; omega)))); done) | ((repeat' first | (with_reducible exact Below.refl _ _) | (with_reducible assumption) | (with_reducible refine belowThru ?_ (by assumption)) | (with_reducible refine belowAlloc ?_) | (with_reducible refine Below.setCell ?_ (by first | omega | (simp; omega)) _) | (with_reducible refine Below.drew ?_)); done)))
  clear hK K hHeld
  have hHeld := hHeldN
  clear hHeldN
  try simp only [Act.put, List.setIfInBounds_toArray, List.set_cons_zero, List.set_cons_succ]
  refine wpAnyH_ready (rs := [4]) (by kernel_rfl) (by simp) ?_
  refine AllReadyH.cons rfl (fun K hK => ?_) AllReadyH.nil
  go_simp
  refine hK.out _ _ ?_ (fun hHeldN => ?_)
  · (try dsimp only); ((first | (apply hold2; (focus assumption); intro p0 p1 pB) | skip); refine ⟨Blk.full ?_, Blk.full ?_, ?_⟩; all_goals (first | ((repeat' first | (with_reducible assumption) | (with_reducible refine Blk.other ?_ (by first | omega | (simp; omega)))); done) | ((repeat' first | (with_reducible exact Below.refl _ _) | (with_reducible assumption) | (with_reducible refine belowThru ?_ (by assumption)) | (with_reducible refine belowAlloc ?_) | (with_reducible refine Below.setCell ?_ (by first | omega | (simp; omega)) _) | (with_reducible refine Below.drew ?_)); done)))
  clear hK K hHeld
  have hHeld := hHeldN
  clear hHeldN
  try simp only [Act.put, List.setIfInBounds_toArray, List.set_cons_zero, List.set_cons_succ]
  refine wpAnyH_ready (rs := [5]) (by kernel_rfl) (by simp) ?_
  refine AllReadyH.cons rfl (fun K hK => ?_) AllReadyH.nil
  go_simp
  refine hK.out _ _ ?_ (fun hHeldN => ?_)
  · (try dsimp only); ((first | (apply hold2; (focus assumption); intro p0 p1 pB) | skip); refine ⟨Blk.full ?_, Blk.full ?_, ?_⟩; all_goals (first | ((repeat' first | (with_reducible assumption) | (with_reducible refine Blk.other ?_ (by first | omega | (simp; omega)))); done) | ((repeat' first | (with_reducible exact Below.refl _ _) | (with_reducible assumption) | (with_reducible refine belowThru ?_ (by assumption)) | (with_reducible refine belowAlloc ?_) | (with_reducible refine Below.setCell ?_ (by first | omega | (simp; omega)) _) | (with_reducible refine Below.drew ?_)); done)))
  clear hK K hHeld
  have hHeld := hHeldN
  clear hHeldN
  try simp only [Act.put, List.setIfInBounds_toArray, List.set_cons_zero, List.set_cons_succ]
  refine wpAnyH_done (by kernel_rfl) ?_ _
  obtain ⟨Wq, hWq⟩ : ∃ Wq, ((((Wd.setCell ⟨B4, 6, none⟩ (.int .i64 o1)).setCell ⟨B4, 7, none⟩ (.int .i64 o2)).setCell ⟨B4, 8, none⟩ (.int .i64 o3)).setCell ⟨B4, 9, none⟩ (.int .i64 o4)) = Wq := ⟨_, rfl⟩
  have q5 : Blk Wq B4 #[.int .i64 t, .int .i64 n, .int .i64 s1, .int .i64 s2, .int .i64 s3, .int .i64 s4, .int .i64 o1, .int .i64 o2, .int .i64 o3, .int .i64 o4] 41 := by rw [← hWq]; exact Blk.set (Blk.set (Blk.set (Blk.set q4)))
  have p0 : Blk Wq (w.heap.size) #[.int .i64 t, .int .i64 n, .int .i64 s1, .int .i64 s2, .int .i64 s3, .int .i64 s4, .int .i64 l1, .int .i64 l2, .int .i64 h1, .int .i64 h2] 41 := by rw [← hWq]; (repeat' first | (with_reducible assumption) | (with_reducible refine Blk.other ?_ (by first | omega | (simp; omega))))
  have p1 : Blk Wq (w.heap.size + 1) #[.int .i64 o1, .int .i64 o2] 23 := by rw [← hWq]; (repeat' first | (with_reducible assumption) | (with_reducible refine Blk.other ?_ (by first | omega | (simp; omega))))
  have p2 : Blk Wq (w.heap.size + 1 + 1) #[.int .i64 o3, .int .i64 o4] 23 := by rw [← hWq]; (repeat' first | (with_reducible assumption) | (with_reducible refine Blk.other ?_ (by first | omega | (simp; omega))))
  have p3 : Blk Wq (w2.heap.size) #[.int .i64 Z1, .int .i64 Z2, .int .i64 Z3, .int .i64 Z4] 30 := by rw [← hWq]; (repeat' first | (with_reducible assumption) | (with_reducible refine Blk.other ?_ (by first | omega | (simp; omega))))
  have hBn : Below w.heap.size w Wq := by rw [← hWq]; (repeat' first | (with_reducible exact Below.refl _ _) | (with_reducible assumption) | (with_reducible refine belowThru ?_ (by assumption)) | (with_reducible refine belowAlloc ?_) | (with_reducible refine Below.setCell ?_ (by first | omega | (simp; omega)) _) | (with_reducible refine Below.drew ?_))
  rw [hWq]
  clear hWq q0 q1 q2 q3 q4 r4 s4' hHeld hBd
  have k0 := p0; clear p0; obtain ⟨a0, b0⟩ := k0.read; have y0 := k0.lt
  have k1 := p1; clear p1; obtain ⟨a1, b1⟩ := k1.read; have y1 := k1.lt
  have k2 := p2; clear p2; obtain ⟨a2, b2⟩ := k2.read; have y2 := k2.lt
  have k3 := p3; clear p3; obtain ⟨a3, b3⟩ := k3.read; have y3 := k3.lt
  have k4 := q5; clear q5; obtain ⟨a4, b4⟩ := k4.read; have y4 := k4.lt; have hBw := hBn; clear hBn; have hzq := hBw.size
  go_wp2_with fail
  refine (H2.out _ (HR.out.later (by (repeat' first | (with_reducible exact Below.refl _ _) | (with_reducible assumption) | (with_reducible refine belowThru ?_ (by assumption)) | (with_reducible refine belowAlloc ?_))))).mono ?_
  rintro e w3 ⟨rfl, hb⟩
  have kn0 : Blk w3 (w.heap.size) #[.int .i64 t, .int .i64 n, .int .i64 s1, .int .i64 s2, .int .i64 s3, .int .i64 s4, .int .i64 l1, .int .i64 l2, .int .i64 h1, .int .i64 h2] 41 := Blk.later hb (by (repeat' first | (with_reducible assumption) | ((with_reducible refine Blk.new ?_); first | rfl | (simp; done)) | (with_reducible refine Blk.alloc ?_)))
  have kn1 : Blk w3 (w.heap.size + 1) #[.int .i64 o1, .int .i64 o2] 23 := Blk.later hb (by (repeat' first | (with_reducible assumption) | ((with_reducible refine Blk.new ?_); first | rfl | (simp; done)) | (with_reducible refine Blk.alloc ?_)))
  have kn2 : Blk w3 (w.heap.size + 1 + 1) #[.int .i64 o3, .int .i64 o4] 23 := Blk.later hb (by (repeat' first | (with_reducible assumption) | ((with_reducible refine Blk.new ?_); first | rfl | (simp; done)) | (with_reducible refine Blk.alloc ?_)))
  have kn3 : Blk w3 (w2.heap.size) #[.int .i64 Z1, .int .i64 Z2, .int .i64 Z3, .int .i64 Z4] 30 := Blk.later hb (by (repeat' first | (with_reducible assumption) | ((with_reducible refine Blk.new ?_); first | rfl | (simp; done)) | (with_reducible refine Blk.alloc ?_)))
  have kn4 : Blk w3 (B4) #[.int .i64 t, .int .i64 n, .int .i64 s1, .int .i64 s2, .int .i64 s3, .int .i64 s4, .int .i64 o1, .int .i64 o2, .int .i64 o3, .int .i64 o4] 41 := Blk.later hb (by (repeat' first | (with_reducible assumption) | ((with_reducible refine Blk.new ?_); first | rfl | (simp; done)) | (with_reducible refine Blk.alloc ?_)))
  clear k0 a0 b0 y0
  clear k1 a1 b1 y1
  clear k2 a2 b2 y2
  clear k3 a3 b3 y3
  clear k4 a4 b4 y4
  have k0 := kn0; clear kn0; obtain ⟨a0, b0⟩ := k0.read; have y0 := k0.lt
  have k1 := kn1; clear kn1; obtain ⟨a1, b1⟩ := k1.read; have y1 := k1.lt
  have k2 := kn2; clear kn2; obtain ⟨a2, b2⟩ := k2.read; have y2 := k2.lt
  have k3 := kn3; clear kn3; obtain ⟨a3, b3⟩ := k3.read; have y3 := k3.lt
  have k4 := kn4; clear kn4; obtain ⟨a4, b4⟩ := k4.read; have y4 := k4.lt
  replace hBw : Below w.heap.size w w3 := belowThru (by (repeat' first | (with_reducible exact Below.refl _ _) | (with_reducible assumption) | (with_reducible refine belowThru ?_ (by assumption)) | (with_reducible refine belowAlloc ?_))) hb
  have hzw3 := hBw.size
  clear hb
  go_wp2_with fail
  refine (H3.out _ (HR.out.later (by (repeat' first | (with_reducible exact Below.refl _ _) | (with_reducible assumption) | (with_reducible refine belowThru ?_ (by assumption)) | (with_reducible refine belowAlloc ?_))))).mono ?_
  rintro e w4 ⟨rfl, hb⟩
  have kn0 : Blk w4 (w.heap.size) #[.int .i64 t, .int .i64 n, .int .i64 s1, .int .i64 s2, .int .i64 s3, .int .i64 s4, .int .i64 l1, .int .i64 l2, .int .i64 h1, .int .i64 h2] 41 := Blk.later hb (by (repeat' first | (with_reducible assumption) | ((with_reducible refine Blk.new ?_); first | rfl | (simp; done)) | (with_reducible refine Blk.alloc ?_)))
  have kn1 : Blk w4 (w.heap.size + 1) #[.int .i64 o1, .int .i64 o2] 23 := Blk.later hb (by (repeat' first | (with_reducible assumption) | ((with_reducible refine Blk.new ?_); first | rfl | (simp; done)) | (with_reducible refine Blk.alloc ?_)))
  have kn2 : Blk w4 (w.heap.size + 1 + 1) #[.int .i64 o3, .int .i64 o4] 23 := Blk.later hb (by (repeat' first | (with_reducible assumption) | ((with_reducible refine Blk.new ?_); first | rfl | (simp; done)) | (with_reducible refine Blk.alloc ?_)))
  have kn3 : Blk w4 (w2.heap.size) #[.int .i64 Z1, .int .i64 Z2, .int .i64 Z3, .int .i64 Z4] 30 := Blk.later hb (by (repeat' first | (with_reducible assumption) | ((with_reducible refine Blk.new ?_); first | rfl | (simp; done)) | (with_reducible refine Blk.alloc ?_)))
  have kn4 : Blk w4 (B4) #[.int .i64 t, .int .i64 n, .int .i64 s1, .int .i64 s2, .int .i64 s3, .int .i64 s4, .int .i64 o1, .int .i64 o2, .int .i64 o3, .int .i64 o4] 41 := Blk.later hb (by (repeat' first | (with_reducible assumption) | ((with_reducible refine Blk.new ?_); first | rfl | (simp; done)) | (with_reducible refine Blk.alloc ?_)))
  have kn5 : Blk w4 (w3.heap.size) #[.int .i64 Y1, .int .i64 Y2, .int .i64 Y3, .int .i64 Y4] 30 := Blk.later hb (by (repeat' first | (with_reducible assumption) | ((with_reducible refine Blk.new ?_); first | rfl | (simp; done)) | (with_reducible refine Blk.alloc ?_)))
  have kn6 : Blk w4 (w3.heap.size + 1) #[.int .i64 t, .int .i64 nz, .int .i64 s1, .int .i64 s2, .int .i64 s3, .int .i64 s4, .int .i64 l1, .int .i64 l2, .int .i64 h1, .int .i64 h2] 41 := Blk.later hb (by (repeat' first | (with_reducible assumption) | ((with_reducible refine Blk.new ?_); first | rfl | (simp; done)) | (with_reducible refine Blk.alloc ?_)))
  clear k0 a0 b0 y0
  clear k1 a1 b1 y1
  clear k2 a2 b2 y2
  clear k3 a3 b3 y3
  clear k4 a4 b4 y4
  have k0 := kn0; clear kn0; obtain ⟨a0, b0⟩ := k0.read; have y0 := k0.lt
  have k1 := kn1; clear kn1; obtain ⟨a1, b1⟩ := k1.read; have y1 := k1.lt
  have k2 := kn2; clear kn2; obtain ⟨a2, b2⟩ := k2.read; have y2 := k2.lt
  have k3 := kn3; clear kn3; obtain ⟨a3, b3⟩ := k3.read; have y3 := k3.lt
  have k4 := kn4; clear kn4; obtain ⟨a4, b4⟩ := k4.read; have y4 := k4.lt
  have k5 := kn5; clear kn5; obtain ⟨a5, b5⟩ := k5.read; have y5 := k5.lt
  have k6 := kn6; clear kn6; obtain ⟨a6, b6⟩ := k6.read; have y6 := k6.lt
  replace hBw : Below w.heap.size w w4 := belowThru (by (repeat' first | (with_reducible exact Below.refl _ _) | (with_reducible assumption) | (with_reducible refine belowThru ?_ (by assumption)) | (with_reducible refine belowAlloc ?_))) hb
  have hzw4 := hBw.size
  clear hb
  go_wp2_with fail
  refine (HI.out _).mono ?_
  rintro e w5 ⟨rfl, hb⟩
  have kn0 : Blk w5 (w.heap.size) #[.int .i64 t, .int .i64 n, .int .i64 s1, .int .i64 s2, .int .i64 s3, .int .i64 s4, .int .i64 l1, .int .i64 l2, .int .i64 h1, .int .i64 h2] 41 := Blk.later hb (by (repeat' first | (with_reducible assumption) | ((with_reducible refine Blk.new ?_); first | rfl | (simp; done)) | (with_reducible refine Blk.alloc ?_)))
  have kn1 : Blk w5 (w.heap.size + 1) #[.int .i64 o1, .int .i64 o2] 23 := Blk.later hb (by (repeat' first | (with_reducible assumption) | ((with_reducible refine Blk.new ?_); first | rfl | (simp; done)) | (with_reducible refine Blk.alloc ?_)))
  have kn2 : Blk w5 (w.heap.size + 1 + 1) #[.int .i64 o3, .int .i64 o4] 23 := Blk.later hb (by (repeat' first | (with_reducible assumption) | ((with_reducible refine Blk.new ?_); first | rfl | (simp; done)) | (with_reducible refine Blk.alloc ?_)))
  have kn3 : Blk w5 (w2.heap.size) #[.int .i64 Z1, .int .i64 Z2, .int .i64 Z3, .int .i64 Z4] 30 := Blk.later hb (by (repeat' first | (with_reducible assumption) | ((with_reducible refine Blk.new ?_); first | rfl | (simp; done)) | (with_reducible refine Blk.alloc ?_)))
  have kn4 : Blk w5 (B4) #[.int .i64 t, .int .i64 n, .int .i64 s1, .int .i64 s2, .int .i64 s3, .int .i64 s4, .int .i64 o1, .int .i64 o2, .int .i64 o3, .int .i64 o4] 41 := Blk.later hb (by (repeat' first | (with_reducible assumption) | ((with_reducible refine Blk.new ?_); first | rfl | (simp; done)) | (with_reducible refine Blk.alloc ?_)))
  have kn5 : Blk w5 (w3.heap.size) #[.int .i64 Y1, .int .i64 Y2, .int .i64 Y3, .int .i64 Y4] 30 := Blk.later hb (by (repeat' first | (with_reducible assumption) | ((with_reducible refine Blk.new ?_); first | rfl | (simp; done)) | (with_reducible refine Blk.alloc ?_)))
  have kn6 : Blk w5 (w3.heap.size + 1) #[.int .i64 t, .int .i64 nz, .int .i64 s1, .int .i64 s2, .int .i64 s3, .int .i64 s4, .int .i64 l1, .int .i64 l2, .int .i64 h1, .int .i64 h2] 41 := Blk.later hb (by (repeat' first | (with_reducible assumption) | ((with_reducible refine Blk.new ?_); first | rfl | (simp; done)) | (with_reducible refine Blk.alloc ?_)))
  have kn7 : Blk w5 (w4.heap.size) #[.int .i64 X1, .int .i64 X2, .int .i64 X3, .int .i64 X4] 30 := Blk.later hb (by (repeat' first | (with_reducible assumption) | ((with_reducible refine Blk.new ?_); first | rfl | (simp; done)) | (with_reducible refine Blk.alloc ?_)))
  clear k0 a0 b0 y0
  clear k1 a1 b1 y1
  clear k2 a2 b2 y2
  clear k3 a3 b3 y3
  clear k4 a4 b4 y4
  clear k5 a5 b5 y5
  clear k6 a6 b6 y6
  have k0 := kn0; clear kn0; obtain ⟨a0, b0⟩ := k0.read; have y0 := k0.lt
  have k1 := kn1; clear kn1; obtain ⟨a1, b1⟩ := k1.read; have y1 := k1.lt
  have k2 := kn2; clear kn2; obtain ⟨a2, b2⟩ := k2.read; have y2 := k2.lt
  have k3 := kn3; clear kn3; obtain ⟨a3, b3⟩ := k3.read; have y3 := k3.lt
  have k4 := kn4; clear kn4; obtain ⟨a4, b4⟩ := k4.read; have y4 := k4.lt
  have k5 := kn5; clear kn5; obtain ⟨a5, b5⟩ := k5.read; have y5 := k5.lt
  have k6 := kn6; clear kn6; obtain ⟨a6, b6⟩ := k6.read; have y6 := k6.lt
  have k7 := kn7; clear kn7; obtain ⟨a7, b7⟩ := k7.read; have y7 := k7.lt
  replace hBw : Below w.heap.size w w5 := belowThru (by (repeat' first | (with_reducible exact Below.refl _ _) | (with_reducible assumption) | (with_reducible refine belowThru ?_ (by assumption)) | (with_reducible refine belowAlloc ?_))) hb
  have hzw5 := hBw.size
  clear hb
  go_wp2_with fail
  go_ret
  exact ⟨rfl, by (repeat' first | (with_reducible exact Below.refl _ _) | (with_reducible assumption) | (with_reducible refine belowThru ?_ (by assumption)) | (with_reducible refine belowAlloc ?_))⟩
set_option maxRecDepth 100000 in
set_option maxHeartbeats 16000000 in
theorem tol_1a (t n s1 s2 s3 s4 l1 l2 h1 h2 o1 o2 o3 o4 nz : Int) (a : Option Addr) (m c : Nat) (zs : List Int) (w : World) (hR : Row w a m (iv zs)) (hl : m ≤ 64) (Z1 Z2 Z3 Z4 V Y1 Y2 Y3 Y4 U X1 X2 X3 X4 C E2 E3 : Int) (hnz : ¬ nz < n) (hC : (C == 2) = false)  (H1 : Hid (∀ w, Row w a m (iv zs) → Calls Try.prog 27 #[.agg #[.int .i64 t, .int .i64 n, .int .i64 s1, .int .i64 s2, .int .i64 s3, .int .i64 s4, .int .i64 l1, .int .i64 l2, .int .i64 h1, .int .i64 h2], .slice a m c] w fun e w' => e = .returned (.tuple #[.agg #[.int .i64 Z1, .int .i64 Z2, .int .i64 Z3, .int .i64 Z4], .int .u8 1, .int .i64 0]) ∧ Below w.heap.size w w')) (H2 : Hid (∀ w, Row w a m (iv zs) → Calls Try.prog 27 #[.agg #[.int .i64 t, .int .i64 n, .int .i64 s1, .int .i64 s2, .int .i64 s3, .int .i64 s4, .int .i64 o1, .int .i64 o2, .int .i64 o3, .int .i64 o4], .slice a m c] w fun e w' => e = .returned (.tuple #[.agg #[.int .i64 Y1, .int .i64 Y2, .int .i64 Y3, .int .i64 Y4], .int .u8 1, .int .i64 0]) ∧ Below w.heap.size w w')) (H3 : Hid (∀ w, Row w a m (iv zs) → Calls Try.prog 27 #[.agg #[.int .i64 t, .int .i64 nz, .int .i64 s1, .int .i64 s2, .int .i64 s3, .int .i64 s4, .int .i64 l1, .int .i64 l2, .int .i64 h1, .int .i64 h2], .slice a m c] w fun e w' => e = .returned (.tuple #[.agg #[.int .i64 X1, .int .i64 X2, .int .i64 X3, .int .i64 X4], .int .u8 C, .int .i64 0]) ∧ Below w.heap.size w w')) (HI : Hid (∀ w, Calls Try.prog 55 #[.agg #[.int .i64 l1, .int .i64 l2, .int .i64 h1, .int .i64 h2], .agg #[.int .i64 o1, .int .i64 o2, .int .i64 o3, .int .i64 o4]] w fun e w' => e = .returned (.bool true) ∧ Below w.heap.size w w')) :
    Calls Try.prog 14 #[.agg #[.int .i64 t, .int .i64 n, .int .i64 s1, .int .i64 s2, .int .i64 s3, .int .i64 s4, .int .i64 l1, .int .i64 l2, .int .i64 h1, .int .i64 h2], .slice a m c, .agg #[.int .i64 o1, .int .i64 o2], .agg #[.int .i64 o3, .int .i64 o4], .int .i64 nz] w fun e w' => e = .returned (.bool true) ∧ Below w.heap.size w w' := by
  have hd : decide (64 < (m : Int)) = false := by simp; omega
  have hmx : Try.prog.follows .mixedOrders = true := by kernel_rfl
  have HR := Lib.hid hR
  clear hR
  go_enter Try.func14, Try.ntmps14
  go_wp2_with fail
  refine (alive_true _).mono ?_
  rintro e w1 ⟨rfl, hb⟩
  have kn0 : Blk w1 (w.heap.size) #[.int .i64 t, .int .i64 n, .int .i64 s1, .int .i64 s2, .int .i64 s3, .int .i64 s4, .int .i64 l1, .int .i64 l2, .int .i64 h1, .int .i64 h2] 41 := Blk.later hb (by (repeat' first | (with_reducible assumption) | ((with_reducible refine Blk.new ?_); first | rfl | (simp; done)) | (with_reducible refine Blk.alloc ?_)))
  have kn1 : Blk w1 (w.heap.size + 1) #[.int .i64 o1, .int .i64 o2] 23 := Blk.later hb (by (repeat' first | (with_reducible assumption) | ((with_reducible refine Blk.new ?_); first | rfl | (simp; done)) | (with_reducible refine Blk.alloc ?_)))
  have kn2 : Blk w1 (w.heap.size + 1 + 1) #[.int .i64 o3, .int .i64 o4] 23 := Blk.later hb (by (repeat' first | (with_reducible assumption) | ((with_reducible refine Blk.new ?_); first | rfl | (simp; done)) | (with_reducible refine Blk.alloc ?_)))
  have k0 := kn0; clear kn0; obtain ⟨a0, b0⟩ := k0.read; have y0 := k0.lt
  have k1 := kn1; clear kn1; obtain ⟨a1, b1⟩ := k1.read; have y1 := k1.lt
  have k2 := kn2; clear kn2; obtain ⟨a2, b2⟩ := k2.read; have y2 := k2.lt
  have hBw : Below w.heap.size w w1 := by (repeat' first | (with_reducible exact Below.refl _ _) | (with_reducible assumption) | (with_reducible refine belowThru ?_ (by assumption)) | (with_reducible refine belowAlloc ?_))
  have hzw1 := hBw.size
  clear hb
  go_wp2_with fail
  refine (H1.out _ (HR.out.later (by (repeat' first | (with_reducible exact Below.refl _ _) | (with_reducible assumption) | (with_reducible refine belowThru ?_ (by assumption)) | (with_reducible refine belowAlloc ?_))))).mono ?_
  rintro e w2 ⟨rfl, hb⟩
  have kn0 : Blk w2 (w.heap.size) #[.int .i64 t, .int .i64 n, .int .i64 s1, .int .i64 s2, .int .i64 s3, .int .i64 s4, .int .i64 l1, .int .i64 l2, .int .i64 h1, .int .i64 h2] 41 := Blk.later hb (by (repeat' first | (with_reducible assumption) | ((with_reducible refine Blk.new ?_); first | rfl | (simp; done)) | (with_reducible refine Blk.alloc ?_)))
  have kn1 : Blk w2 (w.heap.size + 1) #[.int .i64 o1, .int .i64 o2] 23 := Blk.later hb (by (repeat' first | (with_reducible assumption) | ((with_reducible refine Blk.new ?_); first | rfl | (simp; done)) | (with_reducible refine Blk.alloc ?_)))
  have kn2 : Blk w2 (w.heap.size + 1 + 1) #[.int .i64 o3, .int .i64 o4] 23 := Blk.later hb (by (repeat' first | (with_reducible assumption) | ((with_reducible refine Blk.new ?_); first | rfl | (simp; done)) | (with_reducible refine Blk.alloc ?_)))
  clear k0 a0 b0 y0
  clear k1 a1 b1 y1
  clear k2 a2 b2 y2
  have k0 := kn0; clear kn0; obtain ⟨a0, b0⟩ := k0.read; have y0 := k0.lt
  have k1 := kn1; clear kn1; obtain ⟨a1, b1⟩ := k1.read; have y1 := k1.lt
  have k2 := kn2; clear kn2; obtain ⟨a2, b2⟩ := k2.read; have y2 := k2.lt
  replace hBw : Below w.heap.size w w2 := belowThru (by (repeat' first | (with_reducible exact Below.refl _ _) | (with_reducible assumption) | (with_reducible refine belowThru ?_ (by assumption)) | (with_reducible refine belowAlloc ?_))) hb
  have hzw2 := hBw.size
  clear hb
  go_wp2_with fail
  have hB4w : w.heap.size + 1 + 1 < w2.heap.size + 1 := by omega
  have hB43 : w2.heap.size < w2.heap.size + 1 := by omega
  obtain ⟨Wp, hWp⟩ : ∃ Wp, ((w2.alloc (.cells #[.int .i64 Z1, .int .i64 Z2, .int .i64 Z3, .int .i64 Z4] 30)).alloc (.cells #[.int .i64 t, .int .i64 n, .int .i64 s1, .int .i64 s2, .int .i64 s3, .int .i64 s4, .int .i64 l1, .int .i64 l2, .int .i64 h1, .int .i64 h2] 41)) = Wp := ⟨_, rfl⟩
  have kn0 : Blk Wp (w.heap.size) #[.int .i64 t, .int .i64 n, .int .i64 s1, .int .i64 s2, .int .i64 s3, .int .i64 s4, .int .i64 l1, .int .i64 l2, .int .i64 h1, .int .i64 h2] 41 := by rw [← hWp]; (repeat' first | (with_reducible assumption) | ((with_reducible refine Blk.new ?_); first | rfl | (simp; done)) | (with_reducible refine Blk.alloc ?_))
  have kn1 : Blk Wp (w.heap.size + 1) #[.int .i64 o1, .int .i64 o2] 23 := by rw [← hWp]; (repeat' first | (with_reducible assumption) | ((with_reducible refine Blk.new ?_); first | rfl | (simp; done)) | (with_reducible refine Blk.alloc ?_))
  have kn2 : Blk Wp (w.heap.size + 1 + 1) #[.int .i64 o3, .int .i64 o4] 23 := by rw [← hWp]; (repeat' first | (with_reducible assumption) | ((with_reducible refine Blk.new ?_); first | rfl | (simp; done)) | (with_reducible refine Blk.alloc ?_))
  have kn3 : Blk Wp (w2.heap.size) #[.int .i64 Z1, .int .i64 Z2, .int .i64 Z3, .int .i64 Z4] 30 := by rw [← hWp]; (repeat' first | (with_reducible assumption) | ((with_reducible refine Blk.new ?_); first | rfl | (simp; done)) | (with_reducible refine Blk.alloc ?_))
  have kn4 : Blk Wp (w2.heap.size + 1) #[.int .i64 t, .int .i64 n, .int .i64 s1, .int .i64 s2, .int .i64 s3, .int .i64 s4, .int .i64 l1, .int .i64 l2, .int .i64 h1, .int .i64 h2] 41 := by rw [← hWp]; (repeat' first | (with_reducible assumption) | ((with_reducible refine Blk.new ?_); first | rfl | (simp; done)) | (with_reducible refine Blk.alloc ?_))
  replace hBw : Below w.heap.size w Wp := by rw [← hWp]; (repeat' first | (with_reducible exact Below.refl _ _) | (with_reducible assumption) | (with_reducible refine belowThru ?_ (by assumption)) | (with_reducible refine belowAlloc ?_))
  clear k0 a0 b0 y0
  clear k1 a1 b1 y1
  clear k2 a2 b2 y2
  rw [hWp]
  clear hWp
  have k0 := kn0; clear kn0; have y0 := k0.lt
  have k1 := kn1; clear kn1; have y1 := k1.lt
  have k2 := kn2; clear kn2; have y2 := k2.lt
  have k3 := kn3; clear kn3; have y3 := k3.lt
  have k4 := kn4; clear kn4; have y4 := k4.lt
  obtain ⟨B4, hB4⟩ : ∃ z, w2.heap.size + 1 = z := ⟨_, rfl⟩
  rw [hB4] at k4 y4 hB4w hB43 ⊢
  clear hB4
  refine wp_region_held_drew (S := fun w' => (Blk w' (w.heap.size + 1) #[.int .i64 o1, .int .i64 o2] 23 ∧ (∀ i : Nat, w'.cell? ⟨w.heap.size + 1, i, none⟩ = (#[.int .i64 o1, .int .i64 o2] : Array Value)[i]?)) ∧ (Blk w' (w.heap.size + 1 + 1) #[.int .i64 o3, .int .i64 o4] 23 ∧ (∀ i : Nat, w'.cell? ⟨w.heap.size + 1 + 1, i, none⟩ = (#[.int .i64 o3, .int .i64 o4] : Array Value)[i]?)) ∧ Below w.heap.size w w') hmx ⟨k1.drew.full, k2.drew.full, hBw.drew⟩ (fun hHeld => ?_)
  obtain ⟨Wd, hWd⟩ : ∃ Wd, Wp.drew = Wd := ⟨_, rfl⟩
  have q0 : Blk Wd (w.heap.size) #[.int .i64 t, .int .i64 n, .int .i64 s1, .int .i64 s2, .int .i64 s3, .int .i64 s4, .int .i64 l1, .int .i64 l2, .int .i64 h1, .int .i64 h2] 41 := by rw [← hWd]; exact k0.drew
  have q1 : Blk Wd (w.heap.size + 1) #[.int .i64 o1, .int .i64 o2] 23 := by rw [← hWd]; exact k1.drew
  have q2 : Blk Wd (w.heap.size + 1 + 1) #[.int .i64 o3, .int .i64 o4] 23 := by rw [← hWd]; exact k2.drew
  have q3 : Blk Wd (w2.heap.size) #[.int .i64 Z1, .int .i64 Z2, .int .i64 Z3, .int .i64 Z4] 30 := by rw [← hWd]; exact k3.drew
  have q4 : Blk Wd (B4) #[.int .i64 t, .int .i64 n, .int .i64 s1, .int .i64 s2, .int .i64 s3, .int .i64 s4, .int .i64 l1, .int .i64 l2, .int .i64 h1, .int .i64 h2] 41 := by rw [← hWd]; exact k4.drew
  have hBd : Below w.heap.size w Wd := by rw [← hWd]; exact hBw.drew
  rw [hWd] at hHeld ⊢
  clear hWd k0 k1 k2 k3 k4 y0 y1 y2 y3 y4 hBw
  refine wpAnyH_take (i := 0) (v := ?_) rfl (by kernel_rfl) (by kernel_rfl) (by kernel_rfl) (fun _ _ _ h => h) (Or.inl ⟨by rfl, ?hT6⟩) (by assumption) ?_
  case hT6 => ((intro w hSw; (try dsimp only at hSw); go_simp); try (with_reducible rfl))
  try simp only [Act.put, List.setIfInBounds_toArray, List.set_cons_zero, List.set_cons_succ]
  refine wpAnyH_take (i := 1) (v := ?_) rfl (by kernel_rfl) (by kernel_rfl) (by kernel_rfl) (fun _ _ _ h => h) (Or.inl ⟨by rfl, ?hT7⟩) (by assumption) ?_
  case hT7 => ((intro w hSw; (try dsimp only at hSw); go_simp); try (with_reducible rfl))
  try simp only [Act.put, List.setIfInBounds_toArray, List.set_cons_zero, List.set_cons_succ]
  refine wpAnyH_ready (rs := [2]) (by kernel_rfl) (by simp) ?_
  refine AllReadyH.cons rfl (fun K hK => ?_) AllReadyH.nil
  go_simp
  refine hK.out _ _ ?_ (fun hHeldN => ?_)
  · (try dsimp only); ((first | (apply hold2; (focus assumption); intro p0 p1 pB) | skip); refine ⟨Blk.full ?_, Blk.full ?_, ?_⟩; all_goals (first | ((repeat' first | (with_reducible assumption) | (with_reducible refine Blk.other ?_ (by first | omega | (simp; omega)))); done) | ((repeat' first | (with_reducible exact Below.refl _ _) | (with_reducible assumption) | (with_reducible refine belowThru ?_ (by assumption)) | (with_reducible refine belowAlloc ?_) | (with_reducible refine Below.setCell ?_ (by first | omega | (simp; omega)) _) | (with_reducible refine Below.drew ?_)); done)))
  clear hK K hHeld
  have hHeld := hHeldN
  clear hHeldN
  try simp only [Act.put, List.setIfInBounds_toArray, List.set_cons_zero, List.set_cons_succ]
  obtain ⟨r4, s4'⟩ := q4.read
  refine wpAnyH_ready (rs := [3]) (by kernel_rfl) (by simp) ?_
  refine AllReadyH.cons rfl (fun K hK => ?_) AllReadyH.nil
  go_simp
  refine hK.out _ _ ?_ (fun hHeldN => ?_)
  · (try dsimp only); ((first | (apply hold2; (focus assumption); intro p0 p1 pB) | skip); refine ⟨Blk.full ?_, Blk.full ?_, ?_⟩; all_goals (first | ((repeat' first | (with_reducible assumption) | (with_reducible refine Blk.other ?_ (by first | omega | (simp; omega)))); done) | ((repeat' first | (with_reducible exact Below.refl _ _) | (with_reducible assumption) | (with_reducible refine belowThru ?_ (by assumption)) | (with_reducible refine belowAlloc ?_) | (with_reducible refine Below.setCell ?_ (by first | omega | (simp; omega)) _) | (with_reducible refine Below.drew ?_)); done)))
  clear hK K hHeld
  have hHeld := hHeldN
  clear hHeldN
  try simp only [Act.put, List.setIfInBounds_toArray, List.set_cons_zero, List.set_cons_succ]
  refine wpAnyH_ready (rs := [4]) (by kernel_rfl) (by simp) ?_
  refine AllReadyH.cons rfl (fun K hK => ?_) AllReadyH.nil
  go_simp
  refine hK.out _ _ ?_ (fun hHeldN => ?_)
  · (try dsimp only); ((first | (apply hold2; (focus assumption); intro p0 p1 pB) | skip); refine ⟨Blk.full ?_, Blk.full ?_, ?_⟩; all_goals (first | ((repeat' first | (with_reducible assumption) | (with_reducible refine Blk.other ?_ (by first | omega | (simp; omega)))); done) | ((repeat' first | (with_reducible exact Below.refl _ _) | (with_reducible assumption) | (with_reducible refine belowThru ?_ (by assumption)) | (with_reducible refine belowAlloc ?_) | (with_reducible refine Below.setCell ?_ (by first | omega | (simp; omega)) _) | (with_reducible refine Below.drew ?_)); done)))
  clear hK K hHeld
  have hHeld := hHeldN
  clear hHeldN
  try simp only [Act.put, List.setIfInBounds_toArray, List.set_cons_zero, List.set_cons_succ]
  refine wpAnyH_ready (rs := [5]) (by kernel_rfl) (by simp) ?_
  refine AllReadyH.cons rfl (fun K hK => ?_) AllReadyH.nil
  go_simp
  refine hK.out _ _ ?_ (fun hHeldN => ?_)
  · (try dsimp only); ((first | (apply hold2; (focus assumption); intro p0 p1 pB) | skip); refine ⟨Blk.full ?_, Blk.full ?_, ?_⟩; all_goals (first | ((repeat' first | (with_reducible assumption) | (with_reducible refine Blk.other ?_ (by first | omega | (simp; omega)))); done) | ((repeat' first | (with_reducible exact Below.refl _ _) | (with_reducible assumption) | (with_reducible refine belowThru ?_ (by assumption)) | (with_reducible refine belowAlloc ?_) | (with_reducible refine Below.setCell ?_ (by first | omega | (simp; omega)) _) | (with_reducible refine Below.drew ?_)); done)))
  clear hK K hHeld
  have hHeld := hHeldN
  clear hHeldN
  try simp only [Act.put, List.setIfInBounds_toArray, List.set_cons_zero, List.set_cons_succ]
  refine wpAnyH_done (by kernel_rfl) ?_ _
  obtain ⟨Wq, hWq⟩ : ∃ Wq, ((((Wd.setCell ⟨B4, 6, none⟩ (.int .i64 o1)).setCell ⟨B4, 7, none⟩ (.int .i64 o2)).setCell ⟨B4, 8, none⟩ (.int .i64 o3)).setCell ⟨B4, 9, none⟩ (.int .i64 o4)) = Wq := ⟨_, rfl⟩
  have q5 : Blk Wq B4 #[.int .i64 t, .int .i64 n, .int .i64 s1, .int .i64 s2, .int .i64 s3, .int .i64 s4, .int .i64 o1, .int .i64 o2, .int .i64 o3, .int .i64 o4] 41 := by rw [← hWq]; exact Blk.set (Blk.set (Blk.set (Blk.set q4)))
  have p0 : Blk Wq (w.heap.size) #[.int .i64 t, .int .i64 n, .int .i64 s1, .int .i64 s2, .int .i64 s3, .int .i64 s4, .int .i64 l1, .int .i64 l2, .int .i64 h1, .int .i64 h2] 41 := by rw [← hWq]; (repeat' first | (with_reducible assumption) | (with_reducible refine Blk.other ?_ (by first | omega | (simp; omega))))
  have p1 : Blk Wq (w.heap.size + 1) #[.int .i64 o1, .int .i64 o2] 23 := by rw [← hWq]; (repeat' first | (with_reducible assumption) | (with_reducible refine Blk.other ?_ (by first | omega | (simp; omega))))
  have p2 : Blk Wq (w.heap.size + 1 + 1) #[.int .i64 o3, .int .i64 o4] 23 := by rw [← hWq]; (repeat' first | (with_reducible assumption) | (with_reducible refine Blk.other ?_ (by first | omega | (simp; omega))))
  have p3 : Blk Wq (w2.heap.size) #[.int .i64 Z1, .int .i64 Z2, .int .i64 Z3, .int .i64 Z4] 30 := by rw [← hWq]; (repeat' first | (with_reducible assumption) | (with_reducible refine Blk.other ?_ (by first | omega | (simp; omega))))
  have hBn : Below w.heap.size w Wq := by rw [← hWq]; (repeat' first | (with_reducible exact Below.refl _ _) | (with_reducible assumption) | (with_reducible refine belowThru ?_ (by assumption)) | (with_reducible refine belowAlloc ?_) | (with_reducible refine Below.setCell ?_ (by first | omega | (simp; omega)) _) | (with_reducible refine Below.drew ?_))
  rw [hWq]
  clear hWq q0 q1 q2 q3 q4 r4 s4' hHeld hBd
  have k0 := p0; clear p0; obtain ⟨a0, b0⟩ := k0.read; have y0 := k0.lt
  have k1 := p1; clear p1; obtain ⟨a1, b1⟩ := k1.read; have y1 := k1.lt
  have k2 := p2; clear p2; obtain ⟨a2, b2⟩ := k2.read; have y2 := k2.lt
  have k3 := p3; clear p3; obtain ⟨a3, b3⟩ := k3.read; have y3 := k3.lt
  have k4 := q5; clear q5; obtain ⟨a4, b4⟩ := k4.read; have y4 := k4.lt; have hBw := hBn; clear hBn; have hzq := hBw.size
  go_wp2_with fail
  refine (H2.out _ (HR.out.later (by (repeat' first | (with_reducible exact Below.refl _ _) | (with_reducible assumption) | (with_reducible refine belowThru ?_ (by assumption)) | (with_reducible refine belowAlloc ?_))))).mono ?_
  rintro e w3 ⟨rfl, hb⟩
  have kn0 : Blk w3 (w.heap.size) #[.int .i64 t, .int .i64 n, .int .i64 s1, .int .i64 s2, .int .i64 s3, .int .i64 s4, .int .i64 l1, .int .i64 l2, .int .i64 h1, .int .i64 h2] 41 := Blk.later hb (by (repeat' first | (with_reducible assumption) | ((with_reducible refine Blk.new ?_); first | rfl | (simp; done)) | (with_reducible refine Blk.alloc ?_)))
  have kn1 : Blk w3 (w.heap.size + 1) #[.int .i64 o1, .int .i64 o2] 23 := Blk.later hb (by (repeat' first | (with_reducible assumption) | ((with_reducible refine Blk.new ?_); first | rfl | (simp; done)) | (with_reducible refine Blk.alloc ?_)))
  have kn2 : Blk w3 (w.heap.size + 1 + 1) #[.int .i64 o3, .int .i64 o4] 23 := Blk.later hb (by (repeat' first | (with_reducible assumption) | ((with_reducible refine Blk.new ?_); first | rfl | (simp; done)) | (with_reducible refine Blk.alloc ?_)))
  have kn3 : Blk w3 (w2.heap.size) #[.int .i64 Z1, .int .i64 Z2, .int .i64 Z3, .int .i64 Z4] 30 := Blk.later hb (by (repeat' first | (with_reducible assumption) | ((with_reducible refine Blk.new ?_); first | rfl | (simp; done)) | (with_reducible refine Blk.alloc ?_)))
  have kn4 : Blk w3 (B4) #[.int .i64 t, .int .i64 n, .int .i64 s1, .int .i64 s2, .int .i64 s3, .int .i64 s4, .int .i64 o1, .int .i64 o2, .int .i64 o3, .int .i64 o4] 41 := Blk.later hb (by (repeat' first | (with_reducible assumption) | ((with_reducible refine Blk.new ?_); first | rfl | (simp; done)) | (with_reducible refine Blk.alloc ?_)))
  clear k0 a0 b0 y0
  clear k1 a1 b1 y1
  clear k2 a2 b2 y2
  clear k3 a3 b3 y3
  clear k4 a4 b4 y4
  have k0 := kn0; clear kn0; obtain ⟨a0, b0⟩ := k0.read; have y0 := k0.lt
  have k1 := kn1; clear kn1; obtain ⟨a1, b1⟩ := k1.read; have y1 := k1.lt
  have k2 := kn2; clear kn2; obtain ⟨a2, b2⟩ := k2.read; have y2 := k2.lt
  have k3 := kn3; clear kn3; obtain ⟨a3, b3⟩ := k3.read; have y3 := k3.lt
  have k4 := kn4; clear kn4; obtain ⟨a4, b4⟩ := k4.read; have y4 := k4.lt
  replace hBw : Below w.heap.size w w3 := belowThru (by (repeat' first | (with_reducible exact Below.refl _ _) | (with_reducible assumption) | (with_reducible refine belowThru ?_ (by assumption)) | (with_reducible refine belowAlloc ?_))) hb
  have hzw3 := hBw.size
  clear hb
  go_wp2_with fail
  refine (H3.out _ (HR.out.later (by (repeat' first | (with_reducible exact Below.refl _ _) | (with_reducible assumption) | (with_reducible refine belowThru ?_ (by assumption)) | (with_reducible refine belowAlloc ?_))))).mono ?_
  rintro e w4 ⟨rfl, hb⟩
  have kn0 : Blk w4 (w.heap.size) #[.int .i64 t, .int .i64 n, .int .i64 s1, .int .i64 s2, .int .i64 s3, .int .i64 s4, .int .i64 l1, .int .i64 l2, .int .i64 h1, .int .i64 h2] 41 := Blk.later hb (by (repeat' first | (with_reducible assumption) | ((with_reducible refine Blk.new ?_); first | rfl | (simp; done)) | (with_reducible refine Blk.alloc ?_)))
  have kn1 : Blk w4 (w.heap.size + 1) #[.int .i64 o1, .int .i64 o2] 23 := Blk.later hb (by (repeat' first | (with_reducible assumption) | ((with_reducible refine Blk.new ?_); first | rfl | (simp; done)) | (with_reducible refine Blk.alloc ?_)))
  have kn2 : Blk w4 (w.heap.size + 1 + 1) #[.int .i64 o3, .int .i64 o4] 23 := Blk.later hb (by (repeat' first | (with_reducible assumption) | ((with_reducible refine Blk.new ?_); first | rfl | (simp; done)) | (with_reducible refine Blk.alloc ?_)))
  have kn3 : Blk w4 (w2.heap.size) #[.int .i64 Z1, .int .i64 Z2, .int .i64 Z3, .int .i64 Z4] 30 := Blk.later hb (by (repeat' first | (with_reducible assumption) | ((with_reducible refine Blk.new ?_); first | rfl | (simp; done)) | (with_reducible refine Blk.alloc ?_)))
  have kn4 : Blk w4 (B4) #[.int .i64 t, .int .i64 n, .int .i64 s1, .int .i64 s2, .int .i64 s3, .int .i64 s4, .int .i64 o1, .int .i64 o2, .int .i64 o3, .int .i64 o4] 41 := Blk.later hb (by (repeat' first | (with_reducible assumption) | ((with_reducible refine Blk.new ?_); first | rfl | (simp; done)) | (with_reducible refine Blk.alloc ?_)))
  have kn5 : Blk w4 (w3.heap.size) #[.int .i64 Y1, .int .i64 Y2, .int .i64 Y3, .int .i64 Y4] 30 := Blk.later hb (by (repeat' first | (with_reducible assumption) | ((with_reducible refine Blk.new ?_); first | rfl | (simp; done)) | (with_reducible refine Blk.alloc ?_)))
  have kn6 : Blk w4 (w3.heap.size + 1) #[.int .i64 t, .int .i64 nz, .int .i64 s1, .int .i64 s2, .int .i64 s3, .int .i64 s4, .int .i64 l1, .int .i64 l2, .int .i64 h1, .int .i64 h2] 41 := Blk.later hb (by (repeat' first | (with_reducible assumption) | ((with_reducible refine Blk.new ?_); first | rfl | (simp; done)) | (with_reducible refine Blk.alloc ?_)))
  clear k0 a0 b0 y0
  clear k1 a1 b1 y1
  clear k2 a2 b2 y2
  clear k3 a3 b3 y3
  clear k4 a4 b4 y4
  have k0 := kn0; clear kn0; obtain ⟨a0, b0⟩ := k0.read; have y0 := k0.lt
  have k1 := kn1; clear kn1; obtain ⟨a1, b1⟩ := k1.read; have y1 := k1.lt
  have k2 := kn2; clear kn2; obtain ⟨a2, b2⟩ := k2.read; have y2 := k2.lt
  have k3 := kn3; clear kn3; obtain ⟨a3, b3⟩ := k3.read; have y3 := k3.lt
  have k4 := kn4; clear kn4; obtain ⟨a4, b4⟩ := k4.read; have y4 := k4.lt
  have k5 := kn5; clear kn5; obtain ⟨a5, b5⟩ := k5.read; have y5 := k5.lt
  have k6 := kn6; clear kn6; obtain ⟨a6, b6⟩ := k6.read; have y6 := k6.lt
  replace hBw : Below w.heap.size w w4 := belowThru (by (repeat' first | (with_reducible exact Below.refl _ _) | (with_reducible assumption) | (with_reducible refine belowThru ?_ (by assumption)) | (with_reducible refine belowAlloc ?_))) hb
  have hzw4 := hBw.size
  clear hb
  go_wp2_with fail
  refine (HI.out _).mono ?_
  rintro e w5 ⟨rfl, hb⟩
  have kn0 : Blk w5 (w.heap.size) #[.int .i64 t, .int .i64 n, .int .i64 s1, .int .i64 s2, .int .i64 s3, .int .i64 s4, .int .i64 l1, .int .i64 l2, .int .i64 h1, .int .i64 h2] 41 := Blk.later hb (by (repeat' first | (with_reducible assumption) | ((with_reducible refine Blk.new ?_); first | rfl | (simp; done)) | (with_reducible refine Blk.alloc ?_)))
  have kn1 : Blk w5 (w.heap.size + 1) #[.int .i64 o1, .int .i64 o2] 23 := Blk.later hb (by (repeat' first | (with_reducible assumption) | ((with_reducible refine Blk.new ?_); first | rfl | (simp; done)) | (with_reducible refine Blk.alloc ?_)))
  have kn2 : Blk w5 (w.heap.size + 1 + 1) #[.int .i64 o3, .int .i64 o4] 23 := Blk.later hb (by (repeat' first | (with_reducible assumption) | ((with_reducible refine Blk.new ?_); first | rfl | (simp; done)) | (with_reducible refine Blk.alloc ?_)))
  have kn3 : Blk w5 (w2.heap.size) #[.int .i64 Z1, .int .i64 Z2, .int .i64 Z3, .int .i64 Z4] 30 := Blk.later hb (by (repeat' first | (with_reducible assumption) | ((with_reducible refine Blk.new ?_); first | rfl | (simp; done)) | (with_reducible refine Blk.alloc ?_)))
  have kn4 : Blk w5 (B4) #[.int .i64 t, .int .i64 n, .int .i64 s1, .int .i64 s2, .int .i64 s3, .int .i64 s4, .int .i64 o1, .int .i64 o2, .int .i64 o3, .int .i64 o4] 41 := Blk.later hb (by (repeat' first | (with_reducible assumption) | ((with_reducible refine Blk.new ?_); first | rfl | (simp; done)) | (with_reducible refine Blk.alloc ?_)))
  have kn5 : Blk w5 (w3.heap.size) #[.int .i64 Y1, .int .i64 Y2, .int .i64 Y3, .int .i64 Y4] 30 := Blk.later hb (by (repeat' first | (with_reducible assumption) | ((with_reducible refine Blk.new ?_); first | rfl | (simp; done)) | (with_reducible refine Blk.alloc ?_)))
  have kn6 : Blk w5 (w3.heap.size + 1) #[.int .i64 t, .int .i64 nz, .int .i64 s1, .int .i64 s2, .int .i64 s3, .int .i64 s4, .int .i64 l1, .int .i64 l2, .int .i64 h1, .int .i64 h2] 41 := Blk.later hb (by (repeat' first | (with_reducible assumption) | ((with_reducible refine Blk.new ?_); first | rfl | (simp; done)) | (with_reducible refine Blk.alloc ?_)))
  have kn7 : Blk w5 (w4.heap.size) #[.int .i64 X1, .int .i64 X2, .int .i64 X3, .int .i64 X4] 30 := Blk.later hb (by (repeat' first | (with_reducible assumption) | ((with_reducible refine Blk.new ?_); first | rfl | (simp; done)) | (with_reducible refine Blk.alloc ?_)))
  clear k0 a0 b0 y0
  clear k1 a1 b1 y1
  clear k2 a2 b2 y2
  clear k3 a3 b3 y3
  clear k4 a4 b4 y4
  clear k5 a5 b5 y5
  clear k6 a6 b6 y6
  have k0 := kn0; clear kn0; obtain ⟨a0, b0⟩ := k0.read; have y0 := k0.lt
  have k1 := kn1; clear kn1; obtain ⟨a1, b1⟩ := k1.read; have y1 := k1.lt
  have k2 := kn2; clear kn2; obtain ⟨a2, b2⟩ := k2.read; have y2 := k2.lt
  have k3 := kn3; clear kn3; obtain ⟨a3, b3⟩ := k3.read; have y3 := k3.lt
  have k4 := kn4; clear kn4; obtain ⟨a4, b4⟩ := k4.read; have y4 := k4.lt
  have k5 := kn5; clear kn5; obtain ⟨a5, b5⟩ := k5.read; have y5 := k5.lt
  have k6 := kn6; clear kn6; obtain ⟨a6, b6⟩ := k6.read; have y6 := k6.lt
  have k7 := kn7; clear kn7; obtain ⟨a7, b7⟩ := k7.read; have y7 := k7.lt
  replace hBw : Below w.heap.size w w5 := belowThru (by (repeat' first | (with_reducible exact Below.refl _ _) | (with_reducible assumption) | (with_reducible refine belowThru ?_ (by assumption)) | (with_reducible refine belowAlloc ?_))) hb
  have hzw5 := hBw.size
  clear hb
  go_wp2_with fail
  go_ret
  exact ⟨rfl, by (repeat' first | (with_reducible exact Below.refl _ _) | (with_reducible assumption) | (with_reducible refine belowThru ?_ (by assumption)) | (with_reducible refine belowAlloc ?_))⟩
set_option maxRecDepth 100000 in
set_option maxHeartbeats 16000000 in
theorem tol_2f (t n s1 s2 s3 s4 l1 l2 h1 h2 o1 o2 o3 o4 nz : Int) (a : Option Addr) (m c : Nat) (zs : List Int) (w : World) (hR : Row w a m (iv zs)) (hl : m ≤ 64) (Z1 Z2 Z3 Z4 V Y1 Y2 Y3 Y4 U X1 X2 X3 X4 C E2 E3 : Int) (hnz : ¬ nz < n) (hC : (C == 1) = false) (hE2 : (E2 != 0) = true) (H1 : Hid (∀ w, Row w a m (iv zs) → Calls Try.prog 27 #[.agg #[.int .i64 t, .int .i64 n, .int .i64 s1, .int .i64 s2, .int .i64 s3, .int .i64 s4, .int .i64 l1, .int .i64 l2, .int .i64 h1, .int .i64 h2], .slice a m c] w fun e w' => e = .returned (.tuple #[.agg #[.int .i64 Z1, .int .i64 Z2, .int .i64 Z3, .int .i64 Z4], .int .u8 2, .int .i64 0]) ∧ Below w.heap.size w w')) (H2 : Hid (∀ w, Row w a m (iv zs) → Calls Try.prog 27 #[.agg #[.int .i64 t, .int .i64 n, .int .i64 s1, .int .i64 s2, .int .i64 s3, .int .i64 s4, .int .i64 o1, .int .i64 o2, .int .i64 o3, .int .i64 o4], .slice a m c] w fun e w' => e = .returned (.tuple #[.agg #[.int .i64 Y1, .int .i64 Y2, .int .i64 Y3, .int .i64 Y4], .int .u8 U, .int .i64 E2]) ∧ Below w.heap.size w w')) (H3 : Hid (∀ w, Row w a m (iv zs) → Calls Try.prog 27 #[.agg #[.int .i64 t, .int .i64 nz, .int .i64 s1, .int .i64 s2, .int .i64 s3, .int .i64 s4, .int .i64 l1, .int .i64 l2, .int .i64 h1, .int .i64 h2], .slice a m c] w fun e w' => e = .returned (.tuple #[.agg #[.int .i64 X1, .int .i64 X2, .int .i64 X3, .int .i64 X4], .int .u8 C, .int .i64 0]) ∧ Below w.heap.size w w'))  :
    Calls Try.prog 14 #[.agg #[.int .i64 t, .int .i64 n, .int .i64 s1, .int .i64 s2, .int .i64 s3, .int .i64 s4, .int .i64 l1, .int .i64 l2, .int .i64 h1, .int .i64 h2], .slice a m c, .agg #[.int .i64 o1, .int .i64 o2], .agg #[.int .i64 o3, .int .i64 o4], .int .i64 nz] w fun e w' => e = .returned (.bool true) ∧ Below w.heap.size w w' := by
  have hd : decide (64 < (m : Int)) = false := by simp; omega
  have hmx : Try.prog.follows .mixedOrders = true := by kernel_rfl
  have HR := Lib.hid hR
  clear hR
  go_enter Try.func14, Try.ntmps14
  go_wp2_with fail
  refine (alive_true _).mono ?_
  rintro e w1 ⟨rfl, hb⟩
  have kn0 : Blk w1 (w.heap.size) #[.int .i64 t, .int .i64 n, .int .i64 s1, .int .i64 s2, .int .i64 s3, .int .i64 s4, .int .i64 l1, .int .i64 l2, .int .i64 h1, .int .i64 h2] 41 := Blk.later hb (by (repeat' first | (with_reducible assumption) | ((with_reducible refine Blk.new ?_); first | rfl | (simp; done)) | (with_reducible refine Blk.alloc ?_)))
  have kn1 : Blk w1 (w.heap.size + 1) #[.int .i64 o1, .int .i64 o2] 23 := Blk.later hb (by (repeat' first | (with_reducible assumption) | ((with_reducible refine Blk.new ?_); first | rfl | (simp; done)) | (with_reducible refine Blk.alloc ?_)))
  have kn2 : Blk w1 (w.heap.size + 1 + 1) #[.int .i64 o3, .int .i64 o4] 23 := Blk.later hb (by (repeat' first | (with_reducible assumption) | ((with_reducible refine Blk.new ?_); first | rfl | (simp; done)) | (with_reducible refine Blk.alloc ?_)))
  have k0 := kn0; clear kn0; obtain ⟨a0, b0⟩ := k0.read; have y0 := k0.lt
  have k1 := kn1; clear kn1; obtain ⟨a1, b1⟩ := k1.read; have y1 := k1.lt
  have k2 := kn2; clear kn2; obtain ⟨a2, b2⟩ := k2.read; have y2 := k2.lt
  have hBw : Below w.heap.size w w1 := by (repeat' first | (with_reducible exact Below.refl _ _) | (with_reducible assumption) | (with_reducible refine belowThru ?_ (by assumption)) | (with_reducible refine belowAlloc ?_))
  have hzw1 := hBw.size
  clear hb
  go_wp2_with fail
  refine (H1.out _ (HR.out.later (by (repeat' first | (with_reducible exact Below.refl _ _) | (with_reducible assumption) | (with_reducible refine belowThru ?_ (by assumption)) | (with_reducible refine belowAlloc ?_))))).mono ?_
  rintro e w2 ⟨rfl, hb⟩
  have kn0 : Blk w2 (w.heap.size) #[.int .i64 t, .int .i64 n, .int .i64 s1, .int .i64 s2, .int .i64 s3, .int .i64 s4, .int .i64 l1, .int .i64 l2, .int .i64 h1, .int .i64 h2] 41 := Blk.later hb (by (repeat' first | (with_reducible assumption) | ((with_reducible refine Blk.new ?_); first | rfl | (simp; done)) | (with_reducible refine Blk.alloc ?_)))
  have kn1 : Blk w2 (w.heap.size + 1) #[.int .i64 o1, .int .i64 o2] 23 := Blk.later hb (by (repeat' first | (with_reducible assumption) | ((with_reducible refine Blk.new ?_); first | rfl | (simp; done)) | (with_reducible refine Blk.alloc ?_)))
  have kn2 : Blk w2 (w.heap.size + 1 + 1) #[.int .i64 o3, .int .i64 o4] 23 := Blk.later hb (by (repeat' first | (with_reducible assumption) | ((with_reducible refine Blk.new ?_); first | rfl | (simp; done)) | (with_reducible refine Blk.alloc ?_)))
  clear k0 a0 b0 y0
  clear k1 a1 b1 y1
  clear k2 a2 b2 y2
  have k0 := kn0; clear kn0; obtain ⟨a0, b0⟩ := k0.read; have y0 := k0.lt
  have k1 := kn1; clear kn1; obtain ⟨a1, b1⟩ := k1.read; have y1 := k1.lt
  have k2 := kn2; clear kn2; obtain ⟨a2, b2⟩ := k2.read; have y2 := k2.lt
  replace hBw : Below w.heap.size w w2 := belowThru (by (repeat' first | (with_reducible exact Below.refl _ _) | (with_reducible assumption) | (with_reducible refine belowThru ?_ (by assumption)) | (with_reducible refine belowAlloc ?_))) hb
  have hzw2 := hBw.size
  clear hb
  go_wp2_with fail
  have hB4w : w.heap.size + 1 + 1 < w2.heap.size + 1 := by omega
  have hB43 : w2.heap.size < w2.heap.size + 1 := by omega
  obtain ⟨Wp, hWp⟩ : ∃ Wp, ((w2.alloc (.cells #[.int .i64 Z1, .int .i64 Z2, .int .i64 Z3, .int .i64 Z4] 30)).alloc (.cells #[.int .i64 t, .int .i64 n, .int .i64 s1, .int .i64 s2, .int .i64 s3, .int .i64 s4, .int .i64 l1, .int .i64 l2, .int .i64 h1, .int .i64 h2] 41)) = Wp := ⟨_, rfl⟩
  have kn0 : Blk Wp (w.heap.size) #[.int .i64 t, .int .i64 n, .int .i64 s1, .int .i64 s2, .int .i64 s3, .int .i64 s4, .int .i64 l1, .int .i64 l2, .int .i64 h1, .int .i64 h2] 41 := by rw [← hWp]; (repeat' first | (with_reducible assumption) | ((with_reducible refine Blk.new ?_); first | rfl | (simp; done)) | (with_reducible refine Blk.alloc ?_))
  have kn1 : Blk Wp (w.heap.size + 1) #[.int .i64 o1, .int .i64 o2] 23 := by rw [← hWp]; (repeat' first | (with_reducible assumption) | ((with_reducible refine Blk.new ?_); first | rfl | (simp; done)) | (with_reducible refine Blk.alloc ?_))
  have kn2 : Blk Wp (w.heap.size + 1 + 1) #[.int .i64 o3, .int .i64 o4] 23 := by rw [← hWp]; (repeat' first | (with_reducible assumption) | ((with_reducible refine Blk.new ?_); first | rfl | (simp; done)) | (with_reducible refine Blk.alloc ?_))
  have kn3 : Blk Wp (w2.heap.size) #[.int .i64 Z1, .int .i64 Z2, .int .i64 Z3, .int .i64 Z4] 30 := by rw [← hWp]; (repeat' first | (with_reducible assumption) | ((with_reducible refine Blk.new ?_); first | rfl | (simp; done)) | (with_reducible refine Blk.alloc ?_))
  have kn4 : Blk Wp (w2.heap.size + 1) #[.int .i64 t, .int .i64 n, .int .i64 s1, .int .i64 s2, .int .i64 s3, .int .i64 s4, .int .i64 l1, .int .i64 l2, .int .i64 h1, .int .i64 h2] 41 := by rw [← hWp]; (repeat' first | (with_reducible assumption) | ((with_reducible refine Blk.new ?_); first | rfl | (simp; done)) | (with_reducible refine Blk.alloc ?_))
  replace hBw : Below w.heap.size w Wp := by rw [← hWp]; (repeat' first | (with_reducible exact Below.refl _ _) | (with_reducible assumption) | (with_reducible refine belowThru ?_ (by assumption)) | (with_reducible refine belowAlloc ?_))
  clear k0 a0 b0 y0
  clear k1 a1 b1 y1
  clear k2 a2 b2 y2
  rw [hWp]
  clear hWp
  have k0 := kn0; clear kn0; have y0 := k0.lt
  have k1 := kn1; clear kn1; have y1 := k1.lt
  have k2 := kn2; clear kn2; have y2 := k2.lt
  have k3 := kn3; clear kn3; have y3 := k3.lt
  have k4 := kn4; clear kn4; have y4 := k4.lt
  obtain ⟨B4, hB4⟩ : ∃ z, w2.heap.size + 1 = z := ⟨_, rfl⟩
  rw [hB4] at k4 y4 hB4w hB43 ⊢
  clear hB4
  refine wp_region_held_drew (S := fun w' => (Blk w' (w.heap.size + 1) #[.int .i64 o1, .int .i64 o2] 23 ∧ (∀ i : Nat, w'.cell? ⟨w.heap.size + 1, i, none⟩ = (#[.int .i64 o1, .int .i64 o2] : Array Value)[i]?)) ∧ (Blk w' (w.heap.size + 1 + 1) #[.int .i64 o3, .int .i64 o4] 23 ∧ (∀ i : Nat, w'.cell? ⟨w.heap.size + 1 + 1, i, none⟩ = (#[.int .i64 o3, .int .i64 o4] : Array Value)[i]?)) ∧ Below w.heap.size w w') hmx ⟨k1.drew.full, k2.drew.full, hBw.drew⟩ (fun hHeld => ?_)
  obtain ⟨Wd, hWd⟩ : ∃ Wd, Wp.drew = Wd := ⟨_, rfl⟩
  have q0 : Blk Wd (w.heap.size) #[.int .i64 t, .int .i64 n, .int .i64 s1, .int .i64 s2, .int .i64 s3, .int .i64 s4, .int .i64 l1, .int .i64 l2, .int .i64 h1, .int .i64 h2] 41 := by rw [← hWd]; exact k0.drew
  have q1 : Blk Wd (w.heap.size + 1) #[.int .i64 o1, .int .i64 o2] 23 := by rw [← hWd]; exact k1.drew
  have q2 : Blk Wd (w.heap.size + 1 + 1) #[.int .i64 o3, .int .i64 o4] 23 := by rw [← hWd]; exact k2.drew
  have q3 : Blk Wd (w2.heap.size) #[.int .i64 Z1, .int .i64 Z2, .int .i64 Z3, .int .i64 Z4] 30 := by rw [← hWd]; exact k3.drew
  have q4 : Blk Wd (B4) #[.int .i64 t, .int .i64 n, .int .i64 s1, .int .i64 s2, .int .i64 s3, .int .i64 s4, .int .i64 l1, .int .i64 l2, .int .i64 h1, .int .i64 h2] 41 := by rw [← hWd]; exact k4.drew
  have hBd : Below w.heap.size w Wd := by rw [← hWd]; exact hBw.drew
  rw [hWd] at hHeld ⊢
  clear hWd k0 k1 k2 k3 k4 y0 y1 y2 y3 y4 hBw
  refine wpAnyH_take (i := 0) (v := ?_) rfl (by kernel_rfl) (by kernel_rfl) (by kernel_rfl) (fun _ _ _ h => h) (Or.inl ⟨by rfl, ?hT8⟩) (by assumption) ?_
  case hT8 => ((intro w hSw; (try dsimp only at hSw); go_simp); try (with_reducible rfl))
  try simp only [Act.put, List.setIfInBounds_toArray, List.set_cons_zero, List.set_cons_succ]
  refine wpAnyH_take (i := 1) (v := ?_) rfl (by kernel_rfl) (by kernel_rfl) (by kernel_rfl) (fun _ _ _ h => h) (Or.inl ⟨by rfl, ?hT9⟩) (by assumption) ?_
  case hT9 => ((intro w hSw; (try dsimp only at hSw); go_simp); try (with_reducible rfl))
  try simp only [Act.put, List.setIfInBounds_toArray, List.set_cons_zero, List.set_cons_succ]
  refine wpAnyH_ready (rs := [2]) (by kernel_rfl) (by simp) ?_
  refine AllReadyH.cons rfl (fun K hK => ?_) AllReadyH.nil
  go_simp
  refine hK.out _ _ ?_ (fun hHeldN => ?_)
  · (try dsimp only); ((first | (apply hold2; (focus assumption); intro p0 p1 pB) | skip); refine ⟨Blk.full ?_, Blk.full ?_, ?_⟩; all_goals (first | ((repeat' first | (with_reducible assumption) | (with_reducible refine Blk.other ?_ (by first | omega | (simp; omega)))); done) | ((repeat' first | (with_reducible exact Below.refl _ _) | (with_reducible assumption) | (with_reducible refine belowThru ?_ (by assumption)) | (with_reducible refine belowAlloc ?_) | (with_reducible refine Below.setCell ?_ (by first | omega | (simp; omega)) _) | (with_reducible refine Below.drew ?_)); done)))
  clear hK K hHeld
  have hHeld := hHeldN
  clear hHeldN
  try simp only [Act.put, List.setIfInBounds_toArray, List.set_cons_zero, List.set_cons_succ]
  obtain ⟨r4, s4'⟩ := q4.read
  refine wpAnyH_ready (rs := [3]) (by kernel_rfl) (by simp) ?_
  refine AllReadyH.cons rfl (fun K hK => ?_) AllReadyH.nil
  go_simp
  refine hK.out _ _ ?_ (fun hHeldN => ?_)
  · (try dsimp only); ((first | (apply hold2; (focus assumption); intro p0 p1 pB) | skip); refine ⟨Blk.full ?_, Blk.full ?_, ?_⟩; all_goals (first | ((repeat' first | (with_reducible assumption) | (with_reducible refine Blk.other ?_ (by first | omega | (simp; omega)))); done) | ((repeat' first | (with_reducible exact Below.refl _ _) | (with_reducible assumption) | (with_reducible refine belowThru ?_ (by assumption)) | (with_reducible refine belowAlloc ?_) | (with_reducible refine Below.setCell ?_ (by first | omega | (simp; omega)) _) | (with_reducible refine Below.drew ?_)); done)))
  clear hK K hHeld
  have hHeld := hHeldN
  clear hHeldN
  try simp only [Act.put, List.setIfInBounds_toArray, List.set_cons_zero, List.set_cons_succ]
  refine wpAnyH_ready (rs := [4]) (by kernel_rfl) (by simp) ?_
  refine AllReadyH.cons rfl (fun K hK => ?_) AllReadyH.nil
  go_simp
  refine hK.out _ _ ?_ (fun hHeldN => ?_)
  · (try dsimp only); ((first | (apply hold2; (focus assumption); intro p0 p1 pB) | skip); refine ⟨Blk.full ?_, Blk.full ?_, ?_⟩; all_goals (first | ((repeat' first | (with_reducible assumption) | (with_reducible refine Blk.other ?_ (by first | omega | (simp; omega)))); done) | ((repeat' first | (with_reducible exact Below.refl _ _) | (with_reducible assumption) | (with_reducible refine belowThru ?_ (by assumption)) | (with_reducible refine belowAlloc ?_) | (with_reducible refine Below.setCell ?_ (by first | omega | (simp; omega)) _) | (with_reducible refine Below.drew ?_)); done)))
  clear hK K hHeld
  have hHeld := hHeldN
  clear hHeldN
  try simp only [Act.put, List.setIfInBounds_toArray, List.set_cons_zero, List.set_cons_succ]
  refine wpAnyH_ready (rs := [5]) (by kernel_rfl) (by simp) ?_
  refine AllReadyH.cons rfl (fun K hK => ?_) AllReadyH.nil
  go_simp
  refine hK.out _ _ ?_ (fun hHeldN => ?_)
  · (try dsimp only); ((first | (apply hold2; (focus assumption); intro p0 p1 pB) | skip); refine ⟨Blk.full ?_, Blk.full ?_, ?_⟩; all_goals (first | ((repeat' first | (with_reducible assumption) | (with_reducible refine Blk.other ?_ (by first | omega | (simp; omega)))); done) | ((repeat' first | (with_reducible exact Below.refl _ _) | (with_reducible assumption) | (with_reducible refine belowThru ?_ (by assumption)) | (with_reducible refine belowAlloc ?_) | (with_reducible refine Below.setCell ?_ (by first | omega | (simp; omega)) _) | (with_reducible refine Below.drew ?_)); done)))
  clear hK K hHeld
  have hHeld := hHeldN
  clear hHeldN
  try simp only [Act.put, List.setIfInBounds_toArray, List.set_cons_zero, List.set_cons_succ]
  refine wpAnyH_done (by kernel_rfl) ?_ _
  obtain ⟨Wq, hWq⟩ : ∃ Wq, ((((Wd.setCell ⟨B4, 6, none⟩ (.int .i64 o1)).setCell ⟨B4, 7, none⟩ (.int .i64 o2)).setCell ⟨B4, 8, none⟩ (.int .i64 o3)).setCell ⟨B4, 9, none⟩ (.int .i64 o4)) = Wq := ⟨_, rfl⟩
  have q5 : Blk Wq B4 #[.int .i64 t, .int .i64 n, .int .i64 s1, .int .i64 s2, .int .i64 s3, .int .i64 s4, .int .i64 o1, .int .i64 o2, .int .i64 o3, .int .i64 o4] 41 := by rw [← hWq]; exact Blk.set (Blk.set (Blk.set (Blk.set q4)))
  have p0 : Blk Wq (w.heap.size) #[.int .i64 t, .int .i64 n, .int .i64 s1, .int .i64 s2, .int .i64 s3, .int .i64 s4, .int .i64 l1, .int .i64 l2, .int .i64 h1, .int .i64 h2] 41 := by rw [← hWq]; (repeat' first | (with_reducible assumption) | (with_reducible refine Blk.other ?_ (by first | omega | (simp; omega))))
  have p1 : Blk Wq (w.heap.size + 1) #[.int .i64 o1, .int .i64 o2] 23 := by rw [← hWq]; (repeat' first | (with_reducible assumption) | (with_reducible refine Blk.other ?_ (by first | omega | (simp; omega))))
  have p2 : Blk Wq (w.heap.size + 1 + 1) #[.int .i64 o3, .int .i64 o4] 23 := by rw [← hWq]; (repeat' first | (with_reducible assumption) | (with_reducible refine Blk.other ?_ (by first | omega | (simp; omega))))
  have p3 : Blk Wq (w2.heap.size) #[.int .i64 Z1, .int .i64 Z2, .int .i64 Z3, .int .i64 Z4] 30 := by rw [← hWq]; (repeat' first | (with_reducible assumption) | (with_reducible refine Blk.other ?_ (by first | omega | (simp; omega))))
  have hBn : Below w.heap.size w Wq := by rw [← hWq]; (repeat' first | (with_reducible exact Below.refl _ _) | (with_reducible assumption) | (with_reducible refine belowThru ?_ (by assumption)) | (with_reducible refine belowAlloc ?_) | (with_reducible refine Below.setCell ?_ (by first | omega | (simp; omega)) _) | (with_reducible refine Below.drew ?_))
  rw [hWq]
  clear hWq q0 q1 q2 q3 q4 r4 s4' hHeld hBd
  have k0 := p0; clear p0; obtain ⟨a0, b0⟩ := k0.read; have y0 := k0.lt
  have k1 := p1; clear p1; obtain ⟨a1, b1⟩ := k1.read; have y1 := k1.lt
  have k2 := p2; clear p2; obtain ⟨a2, b2⟩ := k2.read; have y2 := k2.lt
  have k3 := p3; clear p3; obtain ⟨a3, b3⟩ := k3.read; have y3 := k3.lt
  have k4 := q5; clear q5; obtain ⟨a4, b4⟩ := k4.read; have y4 := k4.lt; have hBw := hBn; clear hBn; have hzq := hBw.size
  go_wp2_with fail
  refine (H2.out _ (HR.out.later (by (repeat' first | (with_reducible exact Below.refl _ _) | (with_reducible assumption) | (with_reducible refine belowThru ?_ (by assumption)) | (with_reducible refine belowAlloc ?_))))).mono ?_
  rintro e w3 ⟨rfl, hb⟩
  have kn0 : Blk w3 (w.heap.size) #[.int .i64 t, .int .i64 n, .int .i64 s1, .int .i64 s2, .int .i64 s3, .int .i64 s4, .int .i64 l1, .int .i64 l2, .int .i64 h1, .int .i64 h2] 41 := Blk.later hb (by (repeat' first | (with_reducible assumption) | ((with_reducible refine Blk.new ?_); first | rfl | (simp; done)) | (with_reducible refine Blk.alloc ?_)))
  have kn1 : Blk w3 (w.heap.size + 1) #[.int .i64 o1, .int .i64 o2] 23 := Blk.later hb (by (repeat' first | (with_reducible assumption) | ((with_reducible refine Blk.new ?_); first | rfl | (simp; done)) | (with_reducible refine Blk.alloc ?_)))
  have kn2 : Blk w3 (w.heap.size + 1 + 1) #[.int .i64 o3, .int .i64 o4] 23 := Blk.later hb (by (repeat' first | (with_reducible assumption) | ((with_reducible refine Blk.new ?_); first | rfl | (simp; done)) | (with_reducible refine Blk.alloc ?_)))
  have kn3 : Blk w3 (w2.heap.size) #[.int .i64 Z1, .int .i64 Z2, .int .i64 Z3, .int .i64 Z4] 30 := Blk.later hb (by (repeat' first | (with_reducible assumption) | ((with_reducible refine Blk.new ?_); first | rfl | (simp; done)) | (with_reducible refine Blk.alloc ?_)))
  have kn4 : Blk w3 (B4) #[.int .i64 t, .int .i64 n, .int .i64 s1, .int .i64 s2, .int .i64 s3, .int .i64 s4, .int .i64 o1, .int .i64 o2, .int .i64 o3, .int .i64 o4] 41 := Blk.later hb (by (repeat' first | (with_reducible assumption) | ((with_reducible refine Blk.new ?_); first | rfl | (simp; done)) | (with_reducible refine Blk.alloc ?_)))
  clear k0 a0 b0 y0
  clear k1 a1 b1 y1
  clear k2 a2 b2 y2
  clear k3 a3 b3 y3
  clear k4 a4 b4 y4
  have k0 := kn0; clear kn0; obtain ⟨a0, b0⟩ := k0.read; have y0 := k0.lt
  have k1 := kn1; clear kn1; obtain ⟨a1, b1⟩ := k1.read; have y1 := k1.lt
  have k2 := kn2; clear kn2; obtain ⟨a2, b2⟩ := k2.read; have y2 := k2.lt
  have k3 := kn3; clear kn3; obtain ⟨a3, b3⟩ := k3.read; have y3 := k3.lt
  have k4 := kn4; clear kn4; obtain ⟨a4, b4⟩ := k4.read; have y4 := k4.lt
  replace hBw : Below w.heap.size w w3 := belowThru (by (repeat' first | (with_reducible exact Below.refl _ _) | (with_reducible assumption) | (with_reducible refine belowThru ?_ (by assumption)) | (with_reducible refine belowAlloc ?_))) hb
  have hzw3 := hBw.size
  clear hb
  go_wp2_with fail
  refine (H3.out _ (HR.out.later (by (repeat' first | (with_reducible exact Below.refl _ _) | (with_reducible assumption) | (with_reducible refine belowThru ?_ (by assumption)) | (with_reducible refine belowAlloc ?_))))).mono ?_
  rintro e w4 ⟨rfl, hb⟩
  have kn0 : Blk w4 (w.heap.size) #[.int .i64 t, .int .i64 n, .int .i64 s1, .int .i64 s2, .int .i64 s3, .int .i64 s4, .int .i64 l1, .int .i64 l2, .int .i64 h1, .int .i64 h2] 41 := Blk.later hb (by (repeat' first | (with_reducible assumption) | ((with_reducible refine Blk.new ?_); first | rfl | (simp; done)) | (with_reducible refine Blk.alloc ?_)))
  have kn1 : Blk w4 (w.heap.size + 1) #[.int .i64 o1, .int .i64 o2] 23 := Blk.later hb (by (repeat' first | (with_reducible assumption) | ((with_reducible refine Blk.new ?_); first | rfl | (simp; done)) | (with_reducible refine Blk.alloc ?_)))
  have kn2 : Blk w4 (w.heap.size + 1 + 1) #[.int .i64 o3, .int .i64 o4] 23 := Blk.later hb (by (repeat' first | (with_reducible assumption) | ((with_reducible refine Blk.new ?_); first | rfl | (simp; done)) | (with_reducible refine Blk.alloc ?_)))
  have kn3 : Blk w4 (w2.heap.size) #[.int .i64 Z1, .int .i64 Z2, .int .i64 Z3, .int .i64 Z4] 30 := Blk.later hb (by (repeat' first | (with_reducible assumption) | ((with_reducible refine Blk.new ?_); first | rfl | (simp; done)) | (with_reducible refine Blk.alloc ?_)))
  have kn4 : Blk w4 (B4) #[.int .i64 t, .int .i64 n, .int .i64 s1, .int .i64 s2, .int .i64 s3, .int .i64 s4, .int .i64 o1, .int .i64 o2, .int .i64 o3, .int .i64 o4] 41 := Blk.later hb (by (repeat' first | (with_reducible assumption) | ((with_reducible refine Blk.new ?_); first | rfl | (simp; done)) | (with_reducible refine Blk.alloc ?_)))
  have kn5 : Blk w4 (w3.heap.size) #[.int .i64 Y1, .int .i64 Y2, .int .i64 Y3, .int .i64 Y4] 30 := Blk.later hb (by (repeat' first | (with_reducible assumption) | ((with_reducible refine Blk.new ?_); first | rfl | (simp; done)) | (with_reducible refine Blk.alloc ?_)))
  have kn6 : Blk w4 (w3.heap.size + 1) #[.int .i64 t, .int .i64 nz, .int .i64 s1, .int .i64 s2, .int .i64 s3, .int .i64 s4, .int .i64 l1, .int .i64 l2, .int .i64 h1, .int .i64 h2] 41 := Blk.later hb (by (repeat' first | (with_reducible assumption) | ((with_reducible refine Blk.new ?_); first | rfl | (simp; done)) | (with_reducible refine Blk.alloc ?_)))
  clear k0 a0 b0 y0
  clear k1 a1 b1 y1
  clear k2 a2 b2 y2
  clear k3 a3 b3 y3
  clear k4 a4 b4 y4
  have k0 := kn0; clear kn0; obtain ⟨a0, b0⟩ := k0.read; have y0 := k0.lt
  have k1 := kn1; clear kn1; obtain ⟨a1, b1⟩ := k1.read; have y1 := k1.lt
  have k2 := kn2; clear kn2; obtain ⟨a2, b2⟩ := k2.read; have y2 := k2.lt
  have k3 := kn3; clear kn3; obtain ⟨a3, b3⟩ := k3.read; have y3 := k3.lt
  have k4 := kn4; clear kn4; obtain ⟨a4, b4⟩ := k4.read; have y4 := k4.lt
  have k5 := kn5; clear kn5; obtain ⟨a5, b5⟩ := k5.read; have y5 := k5.lt
  have k6 := kn6; clear kn6; obtain ⟨a6, b6⟩ := k6.read; have y6 := k6.lt
  replace hBw : Below w.heap.size w w4 := belowThru (by (repeat' first | (with_reducible exact Below.refl _ _) | (with_reducible assumption) | (with_reducible refine belowThru ?_ (by assumption)) | (with_reducible refine belowAlloc ?_))) hb
  have hzw4 := hBw.size
  clear hb
  go_wp2_with fail
  go_ret
  exact ⟨rfl, by (repeat' first | (with_reducible exact Below.refl _ _) | (with_reducible assumption) | (with_reducible refine belowThru ?_ (by assumption)) | (with_reducible refine belowAlloc ?_))⟩
set_option maxRecDepth 100000 in
set_option maxHeartbeats 16000000 in
theorem tol_2o (t n s1 s2 s3 s4 l1 l2 h1 h2 o1 o2 o3 o4 nz : Int) (a : Option Addr) (m c : Nat) (zs : List Int) (w : World) (hR : Row w a m (iv zs)) (hl : m ≤ 64) (Z1 Z2 Z3 Z4 V Y1 Y2 Y3 Y4 U X1 X2 X3 X4 C E2 E3 : Int) (hnz : ¬ nz < n) (hC : (C == 1) = false)  (H1 : Hid (∀ w, Row w a m (iv zs) → Calls Try.prog 27 #[.agg #[.int .i64 t, .int .i64 n, .int .i64 s1, .int .i64 s2, .int .i64 s3, .int .i64 s4, .int .i64 l1, .int .i64 l2, .int .i64 h1, .int .i64 h2], .slice a m c] w fun e w' => e = .returned (.tuple #[.agg #[.int .i64 Z1, .int .i64 Z2, .int .i64 Z3, .int .i64 Z4], .int .u8 2, .int .i64 0]) ∧ Below w.heap.size w w')) (H2 : Hid (∀ w, Row w a m (iv zs) → Calls Try.prog 27 #[.agg #[.int .i64 t, .int .i64 n, .int .i64 s1, .int .i64 s2, .int .i64 s3, .int .i64 s4, .int .i64 o1, .int .i64 o2, .int .i64 o3, .int .i64 o4], .slice a m c] w fun e w' => e = .returned (.tuple #[.agg #[.int .i64 Y1, .int .i64 Y2, .int .i64 Y3, .int .i64 Y4], .int .u8 U, .int .i64 0]) ∧ Below w.heap.size w w')) (H3 : Hid (∀ w, Row w a m (iv zs) → Calls Try.prog 27 #[.agg #[.int .i64 t, .int .i64 nz, .int .i64 s1, .int .i64 s2, .int .i64 s3, .int .i64 s4, .int .i64 l1, .int .i64 l2, .int .i64 h1, .int .i64 h2], .slice a m c] w fun e w' => e = .returned (.tuple #[.agg #[.int .i64 X1, .int .i64 X2, .int .i64 X3, .int .i64 X4], .int .u8 C, .int .i64 0]) ∧ Below w.heap.size w w')) (HI : Hid (∀ w, Calls Try.prog 55 #[.agg #[.int .i64 l1, .int .i64 l2, .int .i64 h1, .int .i64 h2], .agg #[.int .i64 o1, .int .i64 o2, .int .i64 o3, .int .i64 o4]] w fun e w' => e = .returned (.bool false) ∧ Below w.heap.size w w')) :
    Calls Try.prog 14 #[.agg #[.int .i64 t, .int .i64 n, .int .i64 s1, .int .i64 s2, .int .i64 s3, .int .i64 s4, .int .i64 l1, .int .i64 l2, .int .i64 h1, .int .i64 h2], .slice a m c, .agg #[.int .i64 o1, .int .i64 o2], .agg #[.int .i64 o3, .int .i64 o4], .int .i64 nz] w fun e w' => e = .returned (.bool true) ∧ Below w.heap.size w w' := by
  have hd : decide (64 < (m : Int)) = false := by simp; omega
  have hmx : Try.prog.follows .mixedOrders = true := by kernel_rfl
  have HR := Lib.hid hR
  clear hR
  go_enter Try.func14, Try.ntmps14
  go_wp2_with fail
  refine (alive_true _).mono ?_
  rintro e w1 ⟨rfl, hb⟩
  have kn0 : Blk w1 (w.heap.size) #[.int .i64 t, .int .i64 n, .int .i64 s1, .int .i64 s2, .int .i64 s3, .int .i64 s4, .int .i64 l1, .int .i64 l2, .int .i64 h1, .int .i64 h2] 41 := Blk.later hb (by (repeat' first | (with_reducible assumption) | ((with_reducible refine Blk.new ?_); first | rfl | (simp; done)) | (with_reducible refine Blk.alloc ?_)))
  have kn1 : Blk w1 (w.heap.size + 1) #[.int .i64 o1, .int .i64 o2] 23 := Blk.later hb (by (repeat' first | (with_reducible assumption) | ((with_reducible refine Blk.new ?_); first | rfl | (simp; done)) | (with_reducible refine Blk.alloc ?_)))
  have kn2 : Blk w1 (w.heap.size + 1 + 1) #[.int .i64 o3, .int .i64 o4] 23 := Blk.later hb (by (repeat' first | (with_reducible assumption) | ((with_reducible refine Blk.new ?_); first | rfl | (simp; done)) | (with_reducible refine Blk.alloc ?_)))
  have k0 := kn0; clear kn0; obtain ⟨a0, b0⟩ := k0.read; have y0 := k0.lt
  have k1 := kn1; clear kn1; obtain ⟨a1, b1⟩ := k1.read; have y1 := k1.lt
  have k2 := kn2; clear kn2; obtain ⟨a2, b2⟩ := k2.read; have y2 := k2.lt
  have hBw : Below w.heap.size w w1 := by (repeat' first | (with_reducible exact Below.refl _ _) | (with_reducible assumption) | (with_reducible refine belowThru ?_ (by assumption)) | (with_reducible refine belowAlloc ?_))
  have hzw1 := hBw.size
  clear hb
  go_wp2_with fail
  refine (H1.out _ (HR.out.later (by (repeat' first | (with_reducible exact Below.refl _ _) | (with_reducible assumption) | (with_reducible refine belowThru ?_ (by assumption)) | (with_reducible refine belowAlloc ?_))))).mono ?_
  rintro e w2 ⟨rfl, hb⟩
  have kn0 : Blk w2 (w.heap.size) #[.int .i64 t, .int .i64 n, .int .i64 s1, .int .i64 s2, .int .i64 s3, .int .i64 s4, .int .i64 l1, .int .i64 l2, .int .i64 h1, .int .i64 h2] 41 := Blk.later hb (by (repeat' first | (with_reducible assumption) | ((with_reducible refine Blk.new ?_); first | rfl | (simp; done)) | (with_reducible refine Blk.alloc ?_)))
  have kn1 : Blk w2 (w.heap.size + 1) #[.int .i64 o1, .int .i64 o2] 23 := Blk.later hb (by (repeat' first | (with_reducible assumption) | ((with_reducible refine Blk.new ?_); first | rfl | (simp; done)) | (with_reducible refine Blk.alloc ?_)))
  have kn2 : Blk w2 (w.heap.size + 1 + 1) #[.int .i64 o3, .int .i64 o4] 23 := Blk.later hb (by (repeat' first | (with_reducible assumption) | ((with_reducible refine Blk.new ?_); first | rfl | (simp; done)) | (with_reducible refine Blk.alloc ?_)))
  clear k0 a0 b0 y0
  clear k1 a1 b1 y1
  clear k2 a2 b2 y2
  have k0 := kn0; clear kn0; obtain ⟨a0, b0⟩ := k0.read; have y0 := k0.lt
  have k1 := kn1; clear kn1; obtain ⟨a1, b1⟩ := k1.read; have y1 := k1.lt
  have k2 := kn2; clear kn2; obtain ⟨a2, b2⟩ := k2.read; have y2 := k2.lt
  replace hBw : Below w.heap.size w w2 := belowThru (by (repeat' first | (with_reducible exact Below.refl _ _) | (with_reducible assumption) | (with_reducible refine belowThru ?_ (by assumption)) | (with_reducible refine belowAlloc ?_))) hb
  have hzw2 := hBw.size
  clear hb
  go_wp2_with fail
  have hB4w : w.heap.size + 1 + 1 < w2.heap.size + 1 := by omega
  have hB43 : w2.heap.size < w2.heap.size + 1 := by omega
  obtain ⟨Wp, hWp⟩ : ∃ Wp, ((w2.alloc (.cells #[.int .i64 Z1, .int .i64 Z2, .int .i64 Z3, .int .i64 Z4] 30)).alloc (.cells #[.int .i64 t, .int .i64 n, .int .i64 s1, .int .i64 s2, .int .i64 s3, .int .i64 s4, .int .i64 l1, .int .i64 l2, .int .i64 h1, .int .i64 h2] 41)) = Wp := ⟨_, rfl⟩
  have kn0 : Blk Wp (w.heap.size) #[.int .i64 t, .int .i64 n, .int .i64 s1, .int .i64 s2, .int .i64 s3, .int .i64 s4, .int .i64 l1, .int .i64 l2, .int .i64 h1, .int .i64 h2] 41 := by rw [← hWp]; (repeat' first | (with_reducible assumption) | ((with_reducible refine Blk.new ?_); first | rfl | (simp; done)) | (with_reducible refine Blk.alloc ?_))
  have kn1 : Blk Wp (w.heap.size + 1) #[.int .i64 o1, .int .i64 o2] 23 := by rw [← hWp]; (repeat' first | (with_reducible assumption) | ((with_reducible refine Blk.new ?_); first | rfl | (simp; done)) | (with_reducible refine Blk.alloc ?_))
  have kn2 : Blk Wp (w.heap.size + 1 + 1) #[.int .i64 o3, .int .i64 o4] 23 := by rw [← hWp]; (repeat' first | (with_reducible assumption) | ((with_reducible refine Blk.new ?_); first | rfl | (simp; done)) | (with_reducible refine Blk.alloc ?_))
  have kn3 : Blk Wp (w2.heap.size) #[.int .i64 Z1, .int .i64 Z2, .int .i64 Z3, .int .i64 Z4] 30 := by rw [← hWp]; (repeat' first | (with_reducible assumption) | ((with_reducible refine Blk.new ?_); first | rfl | (simp; done)) | (with_reducible refine Blk.alloc ?_))
  have kn4 : Blk Wp (w2.heap.size + 1) #[.int .i64 t, .int .i64 n, .int .i64 s1, .int .i64 s2, .int .i64 s3, .int .i64 s4, .int .i64 l1, .int .i64 l2, .int .i64 h1, .int .i64 h2] 41 := by rw [← hWp]; (repeat' first | (with_reducible assumption) | ((with_reducible refine Blk.new ?_); first | rfl | (simp; done)) | (with_reducible refine Blk.alloc ?_))
  replace hBw : Below w.heap.size w Wp := by rw [← hWp]; (repeat' first | (with_reducible exact Below.refl _ _) | (with_reducible assumption) | (with_reducible refine belowThru ?_ (by assumption)) | (with_reducible refine belowAlloc ?_))
  clear k0 a0 b0 y0
  clear k1 a1 b1 y1
  clear k2 a2 b2 y2
  rw [hWp]
  clear hWp
  have k0 := kn0; clear kn0; have y0 := k0.lt
  have k1 := kn1; clear kn1; have y1 := k1.lt
  have k2 := kn2; clear kn2; have y2 := k2.lt
  have k3 := kn3; clear kn3; have y3 := k3.lt
  have k4 := kn4; clear kn4; have y4 := k4.lt
  obtain ⟨B4, hB4⟩ : ∃ z, w2.heap.size + 1 = z := ⟨_, rfl⟩
  rw [hB4] at k4 y4 hB4w hB43 ⊢
  clear hB4
  refine wp_region_held_drew (S := fun w' => (Blk w' (w.heap.size + 1) #[.int .i64 o1, .int .i64 o2] 23 ∧ (∀ i : Nat, w'.cell? ⟨w.heap.size + 1, i, none⟩ = (#[.int .i64 o1, .int .i64 o2] : Array Value)[i]?)) ∧ (Blk w' (w.heap.size + 1 + 1) #[.int .i64 o3, .int .i64 o4] 23 ∧ (∀ i : Nat, w'.cell? ⟨w.heap.size + 1 + 1, i, none⟩ = (#[.int .i64 o3, .int .i64 o4] : Array Value)[i]?)) ∧ Below w.heap.size w w') hmx ⟨k1.drew.full, k2.drew.full, hBw.drew⟩ (fun hHeld => ?_)
  obtain ⟨Wd, hWd⟩ : ∃ Wd, Wp.drew = Wd := ⟨_, rfl⟩
  have q0 : Blk Wd (w.heap.size) #[.int .i64 t, .int .i64 n, .int .i64 s1, .int .i64 s2, .int .i64 s3, .int .i64 s4, .int .i64 l1, .int .i64 l2, .int .i64 h1, .int .i64 h2] 41 := by rw [← hWd]; exact k0.drew
  have q1 : Blk Wd (w.heap.size + 1) #[.int .i64 o1, .int .i64 o2] 23 := by rw [← hWd]; exact k1.drew
  have q2 : Blk Wd (w.heap.size + 1 + 1) #[.int .i64 o3, .int .i64 o4] 23 := by rw [← hWd]; exact k2.drew
  have q3 : Blk Wd (w2.heap.size) #[.int .i64 Z1, .int .i64 Z2, .int .i64 Z3, .int .i64 Z4] 30 := by rw [← hWd]; exact k3.drew
  have q4 : Blk Wd (B4) #[.int .i64 t, .int .i64 n, .int .i64 s1, .int .i64 s2, .int .i64 s3, .int .i64 s4, .int .i64 l1, .int .i64 l2, .int .i64 h1, .int .i64 h2] 41 := by rw [← hWd]; exact k4.drew
  have hBd : Below w.heap.size w Wd := by rw [← hWd]; exact hBw.drew
  rw [hWd] at hHeld ⊢
  clear hWd k0 k1 k2 k3 k4 y0 y1 y2 y3 y4 hBw
  refine wpAnyH_take (i := 0) (v := ?_) rfl (by kernel_rfl) (by kernel_rfl) (by kernel_rfl) (fun _ _ _ h => h) (Or.inl ⟨by rfl, ?hT10⟩) (by assumption) ?_
  case hT10 => ((intro w hSw; (try dsimp only at hSw); go_simp); try (with_reducible rfl))
  try simp only [Act.put, List.setIfInBounds_toArray, List.set_cons_zero, List.set_cons_succ]
  refine wpAnyH_take (i := 1) (v := ?_) rfl (by kernel_rfl) (by kernel_rfl) (by kernel_rfl) (fun _ _ _ h => h) (Or.inl ⟨by rfl, ?hT11⟩) (by assumption) ?_
  case hT11 => ((intro w hSw; (try dsimp only at hSw); go_simp); try (with_reducible rfl))
  try simp only [Act.put, List.setIfInBounds_toArray, List.set_cons_zero, List.set_cons_succ]
  refine wpAnyH_ready (rs := [2]) (by kernel_rfl) (by simp) ?_
  refine AllReadyH.cons rfl (fun K hK => ?_) AllReadyH.nil
  go_simp
  refine hK.out _ _ ?_ (fun hHeldN => ?_)
  · (try dsimp only); ((first | (apply hold2; (focus assumption); intro p0 p1 pB) | skip); refine ⟨Blk.full ?_, Blk.full ?_, ?_⟩; all_goals (first | ((repeat' first | (with_reducible assumption) | (with_reducible refine Blk.other ?_ (by first | omega | (simp; omega)))); done) | ((repeat' first | (with_reducible exact Below.refl _ _) | (with_reducible assumption) | (with_reducible refine belowThru ?_ (by assumption)) | (with_reducible refine belowAlloc ?_) | (with_reducible refine Below.setCell ?_ (by first | omega | (simp; omega)) _) | (with_reducible refine Below.drew ?_)); done)))
  clear hK K hHeld
  have hHeld := hHeldN
  clear hHeldN
  try simp only [Act.put, List.setIfInBounds_toArray, List.set_cons_zero, List.set_cons_succ]
  obtain ⟨r4, s4'⟩ := q4.read
  refine wpAnyH_ready (rs := [3]) (by kernel_rfl) (by simp) ?_
  refine AllReadyH.cons rfl (fun K hK => ?_) AllReadyH.nil
  go_simp
  refine hK.out _ _ ?_ (fun hHeldN => ?_)
  · (try dsimp only); ((first | (apply hold2; (focus assumption); intro p0 p1 pB) | skip); refine ⟨Blk.full ?_, Blk.full ?_, ?_⟩; all_goals (first | ((repeat' first | (with_reducible assumption) | (with_reducible refine Blk.other ?_ (by first | omega | (simp; omega)))); done) | ((repeat' first | (with_reducible exact Below.refl _ _) | (with_reducible assumption) | (with_reducible refine belowThru ?_ (by assumption)) | (with_reducible refine belowAlloc ?_) | (with_reducible refine Below.setCell ?_ (by first | omega | (simp; omega)) _) | (with_reducible refine Below.drew ?_)); done)))
  clear hK K hHeld
  have hHeld := hHeldN
  clear hHeldN
  try simp only [Act.put, List.setIfInBounds_toArray, List.set_cons_zero, List.set_cons_succ]
  refine wpAnyH_ready (rs := [4]) (by kernel_rfl) (by simp) ?_
  refine AllReadyH.cons rfl (fun K hK => ?_) AllReadyH.nil
  go_simp
  refine hK.out _ _ ?_ (fun hHeldN => ?_)
  · (try dsimp only); ((first | (apply hold2; (focus assumption); intro p0 p1 pB) | skip); refine ⟨Blk.full ?_, Blk.full ?_, ?_⟩; all_goals (first | ((repeat' first | (with_reducible assumption) | (with_reducible refine Blk.other ?_ (by first | omega | (simp; omega)))); done) | ((repeat' first | (with_reducible exact Below.refl _ _) | (with_reducible assumption) | (with_reducible refine belowThru ?_ (by assumption)) | (with_reducible refine belowAlloc ?_) | (with_reducible refine Below.setCell ?_ (by first | omega | (simp; omega)) _) | (with_reducible refine Below.drew ?_)); done)))
  clear hK K hHeld
  have hHeld := hHeldN
  clear hHeldN
  try simp only [Act.put, List.setIfInBounds_toArray, List.set_cons_zero, List.set_cons_succ]
  refine wpAnyH_ready (rs := [5]) (by kernel_rfl) (by simp) ?_
  refine AllReadyH.cons rfl (fun K hK => ?_) AllReadyH.nil
  go_simp
  refine hK.out _ _ ?_ (fun hHeldN => ?_)
  · (try dsimp only); ((first | (apply hold2; (focus assumption); intro p0 p1 pB) | skip); refine ⟨Blk.full ?_, Blk.full ?_, ?_⟩; all_goals (first | ((repeat' first | (with_reducible assumption) | (with_reducible refine Blk.other ?_ (by first | omega | (simp; omega)))); done) | ((repeat' first | (with_reducible exact Below.refl _ _) | (with_reducible assumption) | (with_reducible refine belowThru ?_ (by assumption)) | (with_reducible refine belowAlloc ?_) | (with_reducible refine Below.setCell ?_ (by first | omega | (simp; omega)) _) | (with_reducible refine Below.drew ?_)); done)))
  clear hK K hHeld
  have hHeld := hHeldN
  clear hHeldN
  try simp only [Act.put, List.setIfInBounds_toArray, List.set_cons_zero, List.set_cons_succ]
  refine wpAnyH_done (by kernel_rfl) ?_ _
  obtain ⟨Wq, hWq⟩ : ∃ Wq, ((((Wd.setCell ⟨B4, 6, none⟩ (.int .i64 o1)).setCell ⟨B4, 7, none⟩ (.int .i64 o2)).setCell ⟨B4, 8, none⟩ (.int .i64 o3)).setCell ⟨B4, 9, none⟩ (.int .i64 o4)) = Wq := ⟨_, rfl⟩
  have q5 : Blk Wq B4 #[.int .i64 t, .int .i64 n, .int .i64 s1, .int .i64 s2, .int .i64 s3, .int .i64 s4, .int .i64 o1, .int .i64 o2, .int .i64 o3, .int .i64 o4] 41 := by rw [← hWq]; exact Blk.set (Blk.set (Blk.set (Blk.set q4)))
  have p0 : Blk Wq (w.heap.size) #[.int .i64 t, .int .i64 n, .int .i64 s1, .int .i64 s2, .int .i64 s3, .int .i64 s4, .int .i64 l1, .int .i64 l2, .int .i64 h1, .int .i64 h2] 41 := by rw [← hWq]; (repeat' first | (with_reducible assumption) | (with_reducible refine Blk.other ?_ (by first | omega | (simp; omega))))
  have p1 : Blk Wq (w.heap.size + 1) #[.int .i64 o1, .int .i64 o2] 23 := by rw [← hWq]; (repeat' first | (with_reducible assumption) | (with_reducible refine Blk.other ?_ (by first | omega | (simp; omega))))
  have p2 : Blk Wq (w.heap.size + 1 + 1) #[.int .i64 o3, .int .i64 o4] 23 := by rw [← hWq]; (repeat' first | (with_reducible assumption) | (with_reducible refine Blk.other ?_ (by first | omega | (simp; omega))))
  have p3 : Blk Wq (w2.heap.size) #[.int .i64 Z1, .int .i64 Z2, .int .i64 Z3, .int .i64 Z4] 30 := by rw [← hWq]; (repeat' first | (with_reducible assumption) | (with_reducible refine Blk.other ?_ (by first | omega | (simp; omega))))
  have hBn : Below w.heap.size w Wq := by rw [← hWq]; (repeat' first | (with_reducible exact Below.refl _ _) | (with_reducible assumption) | (with_reducible refine belowThru ?_ (by assumption)) | (with_reducible refine belowAlloc ?_) | (with_reducible refine Below.setCell ?_ (by first | omega | (simp; omega)) _) | (with_reducible refine Below.drew ?_))
  rw [hWq]
  clear hWq q0 q1 q2 q3 q4 r4 s4' hHeld hBd
  have k0 := p0; clear p0; obtain ⟨a0, b0⟩ := k0.read; have y0 := k0.lt
  have k1 := p1; clear p1; obtain ⟨a1, b1⟩ := k1.read; have y1 := k1.lt
  have k2 := p2; clear p2; obtain ⟨a2, b2⟩ := k2.read; have y2 := k2.lt
  have k3 := p3; clear p3; obtain ⟨a3, b3⟩ := k3.read; have y3 := k3.lt
  have k4 := q5; clear q5; obtain ⟨a4, b4⟩ := k4.read; have y4 := k4.lt; have hBw := hBn; clear hBn; have hzq := hBw.size
  go_wp2_with fail
  refine (H2.out _ (HR.out.later (by (repeat' first | (with_reducible exact Below.refl _ _) | (with_reducible assumption) | (with_reducible refine belowThru ?_ (by assumption)) | (with_reducible refine belowAlloc ?_))))).mono ?_
  rintro e w3 ⟨rfl, hb⟩
  have kn0 : Blk w3 (w.heap.size) #[.int .i64 t, .int .i64 n, .int .i64 s1, .int .i64 s2, .int .i64 s3, .int .i64 s4, .int .i64 l1, .int .i64 l2, .int .i64 h1, .int .i64 h2] 41 := Blk.later hb (by (repeat' first | (with_reducible assumption) | ((with_reducible refine Blk.new ?_); first | rfl | (simp; done)) | (with_reducible refine Blk.alloc ?_)))
  have kn1 : Blk w3 (w.heap.size + 1) #[.int .i64 o1, .int .i64 o2] 23 := Blk.later hb (by (repeat' first | (with_reducible assumption) | ((with_reducible refine Blk.new ?_); first | rfl | (simp; done)) | (with_reducible refine Blk.alloc ?_)))
  have kn2 : Blk w3 (w.heap.size + 1 + 1) #[.int .i64 o3, .int .i64 o4] 23 := Blk.later hb (by (repeat' first | (with_reducible assumption) | ((with_reducible refine Blk.new ?_); first | rfl | (simp; done)) | (with_reducible refine Blk.alloc ?_)))
  have kn3 : Blk w3 (w2.heap.size) #[.int .i64 Z1, .int .i64 Z2, .int .i64 Z3, .int .i64 Z4] 30 := Blk.later hb (by (repeat' first | (with_reducible assumption) | ((with_reducible refine Blk.new ?_); first | rfl | (simp; done)) | (with_reducible refine Blk.alloc ?_)))
  have kn4 : Blk w3 (B4) #[.int .i64 t, .int .i64 n, .int .i64 s1, .int .i64 s2, .int .i64 s3, .int .i64 s4, .int .i64 o1, .int .i64 o2, .int .i64 o3, .int .i64 o4] 41 := Blk.later hb (by (repeat' first | (with_reducible assumption) | ((with_reducible refine Blk.new ?_); first | rfl | (simp; done)) | (with_reducible refine Blk.alloc ?_)))
  clear k0 a0 b0 y0
  clear k1 a1 b1 y1
  clear k2 a2 b2 y2
  clear k3 a3 b3 y3
  clear k4 a4 b4 y4
  have k0 := kn0; clear kn0; obtain ⟨a0, b0⟩ := k0.read; have y0 := k0.lt
  have k1 := kn1; clear kn1; obtain ⟨a1, b1⟩ := k1.read; have y1 := k1.lt
  have k2 := kn2; clear kn2; obtain ⟨a2, b2⟩ := k2.read; have y2 := k2.lt
  have k3 := kn3; clear kn3; obtain ⟨a3, b3⟩ := k3.read; have y3 := k3.lt
  have k4 := kn4; clear kn4; obtain ⟨a4, b4⟩ := k4.read; have y4 := k4.lt
  replace hBw : Below w.heap.size w w3 := belowThru (by (repeat' first | (with_reducible exact Below.refl _ _) | (with_reducible assumption) | (with_reducible refine belowThru ?_ (by assumption)) | (with_reducible refine belowAlloc ?_))) hb
  have hzw3 := hBw.size
  clear hb
  go_wp2_with fail
  refine (H3.out _ (HR.out.later (by (repeat' first | (with_reducible exact Below.refl _ _) | (with_reducible assumption) | (with_reducible refine belowThru ?_ (by assumption)) | (with_reducible refine belowAlloc ?_))))).mono ?_
  rintro e w4 ⟨rfl, hb⟩
  have kn0 : Blk w4 (w.heap.size) #[.int .i64 t, .int .i64 n, .int .i64 s1, .int .i64 s2, .int .i64 s3, .int .i64 s4, .int .i64 l1, .int .i64 l2, .int .i64 h1, .int .i64 h2] 41 := Blk.later hb (by (repeat' first | (with_reducible assumption) | ((with_reducible refine Blk.new ?_); first | rfl | (simp; done)) | (with_reducible refine Blk.alloc ?_)))
  have kn1 : Blk w4 (w.heap.size + 1) #[.int .i64 o1, .int .i64 o2] 23 := Blk.later hb (by (repeat' first | (with_reducible assumption) | ((with_reducible refine Blk.new ?_); first | rfl | (simp; done)) | (with_reducible refine Blk.alloc ?_)))
  have kn2 : Blk w4 (w.heap.size + 1 + 1) #[.int .i64 o3, .int .i64 o4] 23 := Blk.later hb (by (repeat' first | (with_reducible assumption) | ((with_reducible refine Blk.new ?_); first | rfl | (simp; done)) | (with_reducible refine Blk.alloc ?_)))
  have kn3 : Blk w4 (w2.heap.size) #[.int .i64 Z1, .int .i64 Z2, .int .i64 Z3, .int .i64 Z4] 30 := Blk.later hb (by (repeat' first | (with_reducible assumption) | ((with_reducible refine Blk.new ?_); first | rfl | (simp; done)) | (with_reducible refine Blk.alloc ?_)))
  have kn4 : Blk w4 (B4) #[.int .i64 t, .int .i64 n, .int .i64 s1, .int .i64 s2, .int .i64 s3, .int .i64 s4, .int .i64 o1, .int .i64 o2, .int .i64 o3, .int .i64 o4] 41 := Blk.later hb (by (repeat' first | (with_reducible assumption) | ((with_reducible refine Blk.new ?_); first | rfl | (simp; done)) | (with_reducible refine Blk.alloc ?_)))
  have kn5 : Blk w4 (w3.heap.size) #[.int .i64 Y1, .int .i64 Y2, .int .i64 Y3, .int .i64 Y4] 30 := Blk.later hb (by (repeat' first | (with_reducible assumption) | ((with_reducible refine Blk.new ?_); first | rfl | (simp; done)) | (with_reducible refine Blk.alloc ?_)))
  have kn6 : Blk w4 (w3.heap.size + 1) #[.int .i64 t, .int .i64 nz, .int .i64 s1, .int .i64 s2, .int .i64 s3, .int .i64 s4, .int .i64 l1, .int .i64 l2, .int .i64 h1, .int .i64 h2] 41 := Blk.later hb (by (repeat' first | (with_reducible assumption) | ((with_reducible refine Blk.new ?_); first | rfl | (simp; done)) | (with_reducible refine Blk.alloc ?_)))
  clear k0 a0 b0 y0
  clear k1 a1 b1 y1
  clear k2 a2 b2 y2
  clear k3 a3 b3 y3
  clear k4 a4 b4 y4
  have k0 := kn0; clear kn0; obtain ⟨a0, b0⟩ := k0.read; have y0 := k0.lt
  have k1 := kn1; clear kn1; obtain ⟨a1, b1⟩ := k1.read; have y1 := k1.lt
  have k2 := kn2; clear kn2; obtain ⟨a2, b2⟩ := k2.read; have y2 := k2.lt
  have k3 := kn3; clear kn3; obtain ⟨a3, b3⟩ := k3.read; have y3 := k3.lt
  have k4 := kn4; clear kn4; obtain ⟨a4, b4⟩ := k4.read; have y4 := k4.lt
  have k5 := kn5; clear kn5; obtain ⟨a5, b5⟩ := k5.read; have y5 := k5.lt
  have k6 := kn6; clear kn6; obtain ⟨a6, b6⟩ := k6.read; have y6 := k6.lt
  replace hBw : Below w.heap.size w w4 := belowThru (by (repeat' first | (with_reducible exact Below.refl _ _) | (with_reducible assumption) | (with_reducible refine belowThru ?_ (by assumption)) | (with_reducible refine belowAlloc ?_))) hb
  have hzw4 := hBw.size
  clear hb
  go_wp2_with fail
  refine (HI.out _).mono ?_
  rintro e w5 ⟨rfl, hb⟩
  have kn0 : Blk w5 (w.heap.size) #[.int .i64 t, .int .i64 n, .int .i64 s1, .int .i64 s2, .int .i64 s3, .int .i64 s4, .int .i64 l1, .int .i64 l2, .int .i64 h1, .int .i64 h2] 41 := Blk.later hb (by (repeat' first | (with_reducible assumption) | ((with_reducible refine Blk.new ?_); first | rfl | (simp; done)) | (with_reducible refine Blk.alloc ?_)))
  have kn1 : Blk w5 (w.heap.size + 1) #[.int .i64 o1, .int .i64 o2] 23 := Blk.later hb (by (repeat' first | (with_reducible assumption) | ((with_reducible refine Blk.new ?_); first | rfl | (simp; done)) | (with_reducible refine Blk.alloc ?_)))
  have kn2 : Blk w5 (w.heap.size + 1 + 1) #[.int .i64 o3, .int .i64 o4] 23 := Blk.later hb (by (repeat' first | (with_reducible assumption) | ((with_reducible refine Blk.new ?_); first | rfl | (simp; done)) | (with_reducible refine Blk.alloc ?_)))
  have kn3 : Blk w5 (w2.heap.size) #[.int .i64 Z1, .int .i64 Z2, .int .i64 Z3, .int .i64 Z4] 30 := Blk.later hb (by (repeat' first | (with_reducible assumption) | ((with_reducible refine Blk.new ?_); first | rfl | (simp; done)) | (with_reducible refine Blk.alloc ?_)))
  have kn4 : Blk w5 (B4) #[.int .i64 t, .int .i64 n, .int .i64 s1, .int .i64 s2, .int .i64 s3, .int .i64 s4, .int .i64 o1, .int .i64 o2, .int .i64 o3, .int .i64 o4] 41 := Blk.later hb (by (repeat' first | (with_reducible assumption) | ((with_reducible refine Blk.new ?_); first | rfl | (simp; done)) | (with_reducible refine Blk.alloc ?_)))
  have kn5 : Blk w5 (w3.heap.size) #[.int .i64 Y1, .int .i64 Y2, .int .i64 Y3, .int .i64 Y4] 30 := Blk.later hb (by (repeat' first | (with_reducible assumption) | ((with_reducible refine Blk.new ?_); first | rfl | (simp; done)) | (with_reducible refine Blk.alloc ?_)))
  have kn6 : Blk w5 (w3.heap.size + 1) #[.int .i64 t, .int .i64 nz, .int .i64 s1, .int .i64 s2, .int .i64 s3, .int .i64 s4, .int .i64 l1, .int .i64 l2, .int .i64 h1, .int .i64 h2] 41 := Blk.later hb (by (repeat' first | (with_reducible assumption) | ((with_reducible refine Blk.new ?_); first | rfl | (simp; done)) | (with_reducible refine Blk.alloc ?_)))
  have kn7 : Blk w5 (w4.heap.size) #[.int .i64 X1, .int .i64 X2, .int .i64 X3, .int .i64 X4] 30 := Blk.later hb (by (repeat' first | (with_reducible assumption) | ((with_reducible refine Blk.new ?_); first | rfl | (simp; done)) | (with_reducible refine Blk.alloc ?_)))
  clear k0 a0 b0 y0
  clear k1 a1 b1 y1
  clear k2 a2 b2 y2
  clear k3 a3 b3 y3
  clear k4 a4 b4 y4
  clear k5 a5 b5 y5
  clear k6 a6 b6 y6
  have k0 := kn0; clear kn0; obtain ⟨a0, b0⟩ := k0.read; have y0 := k0.lt
  have k1 := kn1; clear kn1; obtain ⟨a1, b1⟩ := k1.read; have y1 := k1.lt
  have k2 := kn2; clear kn2; obtain ⟨a2, b2⟩ := k2.read; have y2 := k2.lt
  have k3 := kn3; clear kn3; obtain ⟨a3, b3⟩ := k3.read; have y3 := k3.lt
  have k4 := kn4; clear kn4; obtain ⟨a4, b4⟩ := k4.read; have y4 := k4.lt
  have k5 := kn5; clear kn5; obtain ⟨a5, b5⟩ := k5.read; have y5 := k5.lt
  have k6 := kn6; clear kn6; obtain ⟨a6, b6⟩ := k6.read; have y6 := k6.lt
  have k7 := kn7; clear kn7; obtain ⟨a7, b7⟩ := k7.read; have y7 := k7.lt
  replace hBw : Below w.heap.size w w5 := belowThru (by (repeat' first | (with_reducible exact Below.refl _ _) | (with_reducible assumption) | (with_reducible refine belowThru ?_ (by assumption)) | (with_reducible refine belowAlloc ?_))) hb
  have hzw5 := hBw.size
  clear hb
  go_wp2_with fail
  go_ret
  exact ⟨rfl, by (repeat' first | (with_reducible exact Below.refl _ _) | (with_reducible assumption) | (with_reducible refine belowThru ?_ (by assumption)) | (with_reducible refine belowAlloc ?_))⟩
set_option maxRecDepth 100000 in
set_option maxHeartbeats 16000000 in
theorem tol_2b (t n s1 s2 s3 s4 l1 l2 h1 h2 o1 o2 o3 o4 nz : Int) (a : Option Addr) (m c : Nat) (zs : List Int) (w : World) (hR : Row w a m (iv zs)) (hl : m ≤ 64) (Z1 Z2 Z3 Z4 V Y1 Y2 Y3 Y4 U X1 X2 X3 X4 C E2 E3 : Int) (hnz : ¬ nz < n) (hC : (C == 1) = false)  (H1 : Hid (∀ w, Row w a m (iv zs) → Calls Try.prog 27 #[.agg #[.int .i64 t, .int .i64 n, .int .i64 s1, .int .i64 s2, .int .i64 s3, .int .i64 s4, .int .i64 l1, .int .i64 l2, .int .i64 h1, .int .i64 h2], .slice a m c] w fun e w' => e = .returned (.tuple #[.agg #[.int .i64 Z1, .int .i64 Z2, .int .i64 Z3, .int .i64 Z4], .int .u8 2, .int .i64 0]) ∧ Below w.heap.size w w')) (H2 : Hid (∀ w, Row w a m (iv zs) → Calls Try.prog 27 #[.agg #[.int .i64 t, .int .i64 n, .int .i64 s1, .int .i64 s2, .int .i64 s3, .int .i64 s4, .int .i64 o1, .int .i64 o2, .int .i64 o3, .int .i64 o4], .slice a m c] w fun e w' => e = .returned (.tuple #[.agg #[.int .i64 Y1, .int .i64 Y2, .int .i64 Y3, .int .i64 Y4], .int .u8 2, .int .i64 0]) ∧ Below w.heap.size w w')) (H3 : Hid (∀ w, Row w a m (iv zs) → Calls Try.prog 27 #[.agg #[.int .i64 t, .int .i64 nz, .int .i64 s1, .int .i64 s2, .int .i64 s3, .int .i64 s4, .int .i64 l1, .int .i64 l2, .int .i64 h1, .int .i64 h2], .slice a m c] w fun e w' => e = .returned (.tuple #[.agg #[.int .i64 X1, .int .i64 X2, .int .i64 X3, .int .i64 X4], .int .u8 C, .int .i64 0]) ∧ Below w.heap.size w w')) (HI : Hid (∀ w, Calls Try.prog 55 #[.agg #[.int .i64 l1, .int .i64 l2, .int .i64 h1, .int .i64 h2], .agg #[.int .i64 o1, .int .i64 o2, .int .i64 o3, .int .i64 o4]] w fun e w' => e = .returned (.bool true) ∧ Below w.heap.size w w')) :
    Calls Try.prog 14 #[.agg #[.int .i64 t, .int .i64 n, .int .i64 s1, .int .i64 s2, .int .i64 s3, .int .i64 s4, .int .i64 l1, .int .i64 l2, .int .i64 h1, .int .i64 h2], .slice a m c, .agg #[.int .i64 o1, .int .i64 o2], .agg #[.int .i64 o3, .int .i64 o4], .int .i64 nz] w fun e w' => e = .returned (.bool true) ∧ Below w.heap.size w w' := by
  have hd : decide (64 < (m : Int)) = false := by simp; omega
  have hmx : Try.prog.follows .mixedOrders = true := by kernel_rfl
  have HR := Lib.hid hR
  clear hR
  go_enter Try.func14, Try.ntmps14
  go_wp2_with fail
  refine (alive_true _).mono ?_
  rintro e w1 ⟨rfl, hb⟩
  have kn0 : Blk w1 (w.heap.size) #[.int .i64 t, .int .i64 n, .int .i64 s1, .int .i64 s2, .int .i64 s3, .int .i64 s4, .int .i64 l1, .int .i64 l2, .int .i64 h1, .int .i64 h2] 41 := Blk.later hb (by (repeat' first | (with_reducible assumption) | ((with_reducible refine Blk.new ?_); first | rfl | (simp; done)) | (with_reducible refine Blk.alloc ?_)))
  have kn1 : Blk w1 (w.heap.size + 1) #[.int .i64 o1, .int .i64 o2] 23 := Blk.later hb (by (repeat' first | (with_reducible assumption) | ((with_reducible refine Blk.new ?_); first | rfl | (simp; done)) | (with_reducible refine Blk.alloc ?_)))
  have kn2 : Blk w1 (w.heap.size + 1 + 1) #[.int .i64 o3, .int .i64 o4] 23 := Blk.later hb (by (repeat' first | (with_reducible assumption) | ((with_reducible refine Blk.new ?_); first | rfl | (simp; done)) | (with_reducible refine Blk.alloc ?_)))
  have k0 := kn0; clear kn0; obtain ⟨a0, b0⟩ := k0.read; have y0 := k0.lt
  have k1 := kn1; clear kn1; obtain ⟨a1, b1⟩ := k1.read; have y1 := k1.lt
  have k2 := kn2; clear kn2; obtain ⟨a2, b2⟩ := k2.read; have y2 := k2.lt
  have hBw : Below w.heap.size w w1 := by (repeat' first | (with_reducible exact Below.refl _ _) | (with_reducible assumption) | (with_reducible refine belowThru ?_ (by assumption)) | (with_reducible refine belowAlloc ?_))
  have hzw1 := hBw.size
  clear hb
  go_wp2_with fail
  refine (H1.out _ (HR.out.later (by (repeat' first | (with_reducible exact Below.refl _ _) | (with_reducible assumption) | (with_reducible refine belowThru ?_ (by assumption)) | (with_reducible refine belowAlloc ?_))))).mono ?_
  rintro e w2 ⟨rfl, hb⟩
  have kn0 : Blk w2 (w.heap.size) #[.int .i64 t, .int .i64 n, .int .i64 s1, .int .i64 s2, .int .i64 s3, .int .i64 s4, .int .i64 l1, .int .i64 l2, .int .i64 h1, .int .i64 h2] 41 := Blk.later hb (by (repeat' first | (with_reducible assumption) | ((with_reducible refine Blk.new ?_); first | rfl | (simp; done)) | (with_reducible refine Blk.alloc ?_)))
  have kn1 : Blk w2 (w.heap.size + 1) #[.int .i64 o1, .int .i64 o2] 23 := Blk.later hb (by (repeat' first | (with_reducible assumption) | ((with_reducible refine Blk.new ?_); first | rfl | (simp; done)) | (with_reducible refine Blk.alloc ?_)))
  have kn2 : Blk w2 (w.heap.size + 1 + 1) #[.int .i64 o3, .int .i64 o4] 23 := Blk.later hb (by (repeat' first | (with_reducible assumption) | ((with_reducible refine Blk.new ?_); first | rfl | (simp; done)) | (with_reducible refine Blk.alloc ?_)))
  clear k0 a0 b0 y0
  clear k1 a1 b1 y1
  clear k2 a2 b2 y2
  have k0 := kn0; clear kn0; obtain ⟨a0, b0⟩ := k0.read; have y0 := k0.lt
  have k1 := kn1; clear kn1; obtain ⟨a1, b1⟩ := k1.read; have y1 := k1.lt
  have k2 := kn2; clear kn2; obtain ⟨a2, b2⟩ := k2.read; have y2 := k2.lt
  replace hBw : Below w.heap.size w w2 := belowThru (by (repeat' first | (with_reducible exact Below.refl _ _) | (with_reducible assumption) | (with_reducible refine belowThru ?_ (by assumption)) | (with_reducible refine belowAlloc ?_))) hb
  have hzw2 := hBw.size
  clear hb
  go_wp2_with fail
  have hB4w : w.heap.size + 1 + 1 < w2.heap.size + 1 := by omega
  have hB43 : w2.heap.size < w2.heap.size + 1 := by omega
  obtain ⟨Wp, hWp⟩ : ∃ Wp, ((w2.alloc (.cells #[.int .i64 Z1, .int .i64 Z2, .int .i64 Z3, .int .i64 Z4] 30)).alloc (.cells #[.int .i64 t, .int .i64 n, .int .i64 s1, .int .i64 s2, .int .i64 s3, .int .i64 s4, .int .i64 l1, .int .i64 l2, .int .i64 h1, .int .i64 h2] 41)) = Wp := ⟨_, rfl⟩
  have kn0 : Blk Wp (w.heap.size) #[.int .i64 t, .int .i64 n, .int .i64 s1, .int .i64 s2, .int .i64 s3, .int .i64 s4, .int .i64 l1, .int .i64 l2, .int .i64 h1, .int .i64 h2] 41 := by rw [← hWp]; (repeat' first | (with_reducible assumption) | ((with_reducible refine Blk.new ?_); first | rfl | (simp; done)) | (with_reducible refine Blk.alloc ?_))
  have kn1 : Blk Wp (w.heap.size + 1) #[.int .i64 o1, .int .i64 o2] 23 := by rw [← hWp]; (repeat' first | (with_reducible assumption) | ((with_reducible refine Blk.new ?_); first | rfl | (simp; done)) | (with_reducible refine Blk.alloc ?_))
  have kn2 : Blk Wp (w.heap.size + 1 + 1) #[.int .i64 o3, .int .i64 o4] 23 := by rw [← hWp]; (repeat' first | (with_reducible assumption) | ((with_reducible refine Blk.new ?_); first | rfl | (simp; done)) | (with_reducible refine Blk.alloc ?_))
  have kn3 : Blk Wp (w2.heap.size) #[.int .i64 Z1, .int .i64 Z2, .int .i64 Z3, .int .i64 Z4] 30 := by rw [← hWp]; (repeat' first | (with_reducible assumption) | ((with_reducible refine Blk.new ?_); first | rfl | (simp; done)) | (with_reducible refine Blk.alloc ?_))
  have kn4 : Blk Wp (w2.heap.size + 1) #[.int .i64 t, .int .i64 n, .int .i64 s1, .int .i64 s2, .int .i64 s3, .int .i64 s4, .int .i64 l1, .int .i64 l2, .int .i64 h1, .int .i64 h2] 41 := by rw [← hWp]; (repeat' first | (with_reducible assumption) | ((with_reducible refine Blk.new ?_); first | rfl | (simp; done)) | (with_reducible refine Blk.alloc ?_))
  replace hBw : Below w.heap.size w Wp := by rw [← hWp]; (repeat' first | (with_reducible exact Below.refl _ _) | (with_reducible assumption) | (with_reducible refine belowThru ?_ (by assumption)) | (with_reducible refine belowAlloc ?_))
  clear k0 a0 b0 y0
  clear k1 a1 b1 y1
  clear k2 a2 b2 y2
  rw [hWp]
  clear hWp
  have k0 := kn0; clear kn0; have y0 := k0.lt
  have k1 := kn1; clear kn1; have y1 := k1.lt
  have k2 := kn2; clear kn2; have y2 := k2.lt
  have k3 := kn3; clear kn3; have y3 := k3.lt
  have k4 := kn4; clear kn4; have y4 := k4.lt
  obtain ⟨B4, hB4⟩ : ∃ z, w2.heap.size + 1 = z := ⟨_, rfl⟩
  rw [hB4] at k4 y4 hB4w hB43 ⊢
  clear hB4
  refine wp_region_held_drew (S := fun w' => (Blk w' (w.heap.size + 1) #[.int .i64 o1, .int .i64 o2] 23 ∧ (∀ i : Nat, w'.cell? ⟨w.heap.size + 1, i, none⟩ = (#[.int .i64 o1, .int .i64 o2] : Array Value)[i]?)) ∧ (Blk w' (w.heap.size + 1 + 1) #[.int .i64 o3, .int .i64 o4] 23 ∧ (∀ i : Nat, w'.cell? ⟨w.heap.size + 1 + 1, i, none⟩ = (#[.int .i64 o3, .int .i64 o4] : Array Value)[i]?)) ∧ Below w.heap.size w w') hmx ⟨k1.drew.full, k2.drew.full, hBw.drew⟩ (fun hHeld => ?_)
  obtain ⟨Wd, hWd⟩ : ∃ Wd, Wp.drew = Wd := ⟨_, rfl⟩
  have q0 : Blk Wd (w.heap.size) #[.int .i64 t, .int .i64 n, .int .i64 s1, .int .i64 s2, .int .i64 s3, .int .i64 s4, .int .i64 l1, .int .i64 l2, .int .i64 h1, .int .i64 h2] 41 := by rw [← hWd]; exact k0.drew
  have q1 : Blk Wd (w.heap.size + 1) #[.int .i64 o1, .int .i64 o2] 23 := by rw [← hWd]; exact k1.drew
  have q2 : Blk Wd (w.heap.size + 1 + 1) #[.int .i64 o3, .int .i64 o4] 23 := by rw [← hWd]; exact k2.drew
  have q3 : Blk Wd (w2.heap.size) #[.int .i64 Z1, .int .i64 Z2, .int .i64 Z3, .int .i64 Z4] 30 := by rw [← hWd]; exact k3.drew
  have q4 : Blk Wd (B4) #[.int .i64 t, .int .i64 n, .int .i64 s1, .int .i64 s2, .int .i64 s3, .int .i64 s4, .int .i64 l1, .int .i64 l2, .int .i64 h1, .int .i64 h2] 41 := by rw [← hWd]; exact k4.drew
  have hBd : Below w.heap.size w Wd := by rw [← hWd]; exact hBw.drew
  rw [hWd] at hHeld ⊢
  clear hWd k0 k1 k2 k3 k4 y0 y1 y2 y3 y4 hBw
  refine wpAnyH_take (i := 0) (v := ?_) rfl (by kernel_rfl) (by kernel_rfl) (by kernel_rfl) (fun _ _ _ h => h) (Or.inl ⟨by rfl, ?hT12⟩) (by assumption) ?_
  case hT12 => ((intro w hSw; (try dsimp only at hSw); go_simp); try (with_reducible rfl))
  try simp only [Act.put, List.setIfInBounds_toArray, List.set_cons_zero, List.set_cons_succ]
  refine wpAnyH_take (i := 1) (v := ?_) rfl (by kernel_rfl) (by kernel_rfl) (by kernel_rfl) (fun _ _ _ h => h) (Or.inl ⟨by rfl, ?hT13⟩) (by assumption) ?_
  case hT13 => ((intro w hSw; (try dsimp only at hSw); go_simp); try (with_reducible rfl))
  try simp only [Act.put, List.setIfInBounds_toArray, List.set_cons_zero, List.set_cons_succ]
  refine wpAnyH_ready (rs := [2]) (by kernel_rfl) (by simp) ?_
  refine AllReadyH.cons rfl (fun K hK => ?_) AllReadyH.nil
  go_simp
  refine hK.out _ _ ?_ (fun hHeldN => ?_)
  · (try dsimp only); ((first | (apply hold2; (focus assumption); intro p0 p1 pB) | skip); refine ⟨Blk.full ?_, Blk.full ?_, ?_⟩; all_goals (first | ((repeat' first | (with_reducible assumption) | (with_reducible refine Blk.other ?_ (by first | omega | (simp; omega)))); done) | ((repeat' first | (with_reducible exact Below.refl _ _) | (with_reducible assumption) | (with_reducible refine belowThru ?_ (by assumption)) | (with_reducible refine belowAlloc ?_) | (with_reducible refine Below.setCell ?_ (by first | omega | (simp; omega)) _) | (with_reducible refine Below.drew ?_)); done)))
  clear hK K hHeld
  have hHeld := hHeldN
  clear hHeldN
  try simp only [Act.put, List.setIfInBounds_toArray, List.set_cons_zero, List.set_cons_succ]
  obtain ⟨r4, s4'⟩ := q4.read
  refine wpAnyH_ready (rs := [3]) (by kernel_rfl) (by simp) ?_
  refine AllReadyH.cons rfl (fun K hK => ?_) AllReadyH.nil
  go_simp
  refine hK.out _ _ ?_ (fun hHeldN => ?_)
  · (try dsimp only); ((first | (apply hold2; (focus assumption); intro p0 p1 pB) | skip); refine ⟨Blk.full ?_, Blk.full ?_, ?_⟩; all_goals (first | ((repeat' first | (with_reducible assumption) | (with_reducible refine Blk.other ?_ (by first | omega | (simp; omega)))); done) | ((repeat' first | (with_reducible exact Below.refl _ _) | (with_reducible assumption) | (with_reducible refine belowThru ?_ (by assumption)) | (with_reducible refine belowAlloc ?_) | (with_reducible refine Below.setCell ?_ (by first | omega | (simp; omega)) _) | (with_reducible refine Below.drew ?_)); done)))
  clear hK K hHeld
  have hHeld := hHeldN
  clear hHeldN
  try simp only [Act.put, List.setIfInBounds_toArray, List.set_cons_zero, List.set_cons_succ]
  refine wpAnyH_ready (rs := [4]) (by kernel_rfl) (by simp) ?_
  refine AllReadyH.cons rfl (fun K hK => ?_) AllReadyH.nil
  go_simp
  refine hK.out _ _ ?_ (fun hHeldN => ?_)
  · (try dsimp only); ((first | (apply hold2; (focus assumption); intro p0 p1 pB) | skip); refine ⟨Blk.full ?_, Blk.full ?_, ?_⟩; all_goals (first | ((repeat' first | (with_reducible assumption) | (with_reducible refine Blk.other ?_ (by first | omega | (simp; omega)))); done) | ((repeat' first | (with_reducible exact Below.refl _ _) | (with_reducible assumption) | (with_reducible refine belowThru ?_ (by assumption)) | (with_reducible refine belowAlloc ?_) | (with_reducible refine Below.setCell ?_ (by first | omega | (simp; omega)) _) | (with_reducible refine Below.drew ?_)); done)))
  clear hK K hHeld
  have hHeld := hHeldN
  clear hHeldN
  try simp only [Act.put, List.setIfInBounds_toArray, List.set_cons_zero, List.set_cons_succ]
  refine wpAnyH_ready (rs := [5]) (by kernel_rfl) (by simp) ?_
  refine AllReadyH.cons rfl (fun K hK => ?_) AllReadyH.nil
  go_simp
  refine hK.out _ _ ?_ (fun hHeldN => ?_)
  · (try dsimp only); ((first | (apply hold2; (focus assumption); intro p0 p1 pB) | skip); refine ⟨Blk.full ?_, Blk.full ?_, ?_⟩; all_goals (first | ((repeat' first | (with_reducible assumption) | (with_reducible refine Blk.other ?_ (by first | omega | (simp; omega)))); done) | ((repeat' first | (with_reducible exact Below.refl _ _) | (with_reducible assumption) | (with_reducible refine belowThru ?_ (by assumption)) | (with_reducible refine belowAlloc ?_) | (with_reducible refine Below.setCell ?_ (by first | omega | (simp; omega)) _) | (with_reducible refine Below.drew ?_)); done)))
  clear hK K hHeld
  have hHeld := hHeldN
  clear hHeldN
  try simp only [Act.put, List.setIfInBounds_toArray, List.set_cons_zero, List.set_cons_succ]
  refine wpAnyH_done (by kernel_rfl) ?_ _
  obtain ⟨Wq, hWq⟩ : ∃ Wq, ((((Wd.setCell ⟨B4, 6, none⟩ (.int .i64 o1)).setCell ⟨B4, 7, none⟩ (.int .i64 o2)).setCell ⟨B4, 8, none⟩ (.int .i64 o3)).setCell ⟨B4, 9, none⟩ (.int .i64 o4)) = Wq := ⟨_, rfl⟩
  have q5 : Blk Wq B4 #[.int .i64 t, .int .i64 n, .int .i64 s1, .int .i64 s2, .int .i64 s3, .int .i64 s4, .int .i64 o1, .int .i64 o2, .int .i64 o3, .int .i64 o4] 41 := by rw [← hWq]; exact Blk.set (Blk.set (Blk.set (Blk.set q4)))
  have p0 : Blk Wq (w.heap.size) #[.int .i64 t, .int .i64 n, .int .i64 s1, .int .i64 s2, .int .i64 s3, .int .i64 s4, .int .i64 l1, .int .i64 l2, .int .i64 h1, .int .i64 h2] 41 := by rw [← hWq]; (repeat' first | (with_reducible assumption) | (with_reducible refine Blk.other ?_ (by first | omega | (simp; omega))))
  have p1 : Blk Wq (w.heap.size + 1) #[.int .i64 o1, .int .i64 o2] 23 := by rw [← hWq]; (repeat' first | (with_reducible assumption) | (with_reducible refine Blk.other ?_ (by first | omega | (simp; omega))))
  have p2 : Blk Wq (w.heap.size + 1 + 1) #[.int .i64 o3, .int .i64 o4] 23 := by rw [← hWq]; (repeat' first | (with_reducible assumption) | (with_reducible refine Blk.other ?_ (by first | omega | (simp; omega))))
  have p3 : Blk Wq (w2.heap.size) #[.int .i64 Z1, .int .i64 Z2, .int .i64 Z3, .int .i64 Z4] 30 := by rw [← hWq]; (repeat' first | (with_reducible assumption) | (with_reducible refine Blk.other ?_ (by first | omega | (simp; omega))))
  have hBn : Below w.heap.size w Wq := by rw [← hWq]; (repeat' first | (with_reducible exact Below.refl _ _) | (with_reducible assumption) | (with_reducible refine belowThru ?_ (by assumption)) | (with_reducible refine belowAlloc ?_) | (with_reducible refine Below.setCell ?_ (by first | omega | (simp; omega)) _) | (with_reducible refine Below.drew ?_))
  rw [hWq]
  clear hWq q0 q1 q2 q3 q4 r4 s4' hHeld hBd
  have k0 := p0; clear p0; obtain ⟨a0, b0⟩ := k0.read; have y0 := k0.lt
  have k1 := p1; clear p1; obtain ⟨a1, b1⟩ := k1.read; have y1 := k1.lt
  have k2 := p2; clear p2; obtain ⟨a2, b2⟩ := k2.read; have y2 := k2.lt
  have k3 := p3; clear p3; obtain ⟨a3, b3⟩ := k3.read; have y3 := k3.lt
  have k4 := q5; clear q5; obtain ⟨a4, b4⟩ := k4.read; have y4 := k4.lt; have hBw := hBn; clear hBn; have hzq := hBw.size
  go_wp2_with fail
  refine (H2.out _ (HR.out.later (by (repeat' first | (with_reducible exact Below.refl _ _) | (with_reducible assumption) | (with_reducible refine belowThru ?_ (by assumption)) | (with_reducible refine belowAlloc ?_))))).mono ?_
  rintro e w3 ⟨rfl, hb⟩
  have kn0 : Blk w3 (w.heap.size) #[.int .i64 t, .int .i64 n, .int .i64 s1, .int .i64 s2, .int .i64 s3, .int .i64 s4, .int .i64 l1, .int .i64 l2, .int .i64 h1, .int .i64 h2] 41 := Blk.later hb (by (repeat' first | (with_reducible assumption) | ((with_reducible refine Blk.new ?_); first | rfl | (simp; done)) | (with_reducible refine Blk.alloc ?_)))
  have kn1 : Blk w3 (w.heap.size + 1) #[.int .i64 o1, .int .i64 o2] 23 := Blk.later hb (by (repeat' first | (with_reducible assumption) | ((with_reducible refine Blk.new ?_); first | rfl | (simp; done)) | (with_reducible refine Blk.alloc ?_)))
  have kn2 : Blk w3 (w.heap.size + 1 + 1) #[.int .i64 o3, .int .i64 o4] 23 := Blk.later hb (by (repeat' first | (with_reducible assumption) | ((with_reducible refine Blk.new ?_); first | rfl | (simp; done)) | (with_reducible refine Blk.alloc ?_)))
  have kn3 : Blk w3 (w2.heap.size) #[.int .i64 Z1, .int .i64 Z2, .int .i64 Z3, .int .i64 Z4] 30 := Blk.later hb (by (repeat' first | (with_reducible assumption) | ((with_reducible refine Blk.new ?_); first | rfl | (simp; done)) | (with_reducible refine Blk.alloc ?_)))
  have kn4 : Blk w3 (B4) #[.int .i64 t, .int .i64 n, .int .i64 s1, .int .i64 s2, .int .i64 s3, .int .i64 s4, .int .i64 o1, .int .i64 o2, .int .i64 o3, .int .i64 o4] 41 := Blk.later hb (by (repeat' first | (with_reducible assumption) | ((with_reducible refine Blk.new ?_); first | rfl | (simp; done)) | (with_reducible refine Blk.alloc ?_)))
  clear k0 a0 b0 y0
  clear k1 a1 b1 y1
  clear k2 a2 b2 y2
  clear k3 a3 b3 y3
  clear k4 a4 b4 y4
  have k0 := kn0; clear kn0; obtain ⟨a0, b0⟩ := k0.read; have y0 := k0.lt
  have k1 := kn1; clear kn1; obtain ⟨a1, b1⟩ := k1.read; have y1 := k1.lt
  have k2 := kn2; clear kn2; obtain ⟨a2, b2⟩ := k2.read; have y2 := k2.lt
  have k3 := kn3; clear kn3; obtain ⟨a3, b3⟩ := k3.read; have y3 := k3.lt
  have k4 := kn4; clear kn4; obtain ⟨a4, b4⟩ := k4.read; have y4 := k4.lt
  replace hBw : Below w.heap.size w w3 := belowThru (by (repeat' first | (with_reducible exact Below.refl _ _) | (with_reducible assumption) | (with_reducible refine belowThru ?_ (by assumption)) | (with_reducible refine belowAlloc ?_))) hb
  have hzw3 := hBw.size
  clear hb
  go_wp2_with fail
  refine (H3.out _ (HR.out.later (by (repeat' first | (with_reducible exact Below.refl _ _) | (with_reducible assumption) | (with_reducible refine belowThru ?_ (by assumption)) | (with_reducible refine belowAlloc ?_))))).mono ?_
  rintro e w4 ⟨rfl, hb⟩
  have kn0 : Blk w4 (w.heap.size) #[.int .i64 t, .int .i64 n, .int .i64 s1, .int .i64 s2, .int .i64 s3, .int .i64 s4, .int .i64 l1, .int .i64 l2, .int .i64 h1, .int .i64 h2] 41 := Blk.later hb (by (repeat' first | (with_reducible assumption) | ((with_reducible refine Blk.new ?_); first | rfl | (simp; done)) | (with_reducible refine Blk.alloc ?_)))
  have kn1 : Blk w4 (w.heap.size + 1) #[.int .i64 o1, .int .i64 o2] 23 := Blk.later hb (by (repeat' first | (with_reducible assumption) | ((with_reducible refine Blk.new ?_); first | rfl | (simp; done)) | (with_reducible refine Blk.alloc ?_)))
  have kn2 : Blk w4 (w.heap.size + 1 + 1) #[.int .i64 o3, .int .i64 o4] 23 := Blk.later hb (by (repeat' first | (with_reducible assumption) | ((with_reducible refine Blk.new ?_); first | rfl | (simp; done)) | (with_reducible refine Blk.alloc ?_)))
  have kn3 : Blk w4 (w2.heap.size) #[.int .i64 Z1, .int .i64 Z2, .int .i64 Z3, .int .i64 Z4] 30 := Blk.later hb (by (repeat' first | (with_reducible assumption) | ((with_reducible refine Blk.new ?_); first | rfl | (simp; done)) | (with_reducible refine Blk.alloc ?_)))
  have kn4 : Blk w4 (B4) #[.int .i64 t, .int .i64 n, .int .i64 s1, .int .i64 s2, .int .i64 s3, .int .i64 s4, .int .i64 o1, .int .i64 o2, .int .i64 o3, .int .i64 o4] 41 := Blk.later hb (by (repeat' first | (with_reducible assumption) | ((with_reducible refine Blk.new ?_); first | rfl | (simp; done)) | (with_reducible refine Blk.alloc ?_)))
  have kn5 : Blk w4 (w3.heap.size) #[.int .i64 Y1, .int .i64 Y2, .int .i64 Y3, .int .i64 Y4] 30 := Blk.later hb (by (repeat' first | (with_reducible assumption) | ((with_reducible refine Blk.new ?_); first | rfl | (simp; done)) | (with_reducible refine Blk.alloc ?_)))
  have kn6 : Blk w4 (w3.heap.size + 1) #[.int .i64 t, .int .i64 nz, .int .i64 s1, .int .i64 s2, .int .i64 s3, .int .i64 s4, .int .i64 l1, .int .i64 l2, .int .i64 h1, .int .i64 h2] 41 := Blk.later hb (by (repeat' first | (with_reducible assumption) | ((with_reducible refine Blk.new ?_); first | rfl | (simp; done)) | (with_reducible refine Blk.alloc ?_)))
  clear k0 a0 b0 y0
  clear k1 a1 b1 y1
  clear k2 a2 b2 y2
  clear k3 a3 b3 y3
  clear k4 a4 b4 y4
  have k0 := kn0; clear kn0; obtain ⟨a0, b0⟩ := k0.read; have y0 := k0.lt
  have k1 := kn1; clear kn1; obtain ⟨a1, b1⟩ := k1.read; have y1 := k1.lt
  have k2 := kn2; clear kn2; obtain ⟨a2, b2⟩ := k2.read; have y2 := k2.lt
  have k3 := kn3; clear kn3; obtain ⟨a3, b3⟩ := k3.read; have y3 := k3.lt
  have k4 := kn4; clear kn4; obtain ⟨a4, b4⟩ := k4.read; have y4 := k4.lt
  have k5 := kn5; clear kn5; obtain ⟨a5, b5⟩ := k5.read; have y5 := k5.lt
  have k6 := kn6; clear kn6; obtain ⟨a6, b6⟩ := k6.read; have y6 := k6.lt
  replace hBw : Below w.heap.size w w4 := belowThru (by (repeat' first | (with_reducible exact Below.refl _ _) | (with_reducible assumption) | (with_reducible refine belowThru ?_ (by assumption)) | (with_reducible refine belowAlloc ?_))) hb
  have hzw4 := hBw.size
  clear hb
  go_wp2_with fail
  refine (HI.out _).mono ?_
  rintro e w5 ⟨rfl, hb⟩
  have kn0 : Blk w5 (w.heap.size) #[.int .i64 t, .int .i64 n, .int .i64 s1, .int .i64 s2, .int .i64 s3, .int .i64 s4, .int .i64 l1, .int .i64 l2, .int .i64 h1, .int .i64 h2] 41 := Blk.later hb (by (repeat' first | (with_reducible assumption) | ((with_reducible refine Blk.new ?_); first | rfl | (simp; done)) | (with_reducible refine Blk.alloc ?_)))
  have kn1 : Blk w5 (w.heap.size + 1) #[.int .i64 o1, .int .i64 o2] 23 := Blk.later hb (by (repeat' first | (with_reducible assumption) | ((with_reducible refine Blk.new ?_); first | rfl | (simp; done)) | (with_reducible refine Blk.alloc ?_)))
  have kn2 : Blk w5 (w.heap.size + 1 + 1) #[.int .i64 o3, .int .i64 o4] 23 := Blk.later hb (by (repeat' first | (with_reducible assumption) | ((with_reducible refine Blk.new ?_); first | rfl | (simp; done)) | (with_reducible refine Blk.alloc ?_)))
  have kn3 : Blk w5 (w2.heap.size) #[.int .i64 Z1, .int .i64 Z2, .int .i64 Z3, .int .i64 Z4] 30 := Blk.later hb (by (repeat' first | (with_reducible assumption) | ((with_reducible refine Blk.new ?_); first | rfl | (simp; done)) | (with_reducible refine Blk.alloc ?_)))
  have kn4 : Blk w5 (B4) #[.int .i64 t, .int .i64 n, .int .i64 s1, .int .i64 s2, .int .i64 s3, .int .i64 s4, .int .i64 o1, .int .i64 o2, .int .i64 o3, .int .i64 o4] 41 := Blk.later hb (by (repeat' first | (with_reducible assumption) | ((with_reducible refine Blk.new ?_); first | rfl | (simp; done)) | (with_reducible refine Blk.alloc ?_)))
  have kn5 : Blk w5 (w3.heap.size) #[.int .i64 Y1, .int .i64 Y2, .int .i64 Y3, .int .i64 Y4] 30 := Blk.later hb (by (repeat' first | (with_reducible assumption) | ((with_reducible refine Blk.new ?_); first | rfl | (simp; done)) | (with_reducible refine Blk.alloc ?_)))
  have kn6 : Blk w5 (w3.heap.size + 1) #[.int .i64 t, .int .i64 nz, .int .i64 s1, .int .i64 s2, .int .i64 s3, .int .i64 s4, .int .i64 l1, .int .i64 l2, .int .i64 h1, .int .i64 h2] 41 := Blk.later hb (by (repeat' first | (with_reducible assumption) | ((with_reducible refine Blk.new ?_); first | rfl | (simp; done)) | (with_reducible refine Blk.alloc ?_)))
  have kn7 : Blk w5 (w4.heap.size) #[.int .i64 X1, .int .i64 X2, .int .i64 X3, .int .i64 X4] 30 := Blk.later hb (by (repeat' first | (with_reducible assumption) | ((with_reducible refine Blk.new ?_); first | rfl | (simp; done)) | (with_reducible refine Blk.alloc ?_)))
  clear k0 a0 b0 y0
  clear k1 a1 b1 y1
  clear k2 a2 b2 y2
  clear k3 a3 b3 y3
  clear k4 a4 b4 y4
  clear k5 a5 b5 y5
  clear k6 a6 b6 y6
  have k0 := kn0; clear kn0; obtain ⟨a0, b0⟩ := k0.read; have y0 := k0.lt
  have k1 := kn1; clear kn1; obtain ⟨a1, b1⟩ := k1.read; have y1 := k1.lt
  have k2 := kn2; clear kn2; obtain ⟨a2, b2⟩ := k2.read; have y2 := k2.lt
  have k3 := kn3; clear kn3; obtain ⟨a3, b3⟩ := k3.read; have y3 := k3.lt
  have k4 := kn4; clear kn4; obtain ⟨a4, b4⟩ := k4.read; have y4 := k4.lt
  have k5 := kn5; clear kn5; obtain ⟨a5, b5⟩ := k5.read; have y5 := k5.lt
  have k6 := kn6; clear kn6; obtain ⟨a6, b6⟩ := k6.read; have y6 := k6.lt
  have k7 := kn7; clear kn7; obtain ⟨a7, b7⟩ := k7.read; have y7 := k7.lt
  replace hBw : Below w.heap.size w w5 := belowThru (by (repeat' first | (with_reducible exact Below.refl _ _) | (with_reducible assumption) | (with_reducible refine belowThru ?_ (by assumption)) | (with_reducible refine belowAlloc ?_))) hb
  have hzw5 := hBw.size
  clear hb
  go_wp2_with fail
  go_ret
  exact ⟨rfl, by (repeat' first | (with_reducible exact Below.refl _ _) | (with_reducible assumption) | (with_reducible refine belowThru ?_ (by assumption)) | (with_reducible refine belowAlloc ?_))⟩
set_option maxRecDepth 100000 in
set_option maxHeartbeats 16000000 in
theorem tol_2c (t n s1 s2 s3 s4 l1 l2 h1 h2 o1 o2 o3 o4 nz : Int) (a : Option Addr) (m c : Nat) (zs : List Int) (w : World) (hR : Row w a m (iv zs)) (hl : m ≤ 64) (Z1 Z2 Z3 Z4 V Y1 Y2 Y3 Y4 U X1 X2 X3 X4 C E2 E3 : Int) (hnz : ¬ nz < n) (hC : (C == 1) = false) (hU : (U != 2) = true) (H1 : Hid (∀ w, Row w a m (iv zs) → Calls Try.prog 27 #[.agg #[.int .i64 t, .int .i64 n, .int .i64 s1, .int .i64 s2, .int .i64 s3, .int .i64 s4, .int .i64 l1, .int .i64 l2, .int .i64 h1, .int .i64 h2], .slice a m c] w fun e w' => e = .returned (.tuple #[.agg #[.int .i64 Z1, .int .i64 Z2, .int .i64 Z3, .int .i64 Z4], .int .u8 2, .int .i64 0]) ∧ Below w.heap.size w w')) (H2 : Hid (∀ w, Row w a m (iv zs) → Calls Try.prog 27 #[.agg #[.int .i64 t, .int .i64 n, .int .i64 s1, .int .i64 s2, .int .i64 s3, .int .i64 s4, .int .i64 o1, .int .i64 o2, .int .i64 o3, .int .i64 o4], .slice a m c] w fun e w' => e = .returned (.tuple #[.agg #[.int .i64 Y1, .int .i64 Y2, .int .i64 Y3, .int .i64 Y4], .int .u8 U, .int .i64 0]) ∧ Below w.heap.size w w')) (H3 : Hid (∀ w, Row w a m (iv zs) → Calls Try.prog 27 #[.agg #[.int .i64 t, .int .i64 nz, .int .i64 s1, .int .i64 s2, .int .i64 s3, .int .i64 s4, .int .i64 l1, .int .i64 l2, .int .i64 h1, .int .i64 h2], .slice a m c] w fun e w' => e = .returned (.tuple #[.agg #[.int .i64 X1, .int .i64 X2, .int .i64 X3, .int .i64 X4], .int .u8 C, .int .i64 0]) ∧ Below w.heap.size w w')) (HI : Hid (∀ w, Calls Try.prog 55 #[.agg #[.int .i64 l1, .int .i64 l2, .int .i64 h1, .int .i64 h2], .agg #[.int .i64 o1, .int .i64 o2, .int .i64 o3, .int .i64 o4]] w fun e w' => e = .returned (.bool true) ∧ Below w.heap.size w w')) :
    Calls Try.prog 14 #[.agg #[.int .i64 t, .int .i64 n, .int .i64 s1, .int .i64 s2, .int .i64 s3, .int .i64 s4, .int .i64 l1, .int .i64 l2, .int .i64 h1, .int .i64 h2], .slice a m c, .agg #[.int .i64 o1, .int .i64 o2], .agg #[.int .i64 o3, .int .i64 o4], .int .i64 nz] w fun e w' => e = .returned (.bool true) ∧ Below w.heap.size w w' := by
  have hd : decide (64 < (m : Int)) = false := by simp; omega
  have hmx : Try.prog.follows .mixedOrders = true := by kernel_rfl
  have HR := Lib.hid hR
  clear hR
  go_enter Try.func14, Try.ntmps14
  go_wp2_with fail
  refine (alive_true _).mono ?_
  rintro e w1 ⟨rfl, hb⟩
  have kn0 : Blk w1 (w.heap.size) #[.int .i64 t, .int .i64 n, .int .i64 s1, .int .i64 s2, .int .i64 s3, .int .i64 s4, .int .i64 l1, .int .i64 l2, .int .i64 h1, .int .i64 h2] 41 := Blk.later hb (by (repeat' first | (with_reducible assumption) | ((with_reducible refine Blk.new ?_); first | rfl | (simp; done)) | (with_reducible refine Blk.alloc ?_)))
  have kn1 : Blk w1 (w.heap.size + 1) #[.int .i64 o1, .int .i64 o2] 23 := Blk.later hb (by (repeat' first | (with_reducible assumption) | ((with_reducible refine Blk.new ?_); first | rfl | (simp; done)) | (with_reducible refine Blk.alloc ?_)))
  have kn2 : Blk w1 (w.heap.size + 1 + 1) #[.int .i64 o3, .int .i64 o4] 23 := Blk.later hb (by (repeat' first | (with_reducible assumption) | ((with_reducible refine Blk.new ?_); first | rfl | (simp; done)) | (with_reducible refine Blk.alloc ?_)))
  have k0 := kn0; clear kn0; obtain ⟨a0, b0⟩ := k0.read; have y0 := k0.lt
  have k1 := kn1; clear kn1; obtain ⟨a1, b1⟩ := k1.read; have y1 := k1.lt
  have k2 := kn2; clear kn2; obtain ⟨a2, b2⟩ := k2.read; have y2 := k2.lt
  have hBw : Below w.heap.size w w1 := by (repeat' first | (with_reducible exact Below.refl _ _) | (with_reducible assumption) | (with_reducible refine belowThru ?_ (by assumption)) | (with_reducible refine belowAlloc ?_))
  have hzw1 := hBw.size
  clear hb
  go_wp2_with fail
  refine (H1.out _ (HR.out.later (by (repeat' first | (with_reducible exact Below.refl _ _) | (with_reducible assumption) | (with_reducible refine belowThru ?_ (by assumption)) | (with_reducible refine belowAlloc ?_))))).mono ?_
  rintro e w2 ⟨rfl, hb⟩
  have kn0 : Blk w2 (w.heap.size) #[.int .i64 t, .int .i64 n, .int .i64 s1, .int .i64 s2, .int .i64 s3, .int .i64 s4, .int .i64 l1, .int .i64 l2, .int .i64 h1, .int .i64 h2] 41 := Blk.later hb (by (repeat' first | (with_reducible assumption) | ((with_reducible refine Blk.new ?_); first | rfl | (simp; done)) | (with_reducible refine Blk.alloc ?_)))
  have kn1 : Blk w2 (w.heap.size + 1) #[.int .i64 o1, .int .i64 o2] 23 := Blk.later hb (by (repeat' first | (with_reducible assumption) | ((with_reducible refine Blk.new ?_); first | rfl | (simp; done)) | (with_reducible refine Blk.alloc ?_)))
  have kn2 : Blk w2 (w.heap.size + 1 + 1) #[.int .i64 o3, .int .i64 o4] 23 := Blk.later hb (by (repeat' first | (with_reducible assumption) | ((with_reducible refine Blk.new ?_); first | rfl | (simp; done)) | (with_reducible refine Blk.alloc ?_)))
  clear k0 a0 b0 y0
  clear k1 a1 b1 y1
  clear k2 a2 b2 y2
  have k0 := kn0; clear kn0; obtain ⟨a0, b0⟩ := k0.read; have y0 := k0.lt
  have k1 := kn1; clear kn1; obtain ⟨a1, b1⟩ := k1.read; have y1 := k1.lt
  have k2 := kn2; clear kn2; obtain ⟨a2, b2⟩ := k2.read; have y2 := k2.lt
  replace hBw : Below w.heap.size w w2 := belowThru (by (repeat' first | (with_reducible exact Below.refl _ _) | (with_reducible assumption) | (with_reducible refine belowThru ?_ (by assumption)) | (with_reducible refine belowAlloc ?_))) hb
  have hzw2 := hBw.size
  clear hb
  go_wp2_with fail
  have hB4w : w.heap.size + 1 + 1 < w2.heap.size + 1 := by omega
  have hB43 : w2.heap.size < w2.heap.size + 1 := by omega
  obtain ⟨Wp, hWp⟩ : ∃ Wp, ((w2.alloc (.cells #[.int .i64 Z1, .int .i64 Z2, .int .i64 Z3, .int .i64 Z4] 30)).alloc (.cells #[.int .i64 t, .int .i64 n, .int .i64 s1, .int .i64 s2, .int .i64 s3, .int .i64 s4, .int .i64 l1, .int .i64 l2, .int .i64 h1, .int .i64 h2] 41)) = Wp := ⟨_, rfl⟩
  have kn0 : Blk Wp (w.heap.size) #[.int .i64 t, .int .i64 n, .int .i64 s1, .int .i64 s2, .int .i64 s3, .int .i64 s4, .int .i64 l1, .int .i64 l2, .int .i64 h1, .int .i64 h2] 41 := by rw [← hWp]; (repeat' first | (with_reducible assumption) | ((with_reducible refine Blk.new ?_); first | rfl | (simp; done)) | (with_reducible refine Blk.alloc ?_))
  have kn1 : Blk Wp (w.heap.size + 1) #[.int .i64 o1, .int .i64 o2] 23 := by rw [← hWp]; (repeat' first | (with_reducible assumption) | ((with_reducible refine Blk.new ?_); first | rfl | (simp; done)) | (with_reducible refine Blk.alloc ?_))
  have kn2 : Blk Wp (w.heap.size + 1 + 1) #[.int .i64 o3, .int .i64 o4] 23 := by rw [← hWp]; (repeat' first | (with_reducible assumption) | ((with_reducible refine Blk.new ?_); first | rfl | (simp; done)) | (with_reducible refine Blk.alloc ?_))
  have kn3 : Blk Wp (w2.heap.size) #[.int .i64 Z1, .int .i64 Z2, .int .i64 Z3, .int .i64 Z4] 30 := by rw [← hWp]; (repeat' first | (with_reducible assumption) | ((with_reducible refine Blk.new ?_); first | rfl | (simp; done)) | (with_reducible refine Blk.alloc ?_))
  have kn4 : Blk Wp (w2.heap.size + 1) #[.int .i64 t, .int .i64 n, .int .i64 s1, .int .i64 s2, .int .i64 s3, .int .i64 s4, .int .i64 l1, .int .i64 l2, .int .i64 h1, .int .i64 h2] 41 := by rw [← hWp]; (repeat' first | (with_reducible assumption) | ((with_reducible refine Blk.new ?_); first | rfl | (simp; done)) | (with_reducible refine Blk.alloc ?_))
  replace hBw : Below w.heap.size w Wp := by rw [← hWp]; (repeat' first | (with_reducible exact Below.refl _ _) | (with_reducible assumption) | (with_reducible refine belowThru ?_ (by assumption)) | (with_reducible refine belowAlloc ?_))
  clear k0 a0 b0 y0
  clear k1 a1 b1 y1
  clear k2 a2 b2 y2
  rw [hWp]
  clear hWp
  have k0 := kn0; clear kn0; have y0 := k0.lt
  have k1 := kn1; clear kn1; have y1 := k1.lt
  have k2 := kn2; clear kn2; have y2 := k2.lt
  have k3 := kn3; clear kn3; have y3 := k3.lt
  have k4 := kn4; clear kn4; have y4 := k4.lt
  obtain ⟨B4, hB4⟩ : ∃ z, w2.heap.size + 1 = z := ⟨_, rfl⟩
  rw [hB4] at k4 y4 hB4w hB43 ⊢
  clear hB4
  refine wp_region_held_drew (S := fun w' => (Blk w' (w.heap.size + 1) #[.int .i64 o1, .int .i64 o2] 23 ∧ (∀ i : Nat, w'.cell? ⟨w.heap.size + 1, i, none⟩ = (#[.int .i64 o1, .int .i64 o2] : Array Value)[i]?)) ∧ (Blk w' (w.heap.size + 1 + 1) #[.int .i64 o3, .int .i64 o4] 23 ∧ (∀ i : Nat, w'.cell? ⟨w.heap.size + 1 + 1, i, none⟩ = (#[.int .i64 o3, .int .i64 o4] : Array Value)[i]?)) ∧ Below w.heap.size w w') hmx ⟨k1.drew.full, k2.drew.full, hBw.drew⟩ (fun hHeld => ?_)
  obtain ⟨Wd, hWd⟩ : ∃ Wd, Wp.drew = Wd := ⟨_, rfl⟩
  have q0 : Blk Wd (w.heap.size) #[.int .i64 t, .int .i64 n, .int .i64 s1, .int .i64 s2, .int .i64 s3, .int .i64 s4, .int .i64 l1, .int .i64 l2, .int .i64 h1, .int .i64 h2] 41 := by rw [← hWd]; exact k0.drew
  have q1 : Blk Wd (w.heap.size + 1) #[.int .i64 o1, .int .i64 o2] 23 := by rw [← hWd]; exact k1.drew
  have q2 : Blk Wd (w.heap.size + 1 + 1) #[.int .i64 o3, .int .i64 o4] 23 := by rw [← hWd]; exact k2.drew
  have q3 : Blk Wd (w2.heap.size) #[.int .i64 Z1, .int .i64 Z2, .int .i64 Z3, .int .i64 Z4] 30 := by rw [← hWd]; exact k3.drew
  have q4 : Blk Wd (B4) #[.int .i64 t, .int .i64 n, .int .i64 s1, .int .i64 s2, .int .i64 s3, .int .i64 s4, .int .i64 l1, .int .i64 l2, .int .i64 h1, .int .i64 h2] 41 := by rw [← hWd]; exact k4.drew
  have hBd : Below w.heap.size w Wd := by rw [← hWd]; exact hBw.drew
  rw [hWd] at hHeld ⊢
  clear hWd k0 k1 k2 k3 k4 y0 y1 y2 y3 y4 hBw
  refine wpAnyH_take (i := 0) (v := ?_) rfl (by kernel_rfl) (by kernel_rfl) (by kernel_rfl) (fun _ _ _ h => h) (Or.inl ⟨by rfl, ?hT14⟩) (by assumption) ?_
  case hT14 => ((intro w hSw; (try dsimp only at hSw); go_simp); try (with_reducible rfl))
  try simp only [Act.put, List.setIfInBounds_toArray, List.set_cons_zero, List.set_cons_succ]
  refine wpAnyH_take (i := 1) (v := ?_) rfl (by kernel_rfl) (by kernel_rfl) (by kernel_rfl) (fun _ _ _ h => h) (Or.inl ⟨by rfl, ?hT15⟩) (by assumption) ?_
  case hT15 => ((intro w hSw; (try dsimp only at hSw); go_simp); try (with_reducible rfl))
  try simp only [Act.put, List.setIfInBounds_toArray, List.set_cons_zero, List.set_cons_succ]
  refine wpAnyH_ready (rs := [2]) (by kernel_rfl) (by simp) ?_
  refine AllReadyH.cons rfl (fun K hK => ?_) AllReadyH.nil
  go_simp
  refine hK.out _ _ ?_ (fun hHeldN => ?_)
  · (try dsimp only); ((first | (apply hold2; (focus assumption); intro p0 p1 pB) | skip); refine ⟨Blk.full ?_, Blk.full ?_, ?_⟩; all_goals (first | ((repeat' first | (with_reducible assumption) | (with_reducible refine Blk.other ?_ (by first | omega | (simp; omega)))); done) | ((repeat' first | (with_reducible exact Below.refl _ _) | (with_reducible assumption) | (with_reducible refine belowThru ?_ (by assumption)) | (with_reducible refine belowAlloc ?_) | (with_reducible refine Below.setCell ?_ (by first | omega | (simp; omega)) _) | (with_reducible refine Below.drew ?_)); done)))
  clear hK K hHeld
  have hHeld := hHeldN
  clear hHeldN
  try simp only [Act.put, List.setIfInBounds_toArray, List.set_cons_zero, List.set_cons_succ]
  obtain ⟨r4, s4'⟩ := q4.read
  refine wpAnyH_ready (rs := [3]) (by kernel_rfl) (by simp) ?_
  refine AllReadyH.cons rfl (fun K hK => ?_) AllReadyH.nil
  go_simp
  refine hK.out _ _ ?_ (fun hHeldN => ?_)
  · (try dsimp only); ((first | (apply hold2; (focus assumption); intro p0 p1 pB) | skip); refine ⟨Blk.full ?_, Blk.full ?_, ?_⟩; all_goals (first | ((repeat' first | (with_reducible assumption) | (with_reducible refine Blk.other ?_ (by first | omega | (simp; omega)))); done) | ((repeat' first | (with_reducible exact Below.refl _ _) | (with_reducible assumption) | (with_reducible refine belowThru ?_ (by assumption)) | (with_reducible refine belowAlloc ?_) | (with_reducible refine Below.setCell ?_ (by first | omega | (simp; omega)) _) | (with_reducible refine Below.drew ?_)); done)))
  clear hK K hHeld
  have hHeld := hHeldN
  clear hHeldN
  try simp only [Act.put, List.setIfInBounds_toArray, List.set_cons_zero, List.set_cons_succ]
  refine wpAnyH_ready (rs := [4]) (by kernel_rfl) (by simp) ?_
  refine AllReadyH.cons rfl (fun K hK => ?_) AllReadyH.nil
  go_simp
  refine hK.out _ _ ?_ (fun hHeldN => ?_)
  · (try dsimp only); ((first | (apply hold2; (focus assumption); intro p0 p1 pB) | skip); refine ⟨Blk.full ?_, Blk.full ?_, ?_⟩; all_goals (first | ((repeat' first | (with_reducible assumption) | (with_reducible refine Blk.other ?_ (by first | omega | (simp; omega)))); done) | ((repeat' first | (with_reducible exact Below.refl _ _) | (with_reducible assumption) | (with_reducible refine belowThru ?_ (by assumption)) | (with_reducible refine belowAlloc ?_) | (with_reducible refine Below.setCell ?_ (by first | omega | (simp; omega)) _) | (with_reducible refine Below.drew ?_)); done)))
  clear hK K hHeld
  have hHeld := hHeldN
  clear hHeldN
  try simp only [Act.put, List.setIfInBounds_toArray, List.set_cons_zero, List.set_cons_succ]
  refine wpAnyH_ready (rs := [5]) (by kernel_rfl) (by simp) ?_
  refine AllReadyH.cons rfl (fun K hK => ?_) AllReadyH.nil
  go_simp
  refine hK.out _ _ ?_ (fun hHeldN => ?_)
  · (try dsimp only); ((first | (apply hold2; (focus assumption); intro p0 p1 pB) | skip); refine ⟨Blk.full ?_, Blk.full ?_, ?_⟩; all_goals (first | ((repeat' first | (with_reducible assumption) | (with_reducible refine Blk.other ?_ (by first | omega | (simp; omega)))); done) | ((repeat' first | (with_reducible exact Below.refl _ _) | (with_reducible assumption) | (with_reducible refine belowThru ?_ (by assumption)) | (with_reducible refine belowAlloc ?_) | (with_reducible refine Below.setCell ?_ (by first | omega | (simp; omega)) _) | (with_reducible refine Below.drew ?_)); done)))
  clear hK K hHeld
  have hHeld := hHeldN
  clear hHeldN
  try simp only [Act.put, List.setIfInBounds_toArray, List.set_cons_zero, List.set_cons_succ]
  refine wpAnyH_done (by kernel_rfl) ?_ _
  obtain ⟨Wq, hWq⟩ : ∃ Wq, ((((Wd.setCell ⟨B4, 6, none⟩ (.int .i64 o1)).setCell ⟨B4, 7, none⟩ (.int .i64 o2)).setCell ⟨B4, 8, none⟩ (.int .i64 o3)).setCell ⟨B4, 9, none⟩ (.int .i64 o4)) = Wq := ⟨_, rfl⟩
  have q5 : Blk Wq B4 #[.int .i64 t, .int .i64 n, .int .i64 s1, .int .i64 s2, .int .i64 s3, .int .i64 s4, .int .i64 o1, .int .i64 o2, .int .i64 o3, .int .i64 o4] 41 := by rw [← hWq]; exact Blk.set (Blk.set (Blk.set (Blk.set q4)))
  have p0 : Blk Wq (w.heap.size) #[.int .i64 t, .int .i64 n, .int .i64 s1, .int .i64 s2, .int .i64 s3, .int .i64 s4, .int .i64 l1, .int .i64 l2, .int .i64 h1, .int .i64 h2] 41 := by rw [← hWq]; (repeat' first | (with_reducible assumption) | (with_reducible refine Blk.other ?_ (by first | omega | (simp; omega))))
  have p1 : Blk Wq (w.heap.size + 1) #[.int .i64 o1, .int .i64 o2] 23 := by rw [← hWq]; (repeat' first | (with_reducible assumption) | (with_reducible refine Blk.other ?_ (by first | omega | (simp; omega))))
  have p2 : Blk Wq (w.heap.size + 1 + 1) #[.int .i64 o3, .int .i64 o4] 23 := by rw [← hWq]; (repeat' first | (with_reducible assumption) | (with_reducible refine Blk.other ?_ (by first | omega | (simp; omega))))
  have p3 : Blk Wq (w2.heap.size) #[.int .i64 Z1, .int .i64 Z2, .int .i64 Z3, .int .i64 Z4] 30 := by rw [← hWq]; (repeat' first | (with_reducible assumption) | (with_reducible refine Blk.other ?_ (by first | omega | (simp; omega))))
  have hBn : Below w.heap.size w Wq := by rw [← hWq]; (repeat' first | (with_reducible exact Below.refl _ _) | (with_reducible assumption) | (with_reducible refine belowThru ?_ (by assumption)) | (with_reducible refine belowAlloc ?_) | (with_reducible refine Below.setCell ?_ (by first | omega | (simp; omega)) _) | (with_reducible refine Below.drew ?_))
  rw [hWq]
  clear hWq q0 q1 q2 q3 q4 r4 s4' hHeld hBd
  have k0 := p0; clear p0; obtain ⟨a0, b0⟩ := k0.read; have y0 := k0.lt
  have k1 := p1; clear p1; obtain ⟨a1, b1⟩ := k1.read; have y1 := k1.lt
  have k2 := p2; clear p2; obtain ⟨a2, b2⟩ := k2.read; have y2 := k2.lt
  have k3 := p3; clear p3; obtain ⟨a3, b3⟩ := k3.read; have y3 := k3.lt
  have k4 := q5; clear q5; obtain ⟨a4, b4⟩ := k4.read; have y4 := k4.lt; have hBw := hBn; clear hBn; have hzq := hBw.size
  go_wp2_with fail
  refine (H2.out _ (HR.out.later (by (repeat' first | (with_reducible exact Below.refl _ _) | (with_reducible assumption) | (with_reducible refine belowThru ?_ (by assumption)) | (with_reducible refine belowAlloc ?_))))).mono ?_
  rintro e w3 ⟨rfl, hb⟩
  have kn0 : Blk w3 (w.heap.size) #[.int .i64 t, .int .i64 n, .int .i64 s1, .int .i64 s2, .int .i64 s3, .int .i64 s4, .int .i64 l1, .int .i64 l2, .int .i64 h1, .int .i64 h2] 41 := Blk.later hb (by (repeat' first | (with_reducible assumption) | ((with_reducible refine Blk.new ?_); first | rfl | (simp; done)) | (with_reducible refine Blk.alloc ?_)))
  have kn1 : Blk w3 (w.heap.size + 1) #[.int .i64 o1, .int .i64 o2] 23 := Blk.later hb (by (repeat' first | (with_reducible assumption) | ((with_reducible refine Blk.new ?_); first | rfl | (simp; done)) | (with_reducible refine Blk.alloc ?_)))
  have kn2 : Blk w3 (w.heap.size + 1 + 1) #[.int .i64 o3, .int .i64 o4] 23 := Blk.later hb (by (repeat' first | (with_reducible assumption) | ((with_reducible refine Blk.new ?_); first | rfl | (simp; done)) | (with_reducible refine Blk.alloc ?_)))
  have kn3 : Blk w3 (w2.heap.size) #[.int .i64 Z1, .int .i64 Z2, .int .i64 Z3, .int .i64 Z4] 30 := Blk.later hb (by (repeat' first | (with_reducible assumption) | ((with_reducible refine Blk.new ?_); first | rfl | (simp; done)) | (with_reducible refine Blk.alloc ?_)))
  have kn4 : Blk w3 (B4) #[.int .i64 t, .int .i64 n, .int .i64 s1, .int .i64 s2, .int .i64 s3, .int .i64 s4, .int .i64 o1, .int .i64 o2, .int .i64 o3, .int .i64 o4] 41 := Blk.later hb (by (repeat' first | (with_reducible assumption) | ((with_reducible refine Blk.new ?_); first | rfl | (simp; done)) | (with_reducible refine Blk.alloc ?_)))
  clear k0 a0 b0 y0
  clear k1 a1 b1 y1
  clear k2 a2 b2 y2
  clear k3 a3 b3 y3
  clear k4 a4 b4 y4
  have k0 := kn0; clear kn0; obtain ⟨a0, b0⟩ := k0.read; have y0 := k0.lt
  have k1 := kn1; clear kn1; obtain ⟨a1, b1⟩ := k1.read; have y1 := k1.lt
  have k2 := kn2; clear kn2; obtain ⟨a2, b2⟩ := k2.read; have y2 := k2.lt
  have k3 := kn3; clear kn3; obtain ⟨a3, b3⟩ := k3.read; have y3 := k3.lt
  have k4 := kn4; clear kn4; obtain ⟨a4, b4⟩ := k4.read; have y4 := k4.lt
  replace hBw : Below w.heap.size w w3 := belowThru (by (repeat' first | (with_reducible exact Below.refl _ _) | (with_reducible assumption) | (with_reducible refine belowThru ?_ (by assumption)) | (with_reducible refine belowAlloc ?_))) hb
  have hzw3 := hBw.size
  clear hb
  go_wp2_with fail
  refine (H3.out _ (HR.out.later (by (repeat' first | (with_reducible exact Below.refl _ _) | (with_reducible assumption) | (with_reducible refine belowThru ?_ (by assumption)) | (with_reducible refine belowAlloc ?_))))).mono ?_
  rintro e w4 ⟨rfl, hb⟩
  have kn0 : Blk w4 (w.heap.size) #[.int .i64 t, .int .i64 n, .int .i64 s1, .int .i64 s2, .int .i64 s3, .int .i64 s4, .int .i64 l1, .int .i64 l2, .int .i64 h1, .int .i64 h2] 41 := Blk.later hb (by (repeat' first | (with_reducible assumption) | ((with_reducible refine Blk.new ?_); first | rfl | (simp; done)) | (with_reducible refine Blk.alloc ?_)))
  have kn1 : Blk w4 (w.heap.size + 1) #[.int .i64 o1, .int .i64 o2] 23 := Blk.later hb (by (repeat' first | (with_reducible assumption) | ((with_reducible refine Blk.new ?_); first | rfl | (simp; done)) | (with_reducible refine Blk.alloc ?_)))
  have kn2 : Blk w4 (w.heap.size + 1 + 1) #[.int .i64 o3, .int .i64 o4] 23 := Blk.later hb (by (repeat' first | (with_reducible assumption) | ((with_reducible refine Blk.new ?_); first | rfl | (simp; done)) | (with_reducible refine Blk.alloc ?_)))
  have kn3 : Blk w4 (w2.heap.size) #[.int .i64 Z1, .int .i64 Z2, .int .i64 Z3, .int .i64 Z4] 30 := Blk.later hb (by (repeat' first | (with_reducible assumption) | ((with_reducible refine Blk.new ?_); first | rfl | (simp; done)) | (with_reducible refine Blk.alloc ?_)))
  have kn4 : Blk w4 (B4) #[.int .i64 t, .int .i64 n, .int .i64 s1, .int .i64 s2, .int .i64 s3, .int .i64 s4, .int .i64 o1, .int .i64 o2, .int .i64 o3, .int .i64 o4] 41 := Blk.later hb (by (repeat' first | (with_reducible assumption) | ((with_reducible refine Blk.new ?_); first | rfl | (simp; done)) | (with_reducible refine Blk.alloc ?_)))
  have kn5 : Blk w4 (w3.heap.size) #[.int .i64 Y1, .int .i64 Y2, .int .i64 Y3, .int .i64 Y4] 30 := Blk.later hb (by (repeat' first | (with_reducible assumption) | ((with_reducible refine Blk.new ?_); first | rfl | (simp; done)) | (with_reducible refine Blk.alloc ?_)))
  have kn6 : Blk w4 (w3.heap.size + 1) #[.int .i64 t, .int .i64 nz, .int .i64 s1, .int .i64 s2, .int .i64 s3, .int .i64 s4, .int .i64 l1, .int .i64 l2, .int .i64 h1, .int .i64 h2] 41 := Blk.later hb (by (repeat' first | (with_reducible assumption) | ((with_reducible refine Blk.new ?_); first | rfl | (simp; done)) | (with_reducible refine Blk.alloc ?_)))
  clear k0 a0 b0 y0
  clear k1 a1 b1 y1
  clear k2 a2 b2 y2
  clear k3 a3 b3 y3
  clear k4 a4 b4 y4
  have k0 := kn0; clear kn0; obtain ⟨a0, b0⟩ := k0.read; have y0 := k0.lt
  have k1 := kn1; clear kn1; obtain ⟨a1, b1⟩ := k1.read; have y1 := k1.lt
  have k2 := kn2; clear kn2; obtain ⟨a2, b2⟩ := k2.read; have y2 := k2.lt
  have k3 := kn3; clear kn3; obtain ⟨a3, b3⟩ := k3.read; have y3 := k3.lt
  have k4 := kn4; clear kn4; obtain ⟨a4, b4⟩ := k4.read; have y4 := k4.lt
  have k5 := kn5; clear kn5; obtain ⟨a5, b5⟩ := k5.read; have y5 := k5.lt
  have k6 := kn6; clear kn6; obtain ⟨a6, b6⟩ := k6.read; have y6 := k6.lt
  replace hBw : Below w.heap.size w w4 := belowThru (by (repeat' first | (with_reducible exact Below.refl _ _) | (with_reducible assumption) | (with_reducible refine belowThru ?_ (by assumption)) | (with_reducible refine belowAlloc ?_))) hb
  have hzw4 := hBw.size
  clear hb
  go_wp2_with fail
  refine (HI.out _).mono ?_
  rintro e w5 ⟨rfl, hb⟩
  have kn0 : Blk w5 (w.heap.size) #[.int .i64 t, .int .i64 n, .int .i64 s1, .int .i64 s2, .int .i64 s3, .int .i64 s4, .int .i64 l1, .int .i64 l2, .int .i64 h1, .int .i64 h2] 41 := Blk.later hb (by (repeat' first | (with_reducible assumption) | ((with_reducible refine Blk.new ?_); first | rfl | (simp; done)) | (with_reducible refine Blk.alloc ?_)))
  have kn1 : Blk w5 (w.heap.size + 1) #[.int .i64 o1, .int .i64 o2] 23 := Blk.later hb (by (repeat' first | (with_reducible assumption) | ((with_reducible refine Blk.new ?_); first | rfl | (simp; done)) | (with_reducible refine Blk.alloc ?_)))
  have kn2 : Blk w5 (w.heap.size + 1 + 1) #[.int .i64 o3, .int .i64 o4] 23 := Blk.later hb (by (repeat' first | (with_reducible assumption) | ((with_reducible refine Blk.new ?_); first | rfl | (simp; done)) | (with_reducible refine Blk.alloc ?_)))
  have kn3 : Blk w5 (w2.heap.size) #[.int .i64 Z1, .int .i64 Z2, .int .i64 Z3, .int .i64 Z4] 30 := Blk.later hb (by (repeat' first | (with_reducible assumption) | ((with_reducible refine Blk.new ?_); first | rfl | (simp; done)) | (with_reducible refine Blk.alloc ?_)))
  have kn4 : Blk w5 (B4) #[.int .i64 t, .int .i64 n, .int .i64 s1, .int .i64 s2, .int .i64 s3, .int .i64 s4, .int .i64 o1, .int .i64 o2, .int .i64 o3, .int .i64 o4] 41 := Blk.later hb (by (repeat' first | (with_reducible assumption) | ((with_reducible refine Blk.new ?_); first | rfl | (simp; done)) | (with_reducible refine Blk.alloc ?_)))
  have kn5 : Blk w5 (w3.heap.size) #[.int .i64 Y1, .int .i64 Y2, .int .i64 Y3, .int .i64 Y4] 30 := Blk.later hb (by (repeat' first | (with_reducible assumption) | ((with_reducible refine Blk.new ?_); first | rfl | (simp; done)) | (with_reducible refine Blk.alloc ?_)))
  have kn6 : Blk w5 (w3.heap.size + 1) #[.int .i64 t, .int .i64 nz, .int .i64 s1, .int .i64 s2, .int .i64 s3, .int .i64 s4, .int .i64 l1, .int .i64 l2, .int .i64 h1, .int .i64 h2] 41 := Blk.later hb (by (repeat' first | (with_reducible assumption) | ((with_reducible refine Blk.new ?_); first | rfl | (simp; done)) | (with_reducible refine Blk.alloc ?_)))
  have kn7 : Blk w5 (w4.heap.size) #[.int .i64 X1, .int .i64 X2, .int .i64 X3, .int .i64 X4] 30 := Blk.later hb (by (repeat' first | (with_reducible assumption) | ((with_reducible refine Blk.new ?_); first | rfl | (simp; done)) | (with_reducible refine Blk.alloc ?_)))
  clear k0 a0 b0 y0
  clear k1 a1 b1 y1
  clear k2 a2 b2 y2
  clear k3 a3 b3 y3
  clear k4 a4 b4 y4
  clear k5 a5 b5 y5
  clear k6 a6 b6 y6
  have k0 := kn0; clear kn0; obtain ⟨a0, b0⟩ := k0.read; have y0 := k0.lt
  have k1 := kn1; clear kn1; obtain ⟨a1, b1⟩ := k1.read; have y1 := k1.lt
  have k2 := kn2; clear kn2; obtain ⟨a2, b2⟩ := k2.read; have y2 := k2.lt
  have k3 := kn3; clear kn3; obtain ⟨a3, b3⟩ := k3.read; have y3 := k3.lt
  have k4 := kn4; clear kn4; obtain ⟨a4, b4⟩ := k4.read; have y4 := k4.lt
  have k5 := kn5; clear kn5; obtain ⟨a5, b5⟩ := k5.read; have y5 := k5.lt
  have k6 := kn6; clear kn6; obtain ⟨a6, b6⟩ := k6.read; have y6 := k6.lt
  have k7 := kn7; clear kn7; obtain ⟨a7, b7⟩ := k7.read; have y7 := k7.lt
  replace hBw : Below w.heap.size w w5 := belowThru (by (repeat' first | (with_reducible exact Below.refl _ _) | (with_reducible assumption) | (with_reducible refine belowThru ?_ (by assumption)) | (with_reducible refine belowAlloc ?_))) hb
  have hzw5 := hBw.size
  clear hb
  go_wp2_with fail
  go_ret
  exact ⟨rfl, by (repeat' first | (with_reducible exact Below.refl _ _) | (with_reducible assumption) | (with_reducible refine belowThru ?_ (by assumption)) | (with_reducible refine belowAlloc ?_))⟩
set_option maxRecDepth 100000 in
set_option maxHeartbeats 16000000 in
theorem tol_3f (t n s1 s2 s3 s4 l1 l2 h1 h2 o1 o2 o3 o4 nz : Int) (a : Option Addr) (m c : Nat) (zs : List Int) (w : World) (hR : Row w a m (iv zs)) (hl : m ≤ 64) (Z1 Z2 Z3 Z4 V Y1 Y2 Y3 Y4 U X1 X2 X3 X4 C E2 E3 : Int) (hnz : ¬ nz < n) (hE2 : (E2 != 0) = true) (H1 : Hid (∀ w, Row w a m (iv zs) → Calls Try.prog 27 #[.agg #[.int .i64 t, .int .i64 n, .int .i64 s1, .int .i64 s2, .int .i64 s3, .int .i64 s4, .int .i64 l1, .int .i64 l2, .int .i64 h1, .int .i64 h2], .slice a m c] w fun e w' => e = .returned (.tuple #[.agg #[.int .i64 Z1, .int .i64 Z2, .int .i64 Z3, .int .i64 Z4], .int .u8 3, .int .i64 0]) ∧ Below w.heap.size w w')) (H2 : Hid (∀ w, Row w a m (iv zs) → Calls Try.prog 27 #[.agg #[.int .i64 t, .int .i64 n, .int .i64 s1, .int .i64 s2, .int .i64 s3, .int .i64 s4, .int .i64 o1, .int .i64 o2, .int .i64 o3, .int .i64 o4], .slice a m c] w fun e w' => e = .returned (.tuple #[.agg #[.int .i64 Y1, .int .i64 Y2, .int .i64 Y3, .int .i64 Y4], .int .u8 U, .int .i64 E2]) ∧ Below w.heap.size w w')) (H3 : Hid (∀ w, Row w a m (iv zs) → Calls Try.prog 27 #[.agg #[.int .i64 t, .int .i64 nz, .int .i64 s1, .int .i64 s2, .int .i64 s3, .int .i64 s4, .int .i64 l1, .int .i64 l2, .int .i64 h1, .int .i64 h2], .slice a m c] w fun e w' => e = .returned (.tuple #[.agg #[.int .i64 X1, .int .i64 X2, .int .i64 X3, .int .i64 X4], .int .u8 C, .int .i64 0]) ∧ Below w.heap.size w w'))  :
    Calls Try.prog 14 #[.agg #[.int .i64 t, .int .i64 n, .int .i64 s1, .int .i64 s2, .int .i64 s3, .int .i64 s4, .int .i64 l1, .int .i64 l2, .int .i64 h1, .int .i64 h2], .slice a m c, .agg #[.int .i64 o1, .int .i64 o2], .agg #[.int .i64 o3, .int .i64 o4], .int .i64 nz] w fun e w' => e = .returned (.bool true) ∧ Below w.heap.size w w' := by
  have hd : decide (64 < (m : Int)) = false := by simp; omega
  have hmx : Try.prog.follows .mixedOrders = true := by kernel_rfl
  have HR := Lib.hid hR
  clear hR
  go_enter Try.func14, Try.ntmps14
  go_wp2_with fail
  refine (alive_true _).mono ?_
  rintro e w1 ⟨rfl, hb⟩
  have kn0 : Blk w1 (w.heap.size) #[.int .i64 t, .int .i64 n, .int .i64 s1, .int .i64 s2, .int .i64 s3, .int .i64 s4, .int .i64 l1, .int .i64 l2, .int .i64 h1, .int .i64 h2] 41 := Blk.later hb (by (repeat' first | (with_reducible assumption) | ((with_reducible refine Blk.new ?_); first | rfl | (simp; done)) | (with_reducible refine Blk.alloc ?_)))
  have kn1 : Blk w1 (w.heap.size + 1) #[.int .i64 o1, .int .i64 o2] 23 := Blk.later hb (by (repeat' first | (with_reducible assumption) | ((with_reducible refine Blk.new ?_); first | rfl | (simp; done)) | (with_reducible refine Blk.alloc ?_)))
  have kn2 : Blk w1 (w.heap.size + 1 + 1) #[.int .i64 o3, .int .i64 o4] 23 := Blk.later hb (by (repeat' first | (with_reducible assumption) | ((with_reducible refine Blk.new ?_); first | rfl | (simp; done)) | (with_reducible refine Blk.alloc ?_)))
  have k0 := kn0; clear kn0; obtain ⟨a0, b0⟩ := k0.read; have y0 := k0.lt
  have k1 := kn1; clear kn1; obtain ⟨a1, b1⟩ := k1.read; have y1 := k1.lt
  have k2 := kn2; clear kn2; obtain ⟨a2, b2⟩ := k2.read; have y2 := k2.lt
  have hBw : Below w.heap.size w w1 := by (repeat' first | (with_reducible exact Below.refl _ _) | (with_reducible assumption) | (with_reducible refine belowThru ?_ (by assumption)) | (with_reducible refine belowAlloc ?_))
  have hzw1 := hBw.size
  clear hb
  go_wp2_with fail
  refine (H1.out _ (HR.out.later (by (repeat' first | (with_reducible exact Below.refl _ _) | (with_reducible assumption) | (with_reducible refine belowThru ?_ (by assumption)) | (with_reducible refine belowAlloc ?_))))).mono ?_
  rintro e w2 ⟨rfl, hb⟩
  have kn0 : Blk w2 (w.heap.size) #[.int .i64 t, .int .i64 n, .int .i64 s1, .int .i64 s2, .int .i64 s3, .int .i64 s4, .int .i64 l1, .int .i64 l2, .int .i64 h1, .int .i64 h2] 41 := Blk.later hb (by (repeat' first | (with_reducible assumption) | ((with_reducible refine Blk.new ?_); first | rfl | (simp; done)) | (with_reducible refine Blk.alloc ?_)))
  have kn1 : Blk w2 (w.heap.size + 1) #[.int .i64 o1, .int .i64 o2] 23 := Blk.later hb (by (repeat' first | (with_reducible assumption) | ((with_reducible refine Blk.new ?_); first | rfl | (simp; done)) | (with_reducible refine Blk.alloc ?_)))
  have kn2 : Blk w2 (w.heap.size + 1 + 1) #[.int .i64 o3, .int .i64 o4] 23 := Blk.later hb (by (repeat' first | (with_reducible assumption) | ((with_reducible refine Blk.new ?_); first | rfl | (simp; done)) | (with_reducible refine Blk.alloc ?_)))
  clear k0 a0 b0 y0
  clear k1 a1 b1 y1
  clear k2 a2 b2 y2
  have k0 := kn0; clear kn0; obtain ⟨a0, b0⟩ := k0.read; have y0 := k0.lt
  have k1 := kn1; clear kn1; obtain ⟨a1, b1⟩ := k1.read; have y1 := k1.lt
  have k2 := kn2; clear kn2; obtain ⟨a2, b2⟩ := k2.read; have y2 := k2.lt
  replace hBw : Below w.heap.size w w2 := belowThru (by (repeat' first | (with_reducible exact Below.refl _ _) | (with_reducible assumption) | (with_reducible refine belowThru ?_ (by assumption)) | (with_reducible refine belowAlloc ?_))) hb
  have hzw2 := hBw.size
  clear hb
  go_wp2_with fail
  have hB4w : w.heap.size + 1 + 1 < w2.heap.size + 1 := by omega
  have hB43 : w2.heap.size < w2.heap.size + 1 := by omega
  obtain ⟨Wp, hWp⟩ : ∃ Wp, ((w2.alloc (.cells #[.int .i64 Z1, .int .i64 Z2, .int .i64 Z3, .int .i64 Z4] 30)).alloc (.cells #[.int .i64 t, .int .i64 n, .int .i64 s1, .int .i64 s2, .int .i64 s3, .int .i64 s4, .int .i64 l1, .int .i64 l2, .int .i64 h1, .int .i64 h2] 41)) = Wp := ⟨_, rfl⟩
  have kn0 : Blk Wp (w.heap.size) #[.int .i64 t, .int .i64 n, .int .i64 s1, .int .i64 s2, .int .i64 s3, .int .i64 s4, .int .i64 l1, .int .i64 l2, .int .i64 h1, .int .i64 h2] 41 := by rw [← hWp]; (repeat' first | (with_reducible assumption) | ((with_reducible refine Blk.new ?_); first | rfl | (simp; done)) | (with_reducible refine Blk.alloc ?_))
  have kn1 : Blk Wp (w.heap.size + 1) #[.int .i64 o1, .int .i64 o2] 23 := by rw [← hWp]; (repeat' first | (with_reducible assumption) | ((with_reducible refine Blk.new ?_); first | rfl | (simp; done)) | (with_reducible refine Blk.alloc ?_))
  have kn2 : Blk Wp (w.heap.size + 1 + 1) #[.int .i64 o3, .int .i64 o4] 23 := by rw [← hWp]; (repeat' first | (with_reducible assumption) | ((with_reducible refine Blk.new ?_); first | rfl | (simp; done)) | (with_reducible refine Blk.alloc ?_))
  have kn3 : Blk Wp (w2.heap.size) #[.int .i64 Z1, .int .i64 Z2, .int .i64 Z3, .int .i64 Z4] 30 := by rw [← hWp]; (repeat' first | (with_reducible assumption) | ((with_reducible refine Blk.new ?_); first | rfl | (simp; done)) | (with_reducible refine Blk.alloc ?_))
  have kn4 : Blk Wp (w2.heap.size + 1) #[.int .i64 t, .int .i64 n, .int .i64 s1, .int .i64 s2, .int .i64 s3, .int .i64 s4, .int .i64 l1, .int .i64 l2, .int .i64 h1, .int .i64 h2] 41 := by rw [← hWp]; (repeat' first | (with_reducible assumption) | ((with_reducible refine Blk.new ?_); first | rfl | (simp; done)) | (with_reducible refine Blk.alloc ?_))
  replace hBw : Below w.heap.size w Wp := by rw [← hWp]; (repeat' first | (with_reducible exact Below.refl _ _) | (with_reducible assumption) | (with_reducible refine belowThru ?_ (by assumption)) | (with_reducible refine belowAlloc ?_))
  clear k0 a0 b0 y0
  clear k1 a1 b1 y1
  clear k2 a2 b2 y2
  rw [hWp]
  clear hWp
  have k0 := kn0; clear kn0; have y0 := k0.lt
  have k1 := kn1; clear kn1; have y1 := k1.lt
  have k2 := kn2; clear kn2; have y2 := k2.lt
  have k3 := kn3; clear kn3; have y3 := k3.lt
  have k4 := kn4; clear kn4; have y4 := k4.lt
  obtain ⟨B4, hB4⟩ : ∃ z, w2.heap.size + 1 = z := ⟨_, rfl⟩
  rw [hB4] at k4 y4 hB4w hB43 ⊢
  clear hB4
  refine wp_region_held_drew (S := fun w' => (Blk w' (w.heap.size + 1) #[.int .i64 o1, .int .i64 o2] 23 ∧ (∀ i : Nat, w'.cell? ⟨w.heap.size + 1, i, none⟩ = (#[.int .i64 o1, .int .i64 o2] : Array Value)[i]?)) ∧ (Blk w' (w.heap.size + 1 + 1) #[.int .i64 o3, .int .i64 o4] 23 ∧ (∀ i : Nat, w'.cell? ⟨w.heap.size + 1 + 1, i, none⟩ = (#[.int .i64 o3, .int .i64 o4] : Array Value)[i]?)) ∧ Below w.heap.size w w') hmx ⟨k1.drew.full, k2.drew.full, hBw.drew⟩ (fun hHeld => ?_)
  obtain ⟨Wd, hWd⟩ : ∃ Wd, Wp.drew = Wd := ⟨_, rfl⟩
  have q0 : Blk Wd (w.heap.size) #[.int .i64 t, .int .i64 n, .int .i64 s1, .int .i64 s2, .int .i64 s3, .int .i64 s4, .int .i64 l1, .int .i64 l2, .int .i64 h1, .int .i64 h2] 41 := by rw [← hWd]; exact k0.drew
  have q1 : Blk Wd (w.heap.size + 1) #[.int .i64 o1, .int .i64 o2] 23 := by rw [← hWd]; exact k1.drew
  have q2 : Blk Wd (w.heap.size + 1 + 1) #[.int .i64 o3, .int .i64 o4] 23 := by rw [← hWd]; exact k2.drew
  have q3 : Blk Wd (w2.heap.size) #[.int .i64 Z1, .int .i64 Z2, .int .i64 Z3, .int .i64 Z4] 30 := by rw [← hWd]; exact k3.drew
  have q4 : Blk Wd (B4) #[.int .i64 t, .int .i64 n, .int .i64 s1, .int .i64 s2, .int .i64 s3, .int .i64 s4, .int .i64 l1, .int .i64 l2, .int .i64 h1, .int .i64 h2] 41 := by rw [← hWd]; exact k4.drew
  have hBd : Below w.heap.size w Wd := by rw [← hWd]; exact hBw.drew
  rw [hWd] at hHeld ⊢
  clear hWd k0 k1 k2 k3 k4 y0 y1 y2 y3 y4 hBw
  refine wpAnyH_take (i := 0) (v := ?_) rfl (by kernel_rfl) (by kernel_rfl) (by kernel_rfl) (fun _ _ _ h => h) (Or.inl ⟨by rfl, ?hT16⟩) (by assumption) ?_
  case hT16 => ((intro w hSw; (try dsimp only at hSw); go_simp); try (with_reducible rfl))
  try simp only [Act.put, List.setIfInBounds_toArray, List.set_cons_zero, List.set_cons_succ]
  refine wpAnyH_take (i := 1) (v := ?_) rfl (by kernel_rfl) (by kernel_rfl) (by kernel_rfl) (fun _ _ _ h => h) (Or.inl ⟨by rfl, ?hT17⟩) (by assumption) ?_
  case hT17 => ((intro w hSw; (try dsimp only at hSw); go_simp); try (with_reducible rfl))
  try simp only [Act.put, List.setIfInBounds_toArray, List.set_cons_zero, List.set_cons_succ]
  refine wpAnyH_ready (rs := [2]) (by kernel_rfl) (by simp) ?_
  refine AllReadyH.cons rfl (fun K hK => ?_) AllReadyH.nil
  go_simp
  refine hK.out _ _ ?_ (fun hHeldN => ?_)
  · (try dsimp only); ((first | (apply hold2; (focus assumption); intro p0 p1 pB) | skip); refine ⟨Blk.full ?_, Blk.full ?_, ?_⟩; all_goals (first | ((repeat' first | (with_reducible assumption) | (with_reducible refine Blk.other ?_ (by first | omega | (simp; omega)))); done) | ((repeat' first | (with_reducible exact Below.refl _ _) | (with_reducible assumption) | (with_reducible refine belowThru ?_ (by assumption)) | (with_reducible refine belowAlloc ?_) | (with_reducible refine Below.setCell ?_ (by first | omega | (simp; omega)) _) | (with_reducible refine Below.drew ?_)); done)))
  clear hK K hHeld
  have hHeld := hHeldN
  clear hHeldN
  try simp only [Act.put, List.setIfInBounds_toArray, List.set_cons_zero, List.set_cons_succ]
  obtain ⟨r4, s4'⟩ := q4.read
  refine wpAnyH_ready (rs := [3]) (by kernel_rfl) (by simp) ?_
  refine AllReadyH.cons rfl (fun K hK => ?_) AllReadyH.nil
  go_simp
  refine hK.out _ _ ?_ (fun hHeldN => ?_)
  · (try dsimp only); ((first | (apply hold2; (focus assumption); intro p0 p1 pB) | skip); refine ⟨Blk.full ?_, Blk.full ?_, ?_⟩; all_goals (first | ((repeat' first | (with_reducible assumption) | (with_reducible refine Blk.other ?_ (by first | omega | (simp; omega)))); done) | ((repeat' first | (with_reducible exact Below.refl _ _) | (with_reducible assumption) | (with_reducible refine belowThru ?_ (by assumption)) | (with_reducible refine belowAlloc ?_) | (with_reducible refine Below.setCell ?_ (by first | omega | (simp; omega)) _) | (with_reducible refine Below.drew ?_)); done)))
  clear hK K hHeld
  have hHeld := hHeldN
  clear hHeldN
  try simp only [Act.put, List.setIfInBounds_toArray, List.set_cons_zero, List.set_cons_succ]
  refine wpAnyH_ready (rs := [4]) (by kernel_rfl) (by simp) ?_
  refine AllReadyH.cons rfl (fun K hK => ?_) AllReadyH.nil
  go_simp
  refine hK.out _ _ ?_ (fun hHeldN => ?_)
  · (try dsimp only); ((first | (apply hold2; (focus assumption); intro p0 p1 pB) | skip); refine ⟨Blk.full ?_, Blk.full ?_, ?_⟩; all_goals (first | ((repeat' first | (with_reducible assumption) | (with_reducible refine Blk.other ?_ (by first | omega | (simp; omega)))); done) | ((repeat' first | (with_reducible exact Below.refl _ _) | (with_reducible assumption) | (with_reducible refine belowThru ?_ (by assumption)) | (with_reducible refine belowAlloc ?_) | (with_reducible refine Below.setCell ?_ (by first | omega | (simp; omega)) _) | (with_reducible refine Below.drew ?_)); done)))
  clear hK K hHeld
  have hHeld := hHeldN
  clear hHeldN
  try simp only [Act.put, List.setIfInBounds_toArray, List.set_cons_zero, List.set_cons_succ]
  refine wpAnyH_ready (rs := [5]) (by kernel_rfl) (by simp) ?_
  refine AllReadyH.cons rfl (fun K hK => ?_) AllReadyH.nil
  go_simp
  refine hK.out _ _ ?_ (fun hHeldN => ?_)
  · (try dsimp only); ((first | (apply hold2; (focus assumption); intro p0 p1 pB) | skip); refine ⟨Blk.full ?_, Blk.full ?_, ?_⟩; all_goals (first | ((repeat' first | (with_reducible assumption) | (with_reducible refine Blk.other ?_ (by first | omega | (simp; omega)))); done) | ((repeat' first | (with_reducible exact Below.refl _ _) | (with_reducible assumption) | (with_reducible refine belowThru ?_ (by assumption)) | (with_reducible refine belowAlloc ?_) | (with_reducible refine Below.setCell ?_ (by first | omega | (simp; omega)) _) | (with_reducible refine Below.drew ?_)); done)))
  clear hK K hHeld
  have hHeld := hHeldN
  clear hHeldN
  try simp only [Act.put, List.setIfInBounds_toArray, List.set_cons_zero, List.set_cons_succ]
  refine wpAnyH_done (by kernel_rfl) ?_ _
  obtain ⟨Wq, hWq⟩ : ∃ Wq, ((((Wd.setCell ⟨B4, 6, none⟩ (.int .i64 o1)).setCell ⟨B4, 7, none⟩ (.int .i64 o2)).setCell ⟨B4, 8, none⟩ (.int .i64 o3)).setCell ⟨B4, 9, none⟩ (.int .i64 o4)) = Wq := ⟨_, rfl⟩
  have q5 : Blk Wq B4 #[.int .i64 t, .int .i64 n, .int .i64 s1, .int .i64 s2, .int .i64 s3, .int .i64 s4, .int .i64 o1, .int .i64 o2, .int .i64 o3, .int .i64 o4] 41 := by rw [← hWq]; exact Blk.set (Blk.set (Blk.set (Blk.set q4)))
  have p0 : Blk Wq (w.heap.size) #[.int .i64 t, .int .i64 n, .int .i64 s1, .int .i64 s2, .int .i64 s3, .int .i64 s4, .int .i64 l1, .int .i64 l2, .int .i64 h1, .int .i64 h2] 41 := by rw [← hWq]; (repeat' first | (with_reducible assumption) | (with_reducible refine Blk.other ?_ (by first | omega | (simp; omega))))
  have p1 : Blk Wq (w.heap.size + 1) #[.int .i64 o1, .int .i64 o2] 23 := by rw [← hWq]; (repeat' first | (with_reducible assumption) | (with_reducible refine Blk.other ?_ (by first | omega | (simp; omega))))
  have p2 : Blk Wq (w.heap.size + 1 + 1) #[.int .i64 o3, .int .i64 o4] 23 := by rw [← hWq]; (repeat' first | (with_reducible assumption) | (with_reducible refine Blk.other ?_ (by first | omega | (simp; omega))))
  have p3 : Blk Wq (w2.heap.size) #[.int .i64 Z1, .int .i64 Z2, .int .i64 Z3, .int .i64 Z4] 30 := by rw [← hWq]; (repeat' first | (with_reducible assumption) | (with_reducible refine Blk.other ?_ (by first | omega | (simp; omega))))
  have hBn : Below w.heap.size w Wq := by rw [← hWq]; (repeat' first | (with_reducible exact Below.refl _ _) | (with_reducible assumption) | (with_reducible refine belowThru ?_ (by assumption)) | (with_reducible refine belowAlloc ?_) | (with_reducible refine Below.setCell ?_ (by first | omega | (simp; omega)) _) | (with_reducible refine Below.drew ?_))
  rw [hWq]
  clear hWq q0 q1 q2 q3 q4 r4 s4' hHeld hBd
  have k0 := p0; clear p0; obtain ⟨a0, b0⟩ := k0.read; have y0 := k0.lt
  have k1 := p1; clear p1; obtain ⟨a1, b1⟩ := k1.read; have y1 := k1.lt
  have k2 := p2; clear p2; obtain ⟨a2, b2⟩ := k2.read; have y2 := k2.lt
  have k3 := p3; clear p3; obtain ⟨a3, b3⟩ := k3.read; have y3 := k3.lt
  have k4 := q5; clear q5; obtain ⟨a4, b4⟩ := k4.read; have y4 := k4.lt; have hBw := hBn; clear hBn; have hzq := hBw.size
  go_wp2_with fail
  refine (H2.out _ (HR.out.later (by (repeat' first | (with_reducible exact Below.refl _ _) | (with_reducible assumption) | (with_reducible refine belowThru ?_ (by assumption)) | (with_reducible refine belowAlloc ?_))))).mono ?_
  rintro e w3 ⟨rfl, hb⟩
  have kn0 : Blk w3 (w.heap.size) #[.int .i64 t, .int .i64 n, .int .i64 s1, .int .i64 s2, .int .i64 s3, .int .i64 s4, .int .i64 l1, .int .i64 l2, .int .i64 h1, .int .i64 h2] 41 := Blk.later hb (by (repeat' first | (with_reducible assumption) | ((with_reducible refine Blk.new ?_); first | rfl | (simp; done)) | (with_reducible refine Blk.alloc ?_)))
  have kn1 : Blk w3 (w.heap.size + 1) #[.int .i64 o1, .int .i64 o2] 23 := Blk.later hb (by (repeat' first | (with_reducible assumption) | ((with_reducible refine Blk.new ?_); first | rfl | (simp; done)) | (with_reducible refine Blk.alloc ?_)))
  have kn2 : Blk w3 (w.heap.size + 1 + 1) #[.int .i64 o3, .int .i64 o4] 23 := Blk.later hb (by (repeat' first | (with_reducible assumption) | ((with_reducible refine Blk.new ?_); first | rfl | (simp; done)) | (with_reducible refine Blk.alloc ?_)))
  have kn3 : Blk w3 (w2.heap.size) #[.int .i64 Z1, .int .i64 Z2, .int .i64 Z3, .int .i64 Z4] 30 := Blk.later hb (by (repeat' first | (with_reducible assumption) | ((with_reducible refine Blk.new ?_); first | rfl | (simp; done)) | (with_reducible refine Blk.alloc ?_)))
  have kn4 : Blk w3 (B4) #[.int .i64 t, .int .i64 n, .int .i64 s1, .int .i64 s2, .int .i64 s3, .int .i64 s4, .int .i64 o1, .int .i64 o2, .int .i64 o3, .int .i64 o4] 41 := Blk.later hb (by (repeat' first | (with_reducible assumption) | ((with_reducible refine Blk.new ?_); first | rfl | (simp; done)) | (with_reducible refine Blk.alloc ?_)))
  clear k0 a0 b0 y0
  clear k1 a1 b1 y1
  clear k2 a2 b2 y2
  clear k3 a3 b3 y3
  clear k4 a4 b4 y4
  have k0 := kn0; clear kn0; obtain ⟨a0, b0⟩ := k0.read; have y0 := k0.lt
  have k1 := kn1; clear kn1; obtain ⟨a1, b1⟩ := k1.read; have y1 := k1.lt
  have k2 := kn2; clear kn2; obtain ⟨a2, b2⟩ := k2.read; have y2 := k2.lt
  have k3 := kn3; clear kn3; obtain ⟨a3, b3⟩ := k3.read; have y3 := k3.lt
  have k4 := kn4; clear kn4; obtain ⟨a4, b4⟩ := k4.read; have y4 := k4.lt
  replace hBw : Below w.heap.size w w3 := belowThru (by (repeat' first | (with_reducible exact Below.refl _ _) | (with_reducible assumption) | (with_reducible refine belowThru ?_ (by assumption)) | (with_reducible refine belowAlloc ?_))) hb
  have hzw3 := hBw.size
  clear hb
  go_wp2_with fail
  refine (H3.out _ (HR.out.later (by (repeat' first | (with_reducible exact Below.refl _ _) | (with_reducible assumption) | (with_reducible refine belowThru ?_ (by assumption)) | (with_reducible refine belowAlloc ?_))))).mono ?_
  rintro e w4 ⟨rfl, hb⟩
  have kn0 : Blk w4 (w.heap.size) #[.int .i64 t, .int .i64 n, .int .i64 s1, .int .i64 s2, .int .i64 s3, .int .i64 s4, .int .i64 l1, .int .i64 l2, .int .i64 h1, .int .i64 h2] 41 := Blk.later hb (by (repeat' first | (with_reducible assumption) | ((with_reducible refine Blk.new ?_); first | rfl | (simp; done)) | (with_reducible refine Blk.alloc ?_)))
  have kn1 : Blk w4 (w.heap.size + 1) #[.int .i64 o1, .int .i64 o2] 23 := Blk.later hb (by (repeat' first | (with_reducible assumption) | ((with_reducible refine Blk.new ?_); first | rfl | (simp; done)) | (with_reducible refine Blk.alloc ?_)))
  have kn2 : Blk w4 (w.heap.size + 1 + 1) #[.int .i64 o3, .int .i64 o4] 23 := Blk.later hb (by (repeat' first | (with_reducible assumption) | ((with_reducible refine Blk.new ?_); first | rfl | (simp; done)) | (with_reducible refine Blk.alloc ?_)))
  have kn3 : Blk w4 (w2.heap.size) #[.int .i64 Z1, .int .i64 Z2, .int .i64 Z3, .int .i64 Z4] 30 := Blk.later hb (by (repeat' first | (with_reducible assumption) | ((with_reducible refine Blk.new ?_); first | rfl | (simp; done)) | (with_reducible refine Blk.alloc ?_)))
  have kn4 : Blk w4 (B4) #[.int .i64 t, .int .i64 n, .int .i64 s1, .int .i64 s2, .int .i64 s3, .int .i64 s4, .int .i64 o1, .int .i64 o2, .int .i64 o3, .int .i64 o4] 41 := Blk.later hb (by (repeat' first | (with_reducible assumption) | ((with_reducible refine Blk.new ?_); first | rfl | (simp; done)) | (with_reducible refine Blk.alloc ?_)))
  have kn5 : Blk w4 (w3.heap.size) #[.int .i64 Y1, .int .i64 Y2, .int .i64 Y3, .int .i64 Y4] 30 := Blk.later hb (by (repeat' first | (with_reducible assumption) | ((with_reducible refine Blk.new ?_); first | rfl | (simp; done)) | (with_reducible refine Blk.alloc ?_)))
  have kn6 : Blk w4 (w3.heap.size + 1) #[.int .i64 t, .int .i64 nz, .int .i64 s1, .int .i64 s2, .int .i64 s3, .int .i64 s4, .int .i64 l1, .int .i64 l2, .int .i64 h1, .int .i64 h2] 41 := Blk.later hb (by (repeat' first | (with_reducible assumption) | ((with_reducible refine Blk.new ?_); first | rfl | (simp; done)) | (with_reducible refine Blk.alloc ?_)))
  clear k0 a0 b0 y0
  clear k1 a1 b1 y1
  clear k2 a2 b2 y2
  clear k3 a3 b3 y3
  clear k4 a4 b4 y4
  have k0 := kn0; clear kn0; obtain ⟨a0, b0⟩ := k0.read; have y0 := k0.lt
  have k1 := kn1; clear kn1; obtain ⟨a1, b1⟩ := k1.read; have y1 := k1.lt
  have k2 := kn2; clear kn2; obtain ⟨a2, b2⟩ := k2.read; have y2 := k2.lt
  have k3 := kn3; clear kn3; obtain ⟨a3, b3⟩ := k3.read; have y3 := k3.lt
  have k4 := kn4; clear kn4; obtain ⟨a4, b4⟩ := k4.read; have y4 := k4.lt
  have k5 := kn5; clear kn5; obtain ⟨a5, b5⟩ := k5.read; have y5 := k5.lt
  have k6 := kn6; clear kn6; obtain ⟨a6, b6⟩ := k6.read; have y6 := k6.lt
  replace hBw : Below w.heap.size w w4 := belowThru (by (repeat' first | (with_reducible exact Below.refl _ _) | (with_reducible assumption) | (with_reducible refine belowThru ?_ (by assumption)) | (with_reducible refine belowAlloc ?_))) hb
  have hzw4 := hBw.size
  clear hb
  go_wp2_with fail
  go_ret
  exact ⟨rfl, by (repeat' first | (with_reducible exact Below.refl _ _) | (with_reducible assumption) | (with_reducible refine belowThru ?_ (by assumption)) | (with_reducible refine belowAlloc ?_))⟩
set_option maxRecDepth 100000 in
set_option maxHeartbeats 16000000 in
theorem tol_3o (t n s1 s2 s3 s4 l1 l2 h1 h2 o1 o2 o3 o4 nz : Int) (a : Option Addr) (m c : Nat) (zs : List Int) (w : World) (hR : Row w a m (iv zs)) (hl : m ≤ 64) (Z1 Z2 Z3 Z4 V Y1 Y2 Y3 Y4 U X1 X2 X3 X4 C E2 E3 : Int) (hnz : ¬ nz < n)  (H1 : Hid (∀ w, Row w a m (iv zs) → Calls Try.prog 27 #[.agg #[.int .i64 t, .int .i64 n, .int .i64 s1, .int .i64 s2, .int .i64 s3, .int .i64 s4, .int .i64 l1, .int .i64 l2, .int .i64 h1, .int .i64 h2], .slice a m c] w fun e w' => e = .returned (.tuple #[.agg #[.int .i64 Z1, .int .i64 Z2, .int .i64 Z3, .int .i64 Z4], .int .u8 3, .int .i64 0]) ∧ Below w.heap.size w w')) (H2 : Hid (∀ w, Row w a m (iv zs) → Calls Try.prog 27 #[.agg #[.int .i64 t, .int .i64 n, .int .i64 s1, .int .i64 s2, .int .i64 s3, .int .i64 s4, .int .i64 o1, .int .i64 o2, .int .i64 o3, .int .i64 o4], .slice a m c] w fun e w' => e = .returned (.tuple #[.agg #[.int .i64 Y1, .int .i64 Y2, .int .i64 Y3, .int .i64 Y4], .int .u8 U, .int .i64 0]) ∧ Below w.heap.size w w')) (H3 : Hid (∀ w, Row w a m (iv zs) → Calls Try.prog 27 #[.agg #[.int .i64 t, .int .i64 nz, .int .i64 s1, .int .i64 s2, .int .i64 s3, .int .i64 s4, .int .i64 l1, .int .i64 l2, .int .i64 h1, .int .i64 h2], .slice a m c] w fun e w' => e = .returned (.tuple #[.agg #[.int .i64 X1, .int .i64 X2, .int .i64 X3, .int .i64 X4], .int .u8 C, .int .i64 0]) ∧ Below w.heap.size w w')) (HI : Hid (∀ w, Calls Try.prog 55 #[.agg #[.int .i64 l1, .int .i64 l2, .int .i64 h1, .int .i64 h2], .agg #[.int .i64 o1, .int .i64 o2, .int .i64 o3, .int .i64 o4]] w fun e w' => e = .returned (.bool false) ∧ Below w.heap.size w w')) :
    Calls Try.prog 14 #[.agg #[.int .i64 t, .int .i64 n, .int .i64 s1, .int .i64 s2, .int .i64 s3, .int .i64 s4, .int .i64 l1, .int .i64 l2, .int .i64 h1, .int .i64 h2], .slice a m c, .agg #[.int .i64 o1, .int .i64 o2], .agg #[.int .i64 o3, .int .i64 o4], .int .i64 nz] w fun e w' => e = .returned (.bool true) ∧ Below w.heap.size w w' := by
  have hd : decide (64 < (m : Int)) = false := by simp; omega
  have hmx : Try.prog.follows .mixedOrders = true := by kernel_rfl
  have HR := Lib.hid hR
  clear hR
  go_enter Try.func14, Try.ntmps14
  go_wp2_with fail
  refine (alive_true _).mono ?_
  rintro e w1 ⟨rfl, hb⟩
  have kn0 : Blk w1 (w.heap.size) #[.int .i64 t, .int .i64 n, .int .i64 s1, .int .i64 s2, .int .i64 s3, .int .i64 s4, .int .i64 l1, .int .i64 l2, .int .i64 h1, .int .i64 h2] 41 := Blk.later hb (by (repeat' first | (with_reducible assumption) | ((with_reducible refine Blk.new ?_); first | rfl | (simp; done)) | (with_reducible refine Blk.alloc ?_)))
  have kn1 : Blk w1 (w.heap.size + 1) #[.int .i64 o1, .int .i64 o2] 23 := Blk.later hb (by (repeat' first | (with_reducible assumption) | ((with_reducible refine Blk.new ?_); first | rfl | (simp; done)) | (with_reducible refine Blk.alloc ?_)))
  have kn2 : Blk w1 (w.heap.size + 1 + 1) #[.int .i64 o3, .int .i64 o4] 23 := Blk.later hb (by (repeat' first | (with_reducible assumption) | ((with_reducible refine Blk.new ?_); first | rfl | (simp; done)) | (with_reducible refine Blk.alloc ?_)))
  have k0 := kn0; clear kn0; obtain ⟨a0, b0⟩ := k0.read; have y0 := k0.lt
  have k1 := kn1; clear kn1; obtain ⟨a1, b1⟩ := k1.read; have y1 := k1.lt
  have k2 := kn2; clear kn2; obtain ⟨a2, b2⟩ := k2.read; have y2 := k2.lt
  have hBw : Below w.heap.size w w1 := by (repeat' first | (with_reducible exact Below.refl _ _) | (with_reducible assumption) | (with_reducible refine belowThru ?_ (by assumption)) | (with_reducible refine belowAlloc ?_))
  have hzw1 := hBw.size
  clear hb
  go_wp2_with fail
  refine (H1.out _ (HR.out.later (by (repeat' first | (with_reducible exact Below.refl _ _) | (with_reducible assumption) | (with_reducible refine belowThru ?_ (by assumption)) | (with_reducible refine belowAlloc ?_))))).mono ?_
  rintro e w2 ⟨rfl, hb⟩
  have kn0 : Blk w2 (w.heap.size) #[.int .i64 t, .int .i64 n, .int .i64 s1, .int .i64 s2, .int .i64 s3, .int .i64 s4, .int .i64 l1, .int .i64 l2, .int .i64 h1, .int .i64 h2] 41 := Blk.later hb (by (repeat' first | (with_reducible assumption) | ((with_reducible refine Blk.new ?_); first | rfl | (simp; done)) | (with_reducible refine Blk.alloc ?_)))
  have kn1 : Blk w2 (w.heap.size + 1) #[.int .i64 o1, .int .i64 o2] 23 := Blk.later hb (by (repeat' first | (with_reducible assumption) | ((with_reducible refine Blk.new ?_); first | rfl | (simp; done)) | (with_reducible refine Blk.alloc ?_)))
  have kn2 : Blk w2 (w.heap.size + 1 + 1) #[.int .i64 o3, .int .i64 o4] 23 := Blk.later hb (by (repeat' first | (with_reducible assumption) | ((with_reducible refine Blk.new ?_); first | rfl | (simp; done)) | (with_reducible refine Blk.alloc ?_)))
  clear k0 a0 b0 y0
  clear k1 a1 b1 y1
  clear k2 a2 b2 y2
  have k0 := kn0; clear kn0; obtain ⟨a0, b0⟩ := k0.read; have y0 := k0.lt
  have k1 := kn1; clear kn1; obtain ⟨a1, b1⟩ := k1.read; have y1 := k1.lt
  have k2 := kn2; clear kn2; obtain ⟨a2, b2⟩ := k2.read; have y2 := k2.lt
  replace hBw : Below w.heap.size w w2 := belowThru (by (repeat' first | (with_reducible exact Below.refl _ _) | (with_reducible assumption) | (with_reducible refine belowThru ?_ (by assumption)) | (with_reducible refine belowAlloc ?_))) hb
  have hzw2 := hBw.size
  clear hb
  go_wp2_with fail
  have hB4w : w.heap.size + 1 + 1 < w2.heap.size + 1 := by omega
  have hB43 : w2.heap.size < w2.heap.size + 1 := by omega
  obtain ⟨Wp, hWp⟩ : ∃ Wp, ((w2.alloc (.cells #[.int .i64 Z1, .int .i64 Z2, .int .i64 Z3, .int .i64 Z4] 30)).alloc (.cells #[.int .i64 t, .int .i64 n, .int .i64 s1, .int .i64 s2, .int .i64 s3, .int .i64 s4, .int .i64 l1, .int .i64 l2, .int .i64 h1, .int .i64 h2] 41)) = Wp := ⟨_, rfl⟩
  have kn0 : Blk Wp (w.heap.size) #[.int .i64 t, .int .i64 n, .int .i64 s1, .int .i64 s2, .int .i64 s3, .int .i64 s4, .int .i64 l1, .int .i64 l2, .int .i64 h1, .int .i64 h2] 41 := by rw [← hWp]; (repeat' first | (with_reducible assumption) | ((with_reducible refine Blk.new ?_); first | rfl | (simp; done)) | (with_reducible refine Blk.alloc ?_))
  have kn1 : Blk Wp (w.heap.size + 1) #[.int .i64 o1, .int .i64 o2] 23 := by rw [← hWp]; (repeat' first | (with_reducible assumption) | ((with_reducible refine Blk.new ?_); first | rfl | (simp; done)) | (with_reducible refine Blk.alloc ?_))
  have kn2 : Blk Wp (w.heap.size + 1 + 1) #[.int .i64 o3, .int .i64 o4] 23 := by rw [← hWp]; (repeat' first | (with_reducible assumption) | ((with_reducible refine Blk.new ?_); first | rfl | (simp; done)) | (with_reducible refine Blk.alloc ?_))
  have kn3 : Blk Wp (w2.heap.size) #[.int .i64 Z1, .int .i64 Z2, .int .i64 Z3, .int .i64 Z4] 30 := by rw [← hWp]; (repeat' first | (with_reducible assumption) | ((with_reducible refine Blk.new ?_); first | rfl | (simp; done)) | (with_reducible refine Blk.alloc ?_))
  have kn4 : Blk Wp (w2.heap.size + 1) #[.int .i64 t, .int .i64 n, .int .i64 s1, .int .i64 s2, .int .i64 s3, .int .i64 s4, .int .i64 l1, .int .i64 l2, .int .i64 h1, .int .i64 h2] 41 := by rw [← hWp]; (repeat' first | (with_reducible assumption) | ((with_reducible refine Blk.new ?_); first | rfl | (simp; done)) | (with_reducible refine Blk.alloc ?_))
  replace hBw : Below w.heap.size w Wp := by rw [← hWp]; (repeat' first | (with_reducible exact Below.refl _ _) | (with_reducible assumption) | (with_reducible refine belowThru ?_ (by assumption)) | (with_reducible refine belowAlloc ?_))
  clear k0 a0 b0 y0
  clear k1 a1 b1 y1
  clear k2 a2 b2 y2
  rw [hWp]
  clear hWp
  have k0 := kn0; clear kn0; have y0 := k0.lt
  have k1 := kn1; clear kn1; have y1 := k1.lt
  have k2 := kn2; clear kn2; have y2 := k2.lt
  have k3 := kn3; clear kn3; have y3 := k3.lt
  have k4 := kn4; clear kn4; have y4 := k4.lt
  obtain ⟨B4, hB4⟩ : ∃ z, w2.heap.size + 1 = z := ⟨_, rfl⟩
  rw [hB4] at k4 y4 hB4w hB43 ⊢
  clear hB4
  refine wp_region_held_drew (S := fun w' => (Blk w' (w.heap.size + 1) #[.int .i64 o1, .int .i64 o2] 23 ∧ (∀ i : Nat, w'.cell? ⟨w.heap.size + 1, i, none⟩ = (#[.int .i64 o1, .int .i64 o2] : Array Value)[i]?)) ∧ (Blk w' (w.heap.size + 1 + 1) #[.int .i64 o3, .int .i64 o4] 23 ∧ (∀ i : Nat, w'.cell? ⟨w.heap.size + 1 + 1, i, none⟩ = (#[.int .i64 o3, .int .i64 o4] : Array Value)[i]?)) ∧ Below w.heap.size w w') hmx ⟨k1.drew.full, k2.drew.full, hBw.drew⟩ (fun hHeld => ?_)
  obtain ⟨Wd, hWd⟩ : ∃ Wd, Wp.drew = Wd := ⟨_, rfl⟩
  have q0 : Blk Wd (w.heap.size) #[.int .i64 t, .int .i64 n, .int .i64 s1, .int .i64 s2, .int .i64 s3, .int .i64 s4, .int .i64 l1, .int .i64 l2, .int .i64 h1, .int .i64 h2] 41 := by rw [← hWd]; exact k0.drew
  have q1 : Blk Wd (w.heap.size + 1) #[.int .i64 o1, .int .i64 o2] 23 := by rw [← hWd]; exact k1.drew
  have q2 : Blk Wd (w.heap.size + 1 + 1) #[.int .i64 o3, .int .i64 o4] 23 := by rw [← hWd]; exact k2.drew
  have q3 : Blk Wd (w2.heap.size) #[.int .i64 Z1, .int .i64 Z2, .int .i64 Z3, .int .i64 Z4] 30 := by rw [← hWd]; exact k3.drew
  have q4 : Blk Wd (B4) #[.int .i64 t, .int .i64 n, .int .i64 s1, .int .i64 s2, .int .i64 s3, .int .i64 s4, .int .i64 l1, .int .i64 l2, .int .i64 h1, .int .i64 h2] 41 := by rw [← hWd]; exact k4.drew
  have hBd : Below w.heap.size w Wd := by rw [← hWd]; exact hBw.drew
  rw [hWd] at hHeld ⊢
  clear hWd k0 k1 k2 k3 k4 y0 y1 y2 y3 y4 hBw
  refine wpAnyH_take (i := 0) (v := ?_) rfl (by kernel_rfl) (by kernel_rfl) (by kernel_rfl) (fun _ _ _ h => h) (Or.inl ⟨by rfl, ?hT18⟩) (by assumption) ?_
  case hT18 => ((intro w hSw; (try dsimp only at hSw); go_simp); try (with_reducible rfl))
  try simp only [Act.put, List.setIfInBounds_toArray, List.set_cons_zero, List.set_cons_succ]
  refine wpAnyH_take (i := 1) (v := ?_) rfl (by kernel_rfl) (by kernel_rfl) (by kernel_rfl) (fun _ _ _ h => h) (Or.inl ⟨by rfl, ?hT19⟩) (by assumption) ?_
  case hT19 => ((intro w hSw; (try dsimp only at hSw); go_simp); try (with_reducible rfl))
  try simp only [Act.put, List.setIfInBounds_toArray, List.set_cons_zero, List.set_cons_succ]
  refine wpAnyH_ready (rs := [2]) (by kernel_rfl) (by simp) ?_
  refine AllReadyH.cons rfl (fun K hK => ?_) AllReadyH.nil
  go_simp
  refine hK.out _ _ ?_ (fun hHeldN => ?_)
  · (try dsimp only); ((first | (apply hold2; (focus assumption); intro p0 p1 pB) | skip); refine ⟨Blk.full ?_, Blk.full ?_, ?_⟩; all_goals (first | ((repeat' first | (with_reducible assumption) | (with_reducible refine Blk.other ?_ (by first | omega | (simp; omega)))); done) | ((repeat' first | (with_reducible exact Below.refl _ _) | (with_reducible assumption) | (with_reducible refine belowThru ?_ (by assumption)) | (with_reducible refine belowAlloc ?_) | (with_reducible refine Below.setCell ?_ (by first | omega | (simp; omega)) _) | (with_reducible refine Below.drew ?_)); done)))
  clear hK K hHeld
  have hHeld := hHeldN
  clear hHeldN
  try simp only [Act.put, List.setIfInBounds_toArray, List.set_cons_zero, List.set_cons_succ]
  obtain ⟨r4, s4'⟩ := q4.read
  refine wpAnyH_ready (rs := [3]) (by kernel_rfl) (by simp) ?_
  refine AllReadyH.cons rfl (fun K hK => ?_) AllReadyH.nil
  go_simp
  refine hK.out _ _ ?_ (fun hHeldN => ?_)
  · (try dsimp only); ((first | (apply hold2; (focus assumption); intro p0 p1 pB) | skip); refine ⟨Blk.full ?_, Blk.full ?_, ?_⟩; all_goals (first | ((repeat' first | (with_reducible assumption) | (with_reducible refine Blk.other ?_ (by first | omega | (simp; omega)))); done) | ((repeat' first | (with_reducible exact Below.refl _ _) | (with_reducible assumption) | (with_reducible refine belowThru ?_ (by assumption)) | (with_reducible refine belowAlloc ?_) | (with_reducible refine Below.setCell ?_ (by first | omega | (simp; omega)) _) | (with_reducible refine Below.drew ?_)); done)))
  clear hK K hHeld
  have hHeld := hHeldN
  clear hHeldN
  try simp only [Act.put, List.setIfInBounds_toArray, List.set_cons_zero, List.set_cons_succ]
  refine wpAnyH_ready (rs := [4]) (by kernel_rfl) (by simp) ?_
  refine AllReadyH.cons rfl (fun K hK => ?_) AllReadyH.nil
  go_simp
  refine hK.out _ _ ?_ (fun hHeldN => ?_)
  · (try dsimp only); ((first | (apply hold2; (focus assumption); intro p0 p1 pB) | skip); refine ⟨Blk.full ?_, Blk.full ?_, ?_⟩; all_goals (first | ((repeat' first | (with_reducible assumption) | (with_reducible refine Blk.other ?_ (by first | omega | (simp; omega)))); done) | ((repeat' first | (with_reducible exact Below.refl _ _) | (with_reducible assumption) | (with_reducible refine belowThru ?_ (by assumption)) | (with_reducible refine belowAlloc ?_) | (with_reducible refine Below.setCell ?_ (by first | omega | (simp; omega)) _) | (with_reducible refine Below.drew ?_)); done)))
  clear hK K hHeld
  have hHeld := hHeldN
  clear hHeldN
  try simp only [Act.put, List.setIfInBounds_toArray, List.set_cons_zero, List.set_cons_succ]
  refine wpAnyH_ready (rs := [5]) (by kernel_rfl) (by simp) ?_
  refine AllReadyH.cons rfl (fun K hK => ?_) AllReadyH.nil
  go_simp
  refine hK.out _ _ ?_ (fun hHeldN => ?_)
  · (try dsimp only); ((first | (apply hold2; (focus assumption); intro p0 p1 pB) | skip); refine ⟨Blk.full ?_, Blk.full ?_, ?_⟩; all_goals (first | ((repeat' first | (with_reducible assumption) | (with_reducible refine Blk.other ?_ (by first | omega | (simp; omega)))); done) | ((repeat' first | (with_reducible exact Below.refl _ _) | (with_reducible assumption) | (with_reducible refine belowThru ?_ (by assumption)) | (with_reducible refine belowAlloc ?_) | (with_reducible refine Below.setCell ?_ (by first | omega | (simp; omega)) _) | (with_reducible refine Below.drew ?_)); done)))
  clear hK K hHeld
  have hHeld := hHeldN
  clear hHeldN
  try simp only [Act.put, List.setIfInBounds_toArray, List.set_cons_zero, List.set_cons_succ]
  refine wpAnyH_done (by kernel_rfl) ?_ _
  obtain ⟨Wq, hWq⟩ : ∃ Wq, ((((Wd.setCell ⟨B4, 6, none⟩ (.int .i64 o1)).setCell ⟨B4, 7, none⟩ (.int .i64 o2)).setCell ⟨B4, 8, none⟩ (.int .i64 o3)).setCell ⟨B4, 9, none⟩ (.int .i64 o4)) = Wq := ⟨_, rfl⟩
  have q5 : Blk Wq B4 #[.int .i64 t, .int .i64 n, .int .i64 s1, .int .i64 s2, .int .i64 s3, .int .i64 s4, .int .i64 o1, .int .i64 o2, .int .i64 o3, .int .i64 o4] 41 := by rw [← hWq]; exact Blk.set (Blk.set (Blk.set (Blk.set q4)))
  have p0 : Blk Wq (w.heap.size) #[.int .i64 t, .int .i64 n, .int .i64 s1, .int .i64 s2, .int .i64 s3, .int .i64 s4, .int .i64 l1, .int .i64 l2, .int .i64 h1, .int .i64 h2] 41 := by rw [← hWq]; (repeat' first | (with_reducible assumption) | (with_reducible refine Blk.other ?_ (by first | omega | (simp; omega))))
  have p1 : Blk Wq (w.heap.size + 1) #[.int .i64 o1, .int .i64 o2] 23 := by rw [← hWq]; (repeat' first | (with_reducible assumption) | (with_reducible refine Blk.other ?_ (by first | omega | (simp; omega))))
  have p2 : Blk Wq (w.heap.size + 1 + 1) #[.int .i64 o3, .int .i64 o4] 23 := by rw [← hWq]; (repeat' first | (with_reducible assumption) | (with_reducible refine Blk.other ?_ (by first | omega | (simp; omega))))
  have p3 : Blk Wq (w2.heap.size) #[.int .i64 Z1, .int .i64 Z2, .int .i64 Z3, .int .i64 Z4] 30 := by rw [← hWq]; (repeat' first | (with_reducible assumption) | (with_reducible refine Blk.other ?_ (by first | omega | (simp; omega))))
  have hBn : Below w.heap.size w Wq := by rw [← hWq]; (repeat' first | (with_reducible exact Below.refl _ _) | (with_reducible assumption) | (with_reducible refine belowThru ?_ (by assumption)) | (with_reducible refine belowAlloc ?_) | (with_reducible refine Below.setCell ?_ (by first | omega | (simp; omega)) _) | (with_reducible refine Below.drew ?_))
  rw [hWq]
  clear hWq q0 q1 q2 q3 q4 r4 s4' hHeld hBd
  have k0 := p0; clear p0; obtain ⟨a0, b0⟩ := k0.read; have y0 := k0.lt
  have k1 := p1; clear p1; obtain ⟨a1, b1⟩ := k1.read; have y1 := k1.lt
  have k2 := p2; clear p2; obtain ⟨a2, b2⟩ := k2.read; have y2 := k2.lt
  have k3 := p3; clear p3; obtain ⟨a3, b3⟩ := k3.read; have y3 := k3.lt
  have k4 := q5; clear q5; obtain ⟨a4, b4⟩ := k4.read; have y4 := k4.lt; have hBw := hBn; clear hBn; have hzq := hBw.size
  go_wp2_with fail
  refine (H2.out _ (HR.out.later (by (repeat' first | (with_reducible exact Below.refl _ _) | (with_reducible assumption) | (with_reducible refine belowThru ?_ (by assumption)) | (with_reducible refine belowAlloc ?_))))).mono ?_
  rintro e w3 ⟨rfl, hb⟩
  have kn0 : Blk w3 (w.heap.size) #[.int .i64 t, .int .i64 n, .int .i64 s1, .int .i64 s2, .int .i64 s3, .int .i64 s4, .int .i64 l1, .int .i64 l2, .int .i64 h1, .int .i64 h2] 41 := Blk.later hb (by (repeat' first | (with_reducible assumption) | ((with_reducible refine Blk.new ?_); first | rfl | (simp; done)) | (with_reducible refine Blk.alloc ?_)))
  have kn1 : Blk w3 (w.heap.size + 1) #[.int .i64 o1, .int .i64 o2] 23 := Blk.later hb (by (repeat' first | (with_reducible assumption) | ((with_reducible refine Blk.new ?_); first | rfl | (simp; done)) | (with_reducible refine Blk.alloc ?_)))
  have kn2 : Blk w3 (w.heap.size + 1 + 1) #[.int .i64 o3, .int .i64 o4] 23 := Blk.later hb (by (repeat' first | (with_reducible assumption) | ((with_reducible refine Blk.new ?_); first | rfl | (simp; done)) | (with_reducible refine Blk.alloc ?_)))
  have kn3 : Blk w3 (w2.heap.size) #[.int .i64 Z1, .int .i64 Z2, .int .i64 Z3, .int .i64 Z4] 30 := Blk.later hb (by (repeat' first | (with_reducible assumption) | ((with_reducible refine Blk.new ?_); first | rfl | (simp; done)) | (with_reducible refine Blk.alloc ?_)))
  have kn4 : Blk w3 (B4) #[.int .i64 t, .int .i64 n, .int .i64 s1, .int .i64 s2, .int .i64 s3, .int .i64 s4, .int .i64 o1, .int .i64 o2, .int .i64 o3, .int .i64 o4] 41 := Blk.later hb (by (repeat' first | (with_reducible assumption) | ((with_reducible refine Blk.new ?_); first | rfl | (simp; done)) | (with_reducible refine Blk.alloc ?_)))
  clear k0 a0 b0 y0
  clear k1 a1 b1 y1
  clear k2 a2 b2 y2
  clear k3 a3 b3 y3
  clear k4 a4 b4 y4
  have k0 := kn0; clear kn0; obtain ⟨a0, b0⟩ := k0.read; have y0 := k0.lt
  have k1 := kn1; clear kn1; obtain ⟨a1, b1⟩ := k1.read; have y1 := k1.lt
  have k2 := kn2; clear kn2; obtain ⟨a2, b2⟩ := k2.read; have y2 := k2.lt
  have k3 := kn3; clear kn3; obtain ⟨a3, b3⟩ := k3.read; have y3 := k3.lt
  have k4 := kn4; clear kn4; obtain ⟨a4, b4⟩ := k4.read; have y4 := k4.lt
  replace hBw : Below w.heap.size w w3 := belowThru (by (repeat' first | (with_reducible exact Below.refl _ _) | (with_reducible assumption) | (with_reducible refine belowThru ?_ (by assumption)) | (with_reducible refine belowAlloc ?_))) hb
  have hzw3 := hBw.size
  clear hb
  go_wp2_with fail
  refine (H3.out _ (HR.out.later (by (repeat' first | (with_reducible exact Below.refl _ _) | (with_reducible assumption) | (with_reducible refine belowThru ?_ (by assumption)) | (with_reducible refine belowAlloc ?_))))).mono ?_
  rintro e w4 ⟨rfl, hb⟩
  have kn0 : Blk w4 (w.heap.size) #[.int .i64 t, .int .i64 n, .int .i64 s1, .int .i64 s2, .int .i64 s3, .int .i64 s4, .int .i64 l1, .int .i64 l2, .int .i64 h1, .int .i64 h2] 41 := Blk.later hb (by (repeat' first | (with_reducible assumption) | ((with_reducible refine Blk.new ?_); first | rfl | (simp; done)) | (with_reducible refine Blk.alloc ?_)))
  have kn1 : Blk w4 (w.heap.size + 1) #[.int .i64 o1, .int .i64 o2] 23 := Blk.later hb (by (repeat' first | (with_reducible assumption) | ((with_reducible refine Blk.new ?_); first | rfl | (simp; done)) | (with_reducible refine Blk.alloc ?_)))
  have kn2 : Blk w4 (w.heap.size + 1 + 1) #[.int .i64 o3, .int .i64 o4] 23 := Blk.later hb (by (repeat' first | (with_reducible assumption) | ((with_reducible refine Blk.new ?_); first | rfl | (simp; done)) | (with_reducible refine Blk.alloc ?_)))
  have kn3 : Blk w4 (w2.heap.size) #[.int .i64 Z1, .int .i64 Z2, .int .i64 Z3, .int .i64 Z4] 30 := Blk.later hb (by (repeat' first | (with_reducible assumption) | ((with_reducible refine Blk.new ?_); first | rfl | (simp; done)) | (with_reducible refine Blk.alloc ?_)))
  have kn4 : Blk w4 (B4) #[.int .i64 t, .int .i64 n, .int .i64 s1, .int .i64 s2, .int .i64 s3, .int .i64 s4, .int .i64 o1, .int .i64 o2, .int .i64 o3, .int .i64 o4] 41 := Blk.later hb (by (repeat' first | (with_reducible assumption) | ((with_reducible refine Blk.new ?_); first | rfl | (simp; done)) | (with_reducible refine Blk.alloc ?_)))
  have kn5 : Blk w4 (w3.heap.size) #[.int .i64 Y1, .int .i64 Y2, .int .i64 Y3, .int .i64 Y4] 30 := Blk.later hb (by (repeat' first | (with_reducible assumption) | ((with_reducible refine Blk.new ?_); first | rfl | (simp; done)) | (with_reducible refine Blk.alloc ?_)))
  have kn6 : Blk w4 (w3.heap.size + 1) #[.int .i64 t, .int .i64 nz, .int .i64 s1, .int .i64 s2, .int .i64 s3, .int .i64 s4, .int .i64 l1, .int .i64 l2, .int .i64 h1, .int .i64 h2] 41 := Blk.later hb (by (repeat' first | (with_reducible assumption) | ((with_reducible refine Blk.new ?_); first | rfl | (simp; done)) | (with_reducible refine Blk.alloc ?_)))
  clear k0 a0 b0 y0
  clear k1 a1 b1 y1
  clear k2 a2 b2 y2
  clear k3 a3 b3 y3
  clear k4 a4 b4 y4
  have k0 := kn0; clear kn0; obtain ⟨a0, b0⟩ := k0.read; have y0 := k0.lt
  have k1 := kn1; clear kn1; obtain ⟨a1, b1⟩ := k1.read; have y1 := k1.lt
  have k2 := kn2; clear kn2; obtain ⟨a2, b2⟩ := k2.read; have y2 := k2.lt
  have k3 := kn3; clear kn3; obtain ⟨a3, b3⟩ := k3.read; have y3 := k3.lt
  have k4 := kn4; clear kn4; obtain ⟨a4, b4⟩ := k4.read; have y4 := k4.lt
  have k5 := kn5; clear kn5; obtain ⟨a5, b5⟩ := k5.read; have y5 := k5.lt
  have k6 := kn6; clear kn6; obtain ⟨a6, b6⟩ := k6.read; have y6 := k6.lt
  replace hBw : Below w.heap.size w w4 := belowThru (by (repeat' first | (with_reducible exact Below.refl _ _) | (with_reducible assumption) | (with_reducible refine belowThru ?_ (by assumption)) | (with_reducible refine belowAlloc ?_))) hb
  have hzw4 := hBw.size
  clear hb
  go_wp2_with fail
  refine (HI.out _).mono ?_
  rintro e w5 ⟨rfl, hb⟩
  have kn0 : Blk w5 (w.heap.size) #[.int .i64 t, .int .i64 n, .int .i64 s1, .int .i64 s2, .int .i64 s3, .int .i64 s4, .int .i64 l1, .int .i64 l2, .int .i64 h1, .int .i64 h2] 41 := Blk.later hb (by (repeat' first | (with_reducible assumption) | ((with_reducible refine Blk.new ?_); first | rfl | (simp; done)) | (with_reducible refine Blk.alloc ?_)))
  have kn1 : Blk w5 (w.heap.size + 1) #[.int .i64 o1, .int .i64 o2] 23 := Blk.later hb (by (repeat' first | (with_reducible assumption) | ((with_reducible refine Blk.new ?_); first | rfl | (simp; done)) | (with_reducible refine Blk.alloc ?_)))
  have kn2 : Blk w5 (w.heap.size + 1 + 1) #[.int .i64 o3, .int .i64 o4] 23 := Blk.later hb (by (repeat' first | (with_reducible assumption) | ((with_reducible refine Blk.new ?_); first | rfl | (simp; done)) | (with_reducible refine Blk.alloc ?_)))
  have kn3 : Blk w5 (w2.heap.size) #[.int .i64 Z1, .int .i64 Z2, .int .i64 Z3, .int .i64 Z4] 30 := Blk.later hb (by (repeat' first | (with_reducible assumption) | ((with_reducible refine Blk.new ?_); first | rfl | (simp; done)) | (with_reducible refine Blk.alloc ?_)))
  have kn4 : Blk w5 (B4) #[.int .i64 t, .int .i64 n, .int .i64 s1, .int .i64 s2, .int .i64 s3, .int .i64 s4, .int .i64 o1, .int .i64 o2, .int .i64 o3, .int .i64 o4] 41 := Blk.later hb (by (repeat' first | (with_reducible assumption) | ((with_reducible refine Blk.new ?_); first | rfl | (simp; done)) | (with_reducible refine Blk.alloc ?_)))
  have kn5 : Blk w5 (w3.heap.size) #[.int .i64 Y1, .int .i64 Y2, .int .i64 Y3, .int .i64 Y4] 30 := Blk.later hb (by (repeat' first | (with_reducible assumption) | ((with_reducible refine Blk.new ?_); first | rfl | (simp; done)) | (with_reducible refine Blk.alloc ?_)))
  have kn6 : Blk w5 (w3.heap.size + 1) #[.int .i64 t, .int .i64 nz, .int .i64 s1, .int .i64 s2, .int .i64 s3, .int .i64 s4, .int .i64 l1, .int .i64 l2, .int .i64 h1, .int .i64 h2] 41 := Blk.later hb (by (repeat' first | (with_reducible assumption) | ((with_reducible refine Blk.new ?_); first | rfl | (simp; done)) | (with_reducible refine Blk.alloc ?_)))
  have kn7 : Blk w5 (w4.heap.size) #[.int .i64 X1, .int .i64 X2, .int .i64 X3, .int .i64 X4] 30 := Blk.later hb (by (repeat' first | (with_reducible assumption) | ((with_reducible refine Blk.new ?_); first | rfl | (simp; done)) | (with_reducible refine Blk.alloc ?_)))
  clear k0 a0 b0 y0
  clear k1 a1 b1 y1
  clear k2 a2 b2 y2
  clear k3 a3 b3 y3
  clear k4 a4 b4 y4
  clear k5 a5 b5 y5
  clear k6 a6 b6 y6
  have k0 := kn0; clear kn0; obtain ⟨a0, b0⟩ := k0.read; have y0 := k0.lt
  have k1 := kn1; clear kn1; obtain ⟨a1, b1⟩ := k1.read; have y1 := k1.lt
  have k2 := kn2; clear kn2; obtain ⟨a2, b2⟩ := k2.read; have y2 := k2.lt
  have k3 := kn3; clear kn3; obtain ⟨a3, b3⟩ := k3.read; have y3 := k3.lt
  have k4 := kn4; clear kn4; obtain ⟨a4, b4⟩ := k4.read; have y4 := k4.lt
  have k5 := kn5; clear kn5; obtain ⟨a5, b5⟩ := k5.read; have y5 := k5.lt
  have k6 := kn6; clear kn6; obtain ⟨a6, b6⟩ := k6.read; have y6 := k6.lt
  have k7 := kn7; clear kn7; obtain ⟨a7, b7⟩ := k7.read; have y7 := k7.lt
  replace hBw : Below w.heap.size w w5 := belowThru (by (repeat' first | (with_reducible exact Below.refl _ _) | (with_reducible assumption) | (with_reducible refine belowThru ?_ (by assumption)) | (with_reducible refine belowAlloc ?_))) hb
  have hzw5 := hBw.size
  clear hb
  go_wp2_with fail
  go_ret
  exact ⟨rfl, by (repeat' first | (with_reducible exact Below.refl _ _) | (with_reducible assumption) | (with_reducible refine belowThru ?_ (by assumption)) | (with_reducible refine belowAlloc ?_))⟩
set_option maxRecDepth 100000 in
set_option maxHeartbeats 16000000 in
theorem tol_3d (t n s1 s2 s3 s4 l1 l2 h1 h2 o1 o2 o3 o4 nz : Int) (a : Option Addr) (m c : Nat) (zs : List Int) (w : World) (hR : Row w a m (iv zs)) (hl : m ≤ 64) (Z1 Z2 Z3 Z4 V Y1 Y2 Y3 Y4 U X1 X2 X3 X4 C E2 E3 : Int) (hnz : ¬ nz < n) (hU : (U != 2) = true) (H1 : Hid (∀ w, Row w a m (iv zs) → Calls Try.prog 27 #[.agg #[.int .i64 t, .int .i64 n, .int .i64 s1, .int .i64 s2, .int .i64 s3, .int .i64 s4, .int .i64 l1, .int .i64 l2, .int .i64 h1, .int .i64 h2], .slice a m c] w fun e w' => e = .returned (.tuple #[.agg #[.int .i64 Z1, .int .i64 Z2, .int .i64 Z3, .int .i64 Z4], .int .u8 3, .int .i64 0]) ∧ Below w.heap.size w w')) (H2 : Hid (∀ w, Row w a m (iv zs) → Calls Try.prog 27 #[.agg #[.int .i64 t, .int .i64 n, .int .i64 s1, .int .i64 s2, .int .i64 s3, .int .i64 s4, .int .i64 o1, .int .i64 o2, .int .i64 o3, .int .i64 o4], .slice a m c] w fun e w' => e = .returned (.tuple #[.agg #[.int .i64 Y1, .int .i64 Y2, .int .i64 Y3, .int .i64 Y4], .int .u8 U, .int .i64 0]) ∧ Below w.heap.size w w')) (H3 : Hid (∀ w, Row w a m (iv zs) → Calls Try.prog 27 #[.agg #[.int .i64 t, .int .i64 nz, .int .i64 s1, .int .i64 s2, .int .i64 s3, .int .i64 s4, .int .i64 l1, .int .i64 l2, .int .i64 h1, .int .i64 h2], .slice a m c] w fun e w' => e = .returned (.tuple #[.agg #[.int .i64 X1, .int .i64 X2, .int .i64 X3, .int .i64 X4], .int .u8 C, .int .i64 0]) ∧ Below w.heap.size w w')) (HI : Hid (∀ w, Calls Try.prog 55 #[.agg #[.int .i64 l1, .int .i64 l2, .int .i64 h1, .int .i64 h2], .agg #[.int .i64 o1, .int .i64 o2, .int .i64 o3, .int .i64 o4]] w fun e w' => e = .returned (.bool true) ∧ Below w.heap.size w w')) :
    Calls Try.prog 14 #[.agg #[.int .i64 t, .int .i64 n, .int .i64 s1, .int .i64 s2, .int .i64 s3, .int .i64 s4, .int .i64 l1, .int .i64 l2, .int .i64 h1, .int .i64 h2], .slice a m c, .agg #[.int .i64 o1, .int .i64 o2], .agg #[.int .i64 o3, .int .i64 o4], .int .i64 nz] w fun e w' => e = .returned (.bool true) ∧ Below w.heap.size w w' := by
  have hd : decide (64 < (m : Int)) = false := by simp; omega
  have hmx : Try.prog.follows .mixedOrders = true := by kernel_rfl
  have HR := Lib.hid hR
  clear hR
  go_enter Try.func14, Try.ntmps14
  go_wp2_with fail
  refine (alive_true _).mono ?_
  rintro e w1 ⟨rfl, hb⟩
  have kn0 : Blk w1 (w.heap.size) #[.int .i64 t, .int .i64 n, .int .i64 s1, .int .i64 s2, .int .i64 s3, .int .i64 s4, .int .i64 l1, .int .i64 l2, .int .i64 h1, .int .i64 h2] 41 := Blk.later hb (by (repeat' first | (with_reducible assumption) | ((with_reducible refine Blk.new ?_); first | rfl | (simp; done)) | (with_reducible refine Blk.alloc ?_)))
  have kn1 : Blk w1 (w.heap.size + 1) #[.int .i64 o1, .int .i64 o2] 23 := Blk.later hb (by (repeat' first | (with_reducible assumption) | ((with_reducible refine Blk.new ?_); first | rfl | (simp; done)) | (with_reducible refine Blk.alloc ?_)))
  have kn2 : Blk w1 (w.heap.size + 1 + 1) #[.int .i64 o3, .int .i64 o4] 23 := Blk.later hb (by (repeat' first | (with_reducible assumption) | ((with_reducible refine Blk.new ?_); first | rfl | (simp; done)) | (with_reducible refine Blk.alloc ?_)))
  have k0 := kn0; clear kn0; obtain ⟨a0, b0⟩ := k0.read; have y0 := k0.lt
  have k1 := kn1; clear kn1; obtain ⟨a1, b1⟩ := k1.read; have y1 := k1.lt
  have k2 := kn2; clear kn2; obtain ⟨a2, b2⟩ := k2.read; have y2 := k2.lt
  have hBw : Below w.heap.size w w1 := by (repeat' first | (with_reducible exact Below.refl _ _) | (with_reducible assumption) | (with_reducible refine belowThru ?_ (by assumption)) | (with_reducible refine belowAlloc ?_))
  have hzw1 := hBw.size
  clear hb
  go_wp2_with fail
  refine (H1.out _ (HR.out.later (by (repeat' first | (with_reducible exact Below.refl _ _) | (with_reducible assumption) | (with_reducible refine belowThru ?_ (by assumption)) | (with_reducible refine belowAlloc ?_))))).mono ?_
  rintro e w2 ⟨rfl, hb⟩
  have kn0 : Blk w2 (w.heap.size) #[.int .i64 t, .int .i64 n, .int .i64 s1, .int .i64 s2, .int .i64 s3, .int .i64 s4, .int .i64 l1, .int .i64 l2, .int .i64 h1, .int .i64 h2] 41 := Blk.later hb (by (repeat' first | (with_reducible assumption) | ((with_reducible refine Blk.new ?_); first | rfl | (simp; done)) | (with_reducible refine Blk.alloc ?_)))
  have kn1 : Blk w2 (w.heap.size + 1) #[.int .i64 o1, .int .i64 o2] 23 := Blk.later hb (by (repeat' first | (with_reducible assumption) | ((with_reducible refine Blk.new ?_); first | rfl | (simp; done)) | (with_reducible refine Blk.alloc ?_)))
  have kn2 : Blk w2 (w.heap.size + 1 + 1) #[.int .i64 o3, .int .i64 o4] 23 := Blk.later hb (by (repeat' first | (with_reducible assumption) | ((with_reducible refine Blk.new ?_); first | rfl | (simp; done)) | (with_reducible refine Blk.alloc ?_)))
  clear k0 a0 b0 y0
  clear k1 a1 b1 y1
  clear k2 a2 b2 y2
  have k0 := kn0; clear kn0; obtain ⟨a0, b0⟩ := k0.read; have y0 := k0.lt
  have k1 := kn1; clear kn1; obtain ⟨a1, b1⟩ := k1.read; have y1 := k1.lt
  have k2 := kn2; clear kn2; obtain ⟨a2, b2⟩ := k2.read; have y2 := k2.lt
  replace hBw : Below w.heap.size w w2 := belowThru (by (repeat' first | (with_reducible exact Below.refl _ _) | (with_reducible assumption) | (with_reducible refine belowThru ?_ (by assumption)) | (with_reducible refine belowAlloc ?_))) hb
  have hzw2 := hBw.size
  clear hb
  go_wp2_with fail
  have hB4w : w.heap.size + 1 + 1 < w2.heap.size + 1 := by omega
  have hB43 : w2.heap.size < w2.heap.size + 1 := by omega
  obtain ⟨Wp, hWp⟩ : ∃ Wp, ((w2.alloc (.cells #[.int .i64 Z1, .int .i64 Z2, .int .i64 Z3, .int .i64 Z4] 30)).alloc (.cells #[.int .i64 t, .int .i64 n, .int .i64 s1, .int .i64 s2, .int .i64 s3, .int .i64 s4, .int .i64 l1, .int .i64 l2, .int .i64 h1, .int .i64 h2] 41)) = Wp := ⟨_, rfl⟩
  have kn0 : Blk Wp (w.heap.size) #[.int .i64 t, .int .i64 n, .int .i64 s1, .int .i64 s2, .int .i64 s3, .int .i64 s4, .int .i64 l1, .int .i64 l2, .int .i64 h1, .int .i64 h2] 41 := by rw [← hWp]; (repeat' first | (with_reducible assumption) | ((with_reducible refine Blk.new ?_); first | rfl | (simp; done)) | (with_reducible refine Blk.alloc ?_))
  have kn1 : Blk Wp (w.heap.size + 1) #[.int .i64 o1, .int .i64 o2] 23 := by rw [← hWp]; (repeat' first | (with_reducible assumption) | ((with_reducible refine Blk.new ?_); first | rfl | (simp; done)) | (with_reducible refine Blk.alloc ?_))
  have kn2 : Blk Wp (w.heap.size + 1 + 1) #[.int .i64 o3, .int .i64 o4] 23 := by rw [← hWp]; (repeat' first | (with_reducible assumption) | ((with_reducible refine Blk.new ?_); first | rfl | (simp; done)) | (with_reducible refine Blk.alloc ?_))
  have kn3 : Blk Wp (w2.heap.size) #[.int .i64 Z1, .int .i64 Z2, .int .i64 Z3, .int .i64 Z4] 30 := by rw [← hWp]; (repeat' first | (with_reducible assumption) | ((with_reducible refine Blk.new ?_); first | rfl | (simp; done)) | (with_reducible refine Blk.alloc ?_))
  have kn4 : Blk Wp (w2.heap.size + 1) #[.int .i64 t, .int .i64 n, .int .i64 s1, .int .i64 s2, .int .i64 s3, .int .i64 s4, .int .i64 l1, .int .i64 l2, .int .i64 h1, .int .i64 h2] 41 := by rw [← hWp]; (repeat' first | (with_reducible assumption) | ((with_reducible refine Blk.new ?_); first | rfl | (simp; done)) | (with_reducible refine Blk.alloc ?_))
  replace hBw : Below w.heap.size w Wp := by rw [← hWp]; (repeat' first | (with_reducible exact Below.refl _ _) | (with_reducible assumption) | (with_reducible refine belowThru ?_ (by assumption)) | (with_reducible refine belowAlloc ?_))
  clear k0 a0 b0 y0
  clear k1 a1 b1 y1
  clear k2 a2 b2 y2
  rw [hWp]
  clear hWp
  have k0 := kn0; clear kn0; have y0 := k0.lt
  have k1 := kn1; clear kn1; have y1 := k1.lt
  have k2 := kn2; clear kn2; have y2 := k2.lt
  have k3 := kn3; clear kn3; have y3 := k3.lt
  have k4 := kn4; clear kn4; have y4 := k4.lt
  obtain ⟨B4, hB4⟩ : ∃ z, w2.heap.size + 1 = z := ⟨_, rfl⟩
  rw [hB4] at k4 y4 hB4w hB43 ⊢
  clear hB4
  refine wp_region_held_drew (S := fun w' => (Blk w' (w.heap.size + 1) #[.int .i64 o1, .int .i64 o2] 23 ∧ (∀ i : Nat, w'.cell? ⟨w.heap.size + 1, i, none⟩ = (#[.int .i64 o1, .int .i64 o2] : Array Value)[i]?)) ∧ (Blk w' (w.heap.size + 1 + 1) #[.int .i64 o3, .int .i64 o4] 23 ∧ (∀ i : Nat, w'.cell? ⟨w.heap.size + 1 + 1, i, none⟩ = (#[.int .i64 o3, .int .i64 o4] : Array Value)[i]?)) ∧ Below w.heap.size w w') hmx ⟨k1.drew.full, k2.drew.full, hBw.drew⟩ (fun hHeld => ?_)
  obtain ⟨Wd, hWd⟩ : ∃ Wd, Wp.drew = Wd := ⟨_, rfl⟩
  have q0 : Blk Wd (w.heap.size) #[.int .i64 t, .int .i64 n, .int .i64 s1, .int .i64 s2, .int .i64 s3, .int .i64 s4, .int .i64 l1, .int .i64 l2, .int .i64 h1, .int .i64 h2] 41 := by rw [← hWd]; exact k0.drew
  have q1 : Blk Wd (w.heap.size + 1) #[.int .i64 o1, .int .i64 o2] 23 := by rw [← hWd]; exact k1.drew
  have q2 : Blk Wd (w.heap.size + 1 + 1) #[.int .i64 o3, .int .i64 o4] 23 := by rw [← hWd]; exact k2.drew
  have q3 : Blk Wd (w2.heap.size) #[.int .i64 Z1, .int .i64 Z2, .int .i64 Z3, .int .i64 Z4] 30 := by rw [← hWd]; exact k3.drew
  have q4 : Blk Wd (B4) #[.int .i64 t, .int .i64 n, .int .i64 s1, .int .i64 s2, .int .i64 s3, .int .i64 s4, .int .i64 l1, .int .i64 l2, .int .i64 h1, .int .i64 h2] 41 := by rw [← hWd]; exact k4.drew
  have hBd : Below w.heap.size w Wd := by rw [← hWd]; exact hBw.drew
  rw [hWd] at hHeld ⊢
  clear hWd k0 k1 k2 k3 k4 y0 y1 y2 y3 y4 hBw
  refine wpAnyH_take (i := 0) (v := ?_) rfl (by kernel_rfl) (by kernel_rfl) (by kernel_rfl) (fun _ _ _ h => h) (Or.inl ⟨by rfl, ?hT20⟩) (by assumption) ?_
  case hT20 => ((intro w hSw; (try dsimp only at hSw); go_simp); try (with_reducible rfl))
  try simp only [Act.put, List.setIfInBounds_toArray, List.set_cons_zero, List.set_cons_succ]
  refine wpAnyH_take (i := 1) (v := ?_) rfl (by kernel_rfl) (by kernel_rfl) (by kernel_rfl) (fun _ _ _ h => h) (Or.inl ⟨by rfl, ?hT21⟩) (by assumption) ?_
  case hT21 => ((intro w hSw; (try dsimp only at hSw); go_simp); try (with_reducible rfl))
  try simp only [Act.put, List.setIfInBounds_toArray, List.set_cons_zero, List.set_cons_succ]
  refine wpAnyH_ready (rs := [2]) (by kernel_rfl) (by simp) ?_
  refine AllReadyH.cons rfl (fun K hK => ?_) AllReadyH.nil
  go_simp
  refine hK.out _ _ ?_ (fun hHeldN => ?_)
  · (try dsimp only); ((first | (apply hold2; (focus assumption); intro p0 p1 pB) | skip); refine ⟨Blk.full ?_, Blk.full ?_, ?_⟩; all_goals (first | ((repeat' first | (with_reducible assumption) | (with_reducible refine Blk.other ?_ (by first | omega | (simp; omega)))); done) | ((repeat' first | (with_reducible exact Below.refl _ _) | (with_reducible assumption) | (with_reducible refine belowThru ?_ (by assumption)) | (with_reducible refine belowAlloc ?_) | (with_reducible refine Below.setCell ?_ (by first | omega | (simp; omega)) _) | (with_reducible refine Below.drew ?_)); done)))
  clear hK K hHeld
  have hHeld := hHeldN
  clear hHeldN
  try simp only [Act.put, List.setIfInBounds_toArray, List.set_cons_zero, List.set_cons_succ]
  obtain ⟨r4, s4'⟩ := q4.read
  refine wpAnyH_ready (rs := [3]) (by kernel_rfl) (by simp) ?_
  refine AllReadyH.cons rfl (fun K hK => ?_) AllReadyH.nil
  go_simp
  refine hK.out _ _ ?_ (fun hHeldN => ?_)
  · (try dsimp only); ((first | (apply hold2; (focus assumption); intro p0 p1 pB) | skip); refine ⟨Blk.full ?_, Blk.full ?_, ?_⟩; all_goals (first | ((repeat' first | (with_reducible assumption) | (with_reducible refine Blk.other ?_ (by first | omega | (simp; omega)))); done) | ((repeat' first | (with_reducible exact Below.refl _ _) | (with_reducible assumption) | (with_reducible refine belowThru ?_ (by assumption)) | (with_reducible refine belowAlloc ?_) | (with_reducible refine Below.setCell ?_ (by first | omega | (simp; omega)) _) | (with_reducible refine Below.drew ?_)); done)))
  clear hK K hHeld
  have hHeld := hHeldN
  clear hHeldN
  try simp only [Act.put, List.setIfInBounds_toArray, List.set_cons_zero, List.set_cons_succ]
  refine wpAnyH_ready (rs := [4]) (by kernel_rfl) (by simp) ?_
  refine AllReadyH.cons rfl (fun K hK => ?_) AllReadyH.nil
  go_simp
  refine hK.out _ _ ?_ (fun hHeldN => ?_)
  · (try dsimp only); ((first | (apply hold2; (focus assumption); intro p0 p1 pB) | skip); refine ⟨Blk.full ?_, Blk.full ?_, ?_⟩; all_goals (first | ((repeat' first | (with_reducible assumption) | (with_reducible refine Blk.other ?_ (by first | omega | (simp; omega)))); done) | ((repeat' first | (with_reducible exact Below.refl _ _) | (with_reducible assumption) | (with_reducible refine belowThru ?_ (by assumption)) | (with_reducible refine belowAlloc ?_) | (with_reducible refine Below.setCell ?_ (by first | omega | (simp; omega)) _) | (with_reducible refine Below.drew ?_)); done)))
  clear hK K hHeld
  have hHeld := hHeldN
  clear hHeldN
  try simp only [Act.put, List.setIfInBounds_toArray, List.set_cons_zero, List.set_cons_succ]
  refine wpAnyH_ready (rs := [5]) (by kernel_rfl) (by simp) ?_
  refine AllReadyH.cons rfl (fun K hK => ?_) AllReadyH.nil
  go_simp
  refine hK.out _ _ ?_ (fun hHeldN => ?_)
  · (try dsimp only); ((first | (apply hold2; (focus assumption); intro p0 p1 pB) | skip); refine ⟨Blk.full ?_, Blk.full ?_, ?_⟩; all_goals (first | ((repeat' first | (with_reducible assumption) | (with_reducible refine Blk.other ?_ (by first | omega | (simp; omega)))); done) | ((repeat' first | (with_reducible exact Below.refl _ _) | (with_reducible assumption) | (with_reducible refine belowThru ?_ (by assumption)) | (with_reducible refine belowAlloc ?_) | (with_reducible refine Below.setCell ?_ (by first | omega | (simp; omega)) _) | (with_reducible refine Below.drew ?_)); done)))
  clear hK K hHeld
  have hHeld := hHeldN
  clear hHeldN
  try simp only [Act.put, List.setIfInBounds_toArray, List.set_cons_zero, List.set_cons_succ]
  refine wpAnyH_done (by kernel_rfl) ?_ _
  obtain ⟨Wq, hWq⟩ : ∃ Wq, ((((Wd.setCell ⟨B4, 6, none⟩ (.int .i64 o1)).setCell ⟨B4, 7, none⟩ (.int .i64 o2)).setCell ⟨B4, 8, none⟩ (.int .i64 o3)).setCell ⟨B4, 9, none⟩ (.int .i64 o4)) = Wq := ⟨_, rfl⟩
  have q5 : Blk Wq B4 #[.int .i64 t, .int .i64 n, .int .i64 s1, .int .i64 s2, .int .i64 s3, .int .i64 s4, .int .i64 o1, .int .i64 o2, .int .i64 o3, .int .i64 o4] 41 := by rw [← hWq]; exact Blk.set (Blk.set (Blk.set (Blk.set q4)))
  have p0 : Blk Wq (w.heap.size) #[.int .i64 t, .int .i64 n, .int .i64 s1, .int .i64 s2, .int .i64 s3, .int .i64 s4, .int .i64 l1, .int .i64 l2, .int .i64 h1, .int .i64 h2] 41 := by rw [← hWq]; (repeat' first | (with_reducible assumption) | (with_reducible refine Blk.other ?_ (by first | omega | (simp; omega))))
  have p1 : Blk Wq (w.heap.size + 1) #[.int .i64 o1, .int .i64 o2] 23 := by rw [← hWq]; (repeat' first | (with_reducible assumption) | (with_reducible refine Blk.other ?_ (by first | omega | (simp; omega))))
  have p2 : Blk Wq (w.heap.size + 1 + 1) #[.int .i64 o3, .int .i64 o4] 23 := by rw [← hWq]; (repeat' first | (with_reducible assumption) | (with_reducible refine Blk.other ?_ (by first | omega | (simp; omega))))
  have p3 : Blk Wq (w2.heap.size) #[.int .i64 Z1, .int .i64 Z2, .int .i64 Z3, .int .i64 Z4] 30 := by rw [← hWq]; (repeat' first | (with_reducible assumption) | (with_reducible refine Blk.other ?_ (by first | omega | (simp; omega))))
  have hBn : Below w.heap.size w Wq := by rw [← hWq]; (repeat' first | (with_reducible exact Below.refl _ _) | (with_reducible assumption) | (with_reducible refine belowThru ?_ (by assumption)) | (with_reducible refine belowAlloc ?_) | (with_reducible refine Below.setCell ?_ (by first | omega | (simp; omega)) _) | (with_reducible refine Below.drew ?_))
  rw [hWq]
  clear hWq q0 q1 q2 q3 q4 r4 s4' hHeld hBd
  have k0 := p0; clear p0; obtain ⟨a0, b0⟩ := k0.read; have y0 := k0.lt
  have k1 := p1; clear p1; obtain ⟨a1, b1⟩ := k1.read; have y1 := k1.lt
  have k2 := p2; clear p2; obtain ⟨a2, b2⟩ := k2.read; have y2 := k2.lt
  have k3 := p3; clear p3; obtain ⟨a3, b3⟩ := k3.read; have y3 := k3.lt
  have k4 := q5; clear q5; obtain ⟨a4, b4⟩ := k4.read; have y4 := k4.lt; have hBw := hBn; clear hBn; have hzq := hBw.size
  go_wp2_with fail
  refine (H2.out _ (HR.out.later (by (repeat' first | (with_reducible exact Below.refl _ _) | (with_reducible assumption) | (with_reducible refine belowThru ?_ (by assumption)) | (with_reducible refine belowAlloc ?_))))).mono ?_
  rintro e w3 ⟨rfl, hb⟩
  have kn0 : Blk w3 (w.heap.size) #[.int .i64 t, .int .i64 n, .int .i64 s1, .int .i64 s2, .int .i64 s3, .int .i64 s4, .int .i64 l1, .int .i64 l2, .int .i64 h1, .int .i64 h2] 41 := Blk.later hb (by (repeat' first | (with_reducible assumption) | ((with_reducible refine Blk.new ?_); first | rfl | (simp; done)) | (with_reducible refine Blk.alloc ?_)))
  have kn1 : Blk w3 (w.heap.size + 1) #[.int .i64 o1, .int .i64 o2] 23 := Blk.later hb (by (repeat' first | (with_reducible assumption) | ((with_reducible refine Blk.new ?_); first | rfl | (simp; done)) | (with_reducible refine Blk.alloc ?_)))
  have kn2 : Blk w3 (w.heap.size + 1 + 1) #[.int .i64 o3, .int .i64 o4] 23 := Blk.later hb (by (repeat' first | (with_reducible assumption) | ((with_reducible refine Blk.new ?_); first | rfl | (simp; done)) | (with_reducible refine Blk.alloc ?_)))
  have kn3 : Blk w3 (w2.heap.size) #[.int .i64 Z1, .int .i64 Z2, .int .i64 Z3, .int .i64 Z4] 30 := Blk.later hb (by (repeat' first | (with_reducible assumption) | ((with_reducible refine Blk.new ?_); first | rfl | (simp; done)) | (with_reducible refine Blk.alloc ?_)))
  have kn4 : Blk w3 (B4) #[.int .i64 t, .int .i64 n, .int .i64 s1, .int .i64 s2, .int .i64 s3, .int .i64 s4, .int .i64 o1, .int .i64 o2, .int .i64 o3, .int .i64 o4] 41 := Blk.later hb (by (repeat' first | (with_reducible assumption) | ((with_reducible refine Blk.new ?_); first | rfl | (simp; done)) | (with_reducible refine Blk.alloc ?_)))
  clear k0 a0 b0 y0
  clear k1 a1 b1 y1
  clear k2 a2 b2 y2
  clear k3 a3 b3 y3
  clear k4 a4 b4 y4
  have k0 := kn0; clear kn0; obtain ⟨a0, b0⟩ := k0.read; have y0 := k0.lt
  have k1 := kn1; clear kn1; obtain ⟨a1, b1⟩ := k1.read; have y1 := k1.lt
  have k2 := kn2; clear kn2; obtain ⟨a2, b2⟩ := k2.read; have y2 := k2.lt
  have k3 := kn3; clear kn3; obtain ⟨a3, b3⟩ := k3.read; have y3 := k3.lt
  have k4 := kn4; clear kn4; obtain ⟨a4, b4⟩ := k4.read; have y4 := k4.lt
  replace hBw : Below w.heap.size w w3 := belowThru (by (repeat' first | (with_reducible exact Below.refl _ _) | (with_reducible assumption) | (with_reducible refine belowThru ?_ (by assumption)) | (with_reducible refine belowAlloc ?_))) hb
  have hzw3 := hBw.size
  clear hb
  go_wp2_with fail
  refine (H3.out _ (HR.out.later (by (repeat' first | (with_reducible exact Below.refl _ _) | (with_reducible assumption) | (with_reducible refine belowThru ?_ (by assumption)) | (with_reducible refine belowAlloc ?_))))).mono ?_
  rintro e w4 ⟨rfl, hb⟩
  have kn0 : Blk w4 (w.heap.size) #[.int .i64 t, .int .i64 n, .int .i64 s1, .int .i64 s2, .int .i64 s3, .int .i64 s4, .int .i64 l1, .int .i64 l2, .int .i64 h1, .int .i64 h2] 41 := Blk.later hb (by (repeat' first | (with_reducible assumption) | ((with_reducible refine Blk.new ?_); first | rfl | (simp; done)) | (with_reducible refine Blk.alloc ?_)))
  have kn1 : Blk w4 (w.heap.size + 1) #[.int .i64 o1, .int .i64 o2] 23 := Blk.later hb (by (repeat' first | (with_reducible assumption) | ((with_reducible refine Blk.new ?_); first | rfl | (simp; done)) | (with_reducible refine Blk.alloc ?_)))
  have kn2 : Blk w4 (w.heap.size + 1 + 1) #[.int .i64 o3, .int .i64 o4] 23 := Blk.later hb (by (repeat' first | (with_reducible assumption) | ((with_reducible refine Blk.new ?_); first | rfl | (simp; done)) | (with_reducible refine Blk.alloc ?_)))
  have kn3 : Blk w4 (w2.heap.size) #[.int .i64 Z1, .int .i64 Z2, .int .i64 Z3, .int .i64 Z4] 30 := Blk.later hb (by (repeat' first | (with_reducible assumption) | ((with_reducible refine Blk.new ?_); first | rfl | (simp; done)) | (with_reducible refine Blk.alloc ?_)))
  have kn4 : Blk w4 (B4) #[.int .i64 t, .int .i64 n, .int .i64 s1, .int .i64 s2, .int .i64 s3, .int .i64 s4, .int .i64 o1, .int .i64 o2, .int .i64 o3, .int .i64 o4] 41 := Blk.later hb (by (repeat' first | (with_reducible assumption) | ((with_reducible refine Blk.new ?_); first | rfl | (simp; done)) | (with_reducible refine Blk.alloc ?_)))
  have kn5 : Blk w4 (w3.heap.size) #[.int .i64 Y1, .int .i64 Y2, .int .i64 Y3, .int .i64 Y4] 30 := Blk.later hb (by (repeat' first | (with_reducible assumption) | ((with_reducible refine Blk.new ?_); first | rfl | (simp; done)) | (with_reducible refine Blk.alloc ?_)))
  have kn6 : Blk w4 (w3.heap.size + 1) #[.int .i64 t, .int .i64 nz, .int .i64 s1, .int .i64 s2, .int .i64 s3, .int .i64 s4, .int .i64 l1, .int .i64 l2, .int .i64 h1, .int .i64 h2] 41 := Blk.later hb (by (repeat' first | (with_reducible assumption) | ((with_reducible refine Blk.new ?_); first | rfl | (simp; done)) | (with_reducible refine Blk.alloc ?_)))
  clear k0 a0 b0 y0
  clear k1 a1 b1 y1
  clear k2 a2 b2 y2
  clear k3 a3 b3 y3
  clear k4 a4 b4 y4
  have k0 := kn0; clear kn0; obtain ⟨a0, b0⟩ := k0.read; have y0 := k0.lt
  have k1 := kn1; clear kn1; obtain ⟨a1, b1⟩ := k1.read; have y1 := k1.lt
  have k2 := kn2; clear kn2; obtain ⟨a2, b2⟩ := k2.read; have y2 := k2.lt
  have k3 := kn3; clear kn3; obtain ⟨a3, b3⟩ := k3.read; have y3 := k3.lt
  have k4 := kn4; clear kn4; obtain ⟨a4, b4⟩ := k4.read; have y4 := k4.lt
  have k5 := kn5; clear kn5; obtain ⟨a5, b5⟩ := k5.read; have y5 := k5.lt
  have k6 := kn6; clear kn6; obtain ⟨a6, b6⟩ := k6.read; have y6 := k6.lt
  replace hBw : Below w.heap.size w w4 := belowThru (by (repeat' first | (with_reducible exact Below.refl _ _) | (with_reducible assumption) | (with_reducible refine belowThru ?_ (by assumption)) | (with_reducible refine belowAlloc ?_))) hb
  have hzw4 := hBw.size
  clear hb
  go_wp2_with fail
  refine (HI.out _).mono ?_
  rintro e w5 ⟨rfl, hb⟩
  have kn0 : Blk w5 (w.heap.size) #[.int .i64 t, .int .i64 n, .int .i64 s1, .int .i64 s2, .int .i64 s3, .int .i64 s4, .int .i64 l1, .int .i64 l2, .int .i64 h1, .int .i64 h2] 41 := Blk.later hb (by (repeat' first | (with_reducible assumption) | ((with_reducible refine Blk.new ?_); first | rfl | (simp; done)) | (with_reducible refine Blk.alloc ?_)))
  have kn1 : Blk w5 (w.heap.size + 1) #[.int .i64 o1, .int .i64 o2] 23 := Blk.later hb (by (repeat' first | (with_reducible assumption) | ((with_reducible refine Blk.new ?_); first | rfl | (simp; done)) | (with_reducible refine Blk.alloc ?_)))
  have kn2 : Blk w5 (w.heap.size + 1 + 1) #[.int .i64 o3, .int .i64 o4] 23 := Blk.later hb (by (repeat' first | (with_reducible assumption) | ((with_reducible refine Blk.new ?_); first | rfl | (simp; done)) | (with_reducible refine Blk.alloc ?_)))
  have kn3 : Blk w5 (w2.heap.size) #[.int .i64 Z1, .int .i64 Z2, .int .i64 Z3, .int .i64 Z4] 30 := Blk.later hb (by (repeat' first | (with_reducible assumption) | ((with_reducible refine Blk.new ?_); first | rfl | (simp; done)) | (with_reducible refine Blk.alloc ?_)))
  have kn4 : Blk w5 (B4) #[.int .i64 t, .int .i64 n, .int .i64 s1, .int .i64 s2, .int .i64 s3, .int .i64 s4, .int .i64 o1, .int .i64 o2, .int .i64 o3, .int .i64 o4] 41 := Blk.later hb (by (repeat' first | (with_reducible assumption) | ((with_reducible refine Blk.new ?_); first | rfl | (simp; done)) | (with_reducible refine Blk.alloc ?_)))
  have kn5 : Blk w5 (w3.heap.size) #[.int .i64 Y1, .int .i64 Y2, .int .i64 Y3, .int .i64 Y4] 30 := Blk.later hb (by (repeat' first | (with_reducible assumption) | ((with_reducible refine Blk.new ?_); first | rfl | (simp; done)) | (with_reducible refine Blk.alloc ?_)))
  have kn6 : Blk w5 (w3.heap.size + 1) #[.int .i64 t, .int .i64 nz, .int .i64 s1, .int .i64 s2, .int .i64 s3, .int .i64 s4, .int .i64 l1, .int .i64 l2, .int .i64 h1, .int .i64 h2] 41 := Blk.later hb (by (repeat' first | (with_reducible assumption) | ((with_reducible refine Blk.new ?_); first | rfl | (simp; done)) | (with_reducible refine Blk.alloc ?_)))
  have kn7 : Blk w5 (w4.heap.size) #[.int .i64 X1, .int .i64 X2, .int .i64 X3, .int .i64 X4] 30 := Blk.later hb (by (repeat' first | (with_reducible assumption) | ((with_reducible refine Blk.new ?_); first | rfl | (simp; done)) | (with_reducible refine Blk.alloc ?_)))
  clear k0 a0 b0 y0
  clear k1 a1 b1 y1
  clear k2 a2 b2 y2
  clear k3 a3 b3 y3
  clear k4 a4 b4 y4
  clear k5 a5 b5 y5
  clear k6 a6 b6 y6
  have k0 := kn0; clear kn0; obtain ⟨a0, b0⟩ := k0.read; have y0 := k0.lt
  have k1 := kn1; clear kn1; obtain ⟨a1, b1⟩ := k1.read; have y1 := k1.lt
  have k2 := kn2; clear kn2; obtain ⟨a2, b2⟩ := k2.read; have y2 := k2.lt
  have k3 := kn3; clear kn3; obtain ⟨a3, b3⟩ := k3.read; have y3 := k3.lt
  have k4 := kn4; clear kn4; obtain ⟨a4, b4⟩ := k4.read; have y4 := k4.lt
  have k5 := kn5; clear kn5; obtain ⟨a5, b5⟩ := k5.read; have y5 := k5.lt
  have k6 := kn6; clear kn6; obtain ⟨a6, b6⟩ := k6.read; have y6 := k6.lt
  have k7 := kn7; clear kn7; obtain ⟨a7, b7⟩ := k7.read; have y7 := k7.lt
  replace hBw : Below w.heap.size w w5 := belowThru (by (repeat' first | (with_reducible exact Below.refl _ _) | (with_reducible assumption) | (with_reducible refine belowThru ?_ (by assumption)) | (with_reducible refine belowAlloc ?_))) hb
  have hzw5 := hBw.size
  clear hb
  go_wp2_with fail
  go_ret
  exact ⟨rfl, by (repeat' first | (with_reducible exact Below.refl _ _) | (with_reducible assumption) | (with_reducible refine belowThru ?_ (by assumption)) | (with_reducible refine belowAlloc ?_))⟩
end Go.Proofs.Ytbcgebobfnclnaa
