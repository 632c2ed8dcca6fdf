/-
  Layer 4: the examples of the law LensExamples, one by one.
-/
import Derived.Deep.RegionHeld3
import Derived.Test.YtbdcmdofmokoeaaQKLawAdd5
namespace Go.Proofs.Ytbdcmdofmokoeaa
open Go.RowKit Go.Shelf
set_option linter.unusedVariables false
set_option linter.unusedSimpArgs false

theorem holdX3 {w : World} {b0 b1 b2 : Nat} {c0 c1 c2 : Array Value} {t0 t1 t2 : TypeId} {D0 D1 D2 E G : Prop} (h : (Blk w b0 c0 t0 ∧ D0) ∧ (Blk w b1 c1 t1 ∧ D1) ∧ (Blk w b2 c2 t2 ∧ D2) ∧ E) (g : Blk w b0 c0 t0 → Blk w b1 c1 t1 → Blk w b2 c2 t2 → E → G) : G := g h.1.1 h.2.1.1 h.2.2.1.1 h.2.2.2
set_option maxRecDepth 100000 in
set_option maxHeartbeats 16000000 in
theorem exp_1 (Bl Br : Nat) (E D N r n X : Int) (w : World) (h1 : IntKind.i64.wrap (n + 1) = n + 1) (h2 : IntKind.i64.wrap (X + N) = X + N) (k0 : Blk w Bl #[.int .i64 E, .int .i64 D, .int .i64 N] 33) (k1 : Blk w Br #[.int .i64 r] 3) (HI : Hid (∀ W : World, Calls Try.prog 57 #[.agg #[.int .i64 (n + 1), .int .i64 D, .int .i64 0], .int .i64 r] W fun e W' => e = .returned (.int .i64 X) ∧ Below W.heap.size W W')) :
    Calls Try.prog 56 #[.int .i64 n, .pointer (some ⟨Bl, 0, none⟩), .pointer (some ⟨Br, 0, none⟩)] w fun e w' => e = .returned (.bool (decide (255 < X + N))) ∧ Below w.heap.size w w' := by
  obtain ⟨a0, b0⟩ := k0.read; obtain ⟨a1, b1⟩ := k1.read; have y0 := k0.lt; have y1 := k1.lt
  go_enter Try.func56, Try.ntmps56
  have hBw : Below w.heap.size w w := Below.refl _ _
  go_wp2_with fail
  obtain ⟨Wp, hWp⟩ : ∃ Wp, (w.alloc (.cells #[.int .i64 (n + 1), .int .i64 D, .int .i64 0] 33)) = Wp := ⟨_, rfl⟩
  have kn0 : Blk Wp (Bl) #[.int .i64 E, .int .i64 D, .int .i64 N] 33 := by rw [← hWp]; (repeat' (first | (with_reducible assumption) | ((with_reducible refine Blk.new ?_); first | rfl | (simp; done)) | (with_reducible refine Blk.later (by assumption) ?_) | (with_reducible refine Blk.alloc ?_) | (with_reducible refine Blk.drewN ?_) | (with_reducible refine Blk.drew ?_) | (with_reducible refine Blk.other ?_ (by first | omega | (simp; done) | (simp; omega)))))
  have kn1 : Blk Wp (Br) #[.int .i64 r] 3 := by rw [← hWp]; (repeat' (first | (with_reducible assumption) | ((with_reducible refine Blk.new ?_); first | rfl | (simp; done)) | (with_reducible refine Blk.later (by assumption) ?_) | (with_reducible refine Blk.alloc ?_) | (with_reducible refine Blk.drewN ?_) | (with_reducible refine Blk.drew ?_) | (with_reducible refine Blk.other ?_ (by first | omega | (simp; done) | (simp; omega)))))
  have kn2 : Blk Wp (w.heap.size) #[.int .i64 (n + 1), .int .i64 D, .int .i64 0] 33 := by rw [← hWp]; (repeat' (first | (with_reducible assumption) | ((with_reducible refine Blk.new ?_); first | rfl | (simp; done)) | (with_reducible refine Blk.later (by assumption) ?_) | (with_reducible refine Blk.alloc ?_) | (with_reducible refine Blk.drewN ?_) | (with_reducible refine Blk.drew ?_) | (with_reducible refine Blk.other ?_ (by first | omega | (simp; done) | (simp; omega)))))
  replace hBw : Below w.heap.size w Wp := by rw [← hWp]; (repeat' (first | (with_reducible exact Below.refl _ _) | (with_reducible assumption) | (with_reducible refine belowThru ?_ (by assumption)) | (with_reducible refine belowAlloc ?_) | (with_reducible refine Below.setCell ?_ (by first | omega | (simp; done) | (simp; omega)) _) | (with_reducible refine Below.drew ?_) | (with_reducible refine below_drewN ?_ _)))
  clear k0 a0 b0 y0
  clear k1 a1 b1 y1
  rw [hWp]
  clear hWp
  have k0 := kn0; clear kn0; have y0 := k0.lt
  have k1 := kn1; clear kn1; have y1 := k1.lt
  have k2 := kn2; clear kn2; have y2 := k2.lt
  go_region_held3 (fun w' => (Blk w' (Bl) #[.int .i64 E, .int .i64 D, .int .i64 N] 33 ∧ (∀ i : Nat, w'.cell? ⟨Bl, i, none⟩ = (#[.int .i64 E, .int .i64 D, .int .i64 N] : Array Value)[i]?)) ∧ (Blk w' (Br) #[.int .i64 r] 3 ∧ (∀ i : Nat, w'.cell? ⟨Br, i, none⟩ = (#[.int .i64 r] : Array Value)[i]?)) ∧ (Blk w' (w.heap.size) #[.int .i64 (n + 1), .int .i64 D, .int .i64 0] 33 ∧ (∀ i : Nat, w'.cell? ⟨w.heap.size, i, none⟩ = (#[.int .i64 (n + 1), .int .i64 D, .int .i64 0] : Array Value)[i]?)) ∧ Below Wp.heap.size Wp w')
    (((first | (apply holdX3; (focus assumption); intro p0 p1 p2 pB) | skip); refine ⟨Blk.full ?_, Blk.full ?_, Blk.full ?_, ?_⟩; all_goals (first | ((repeat' (first | (with_reducible assumption) | ((with_reducible refine Blk.new ?_); first | rfl | (simp; done)) | (with_reducible refine Blk.later (by assumption) ?_) | (with_reducible refine Blk.alloc ?_) | (with_reducible refine Blk.drewN ?_) | (with_reducible refine Blk.drew ?_) | (with_reducible refine Blk.other ?_ (by first | omega | (simp; done) | (simp; omega))))); done) | ((repeat' (first | (with_reducible exact Below.refl _ _) | (with_reducible assumption) | (with_reducible refine belowThru ?_ (by assumption)) | (with_reducible refine belowAlloc ?_) | (with_reducible refine Below.setCell ?_ (by first | omega | (simp; done) | (simp; omega)) _) | (with_reducible refine Below.drew ?_) | (with_reducible refine below_drewN ?_ _))); done) | exact Below.refl _ _)))
    (first
    | (go_at_call 57; (with_reducible refine (HI.out _).mono ?_); rintro e w1 ⟨rfl, hb⟩))
  all_goals
    apply holdX3; (focus assumption); intro p0 p1 p2 pB
    go_wp2_with fail
    go_ret
    exact ⟨rfl, belowThru hBw pB⟩
set_option maxRecDepth 100000 in
set_option maxHeartbeats 16000000 in
theorem exp_2 (E D N r m : Int) (w : World) (hm : (m == 0) = false) (HC : Hid (∀ W : World, Calls Try.prog 29 #[.agg #[.int .i64 E, .int .i64 D, .int .i64 N]] W fun e W' => e = .returned (.int .i64 0) ∧ Below W.heap.size W W')) (HW : Hid (∀ (B : Nat) (w : World), w.cell? ⟨B, 0, none⟩ = some (.int .i64 r) → Calls Try.prog 54 #[.int .i64 (0), .int .i64 4095, .slice (some ⟨B, 0, none⟩) 1 1] w fun e w' => e = .returned (.bool true) ∧ Below w.heap.size w w')) (HS : Hid (∀ (Bl Br : Nat) (W : World), Blk W Bl #[.int .i64 E, .int .i64 D, .int .i64 N] 33 → Blk W Br #[.int .i64 r] 3 → Calls Try.prog 55 #[.int .i64 256, .func (.func 56) #[] #[.pointer (some ⟨Bl, 0, none⟩), .pointer (some ⟨Br, 0, none⟩)]] W fun e W' => e = .returned (.int .i64 m) ∧ Below W.heap.size W W')) :
    Calls Try.prog 18 #[.agg #[.int .i64 E, .int .i64 D, .int .i64 N], .int .i64 r] w fun e w' => e = .returned (.tuple #[.int .i64 m, .int .i64 0]) ∧ Below w.heap.size w w' := by
  go_enter Try.func18, Try.ntmps18
  go_wp2_with fail
  refine (HC.out _).mono ?_
  rintro e w1 ⟨rfl, hb⟩
  have kn0 : Blk w1 (w.heap.size) #[.int .i64 E, .int .i64 D, .int .i64 N] 33 := Blk.later hb (by (repeat' (first | (with_reducible assumption) | (with_reducible refine Blk.set2 ?_) | ((with_reducible refine Blk.new ?_); first | rfl | (simp; done)) | (with_reducible refine Blk.later (by assumption) ?_) | (with_reducible refine Blk.alloc ?_) | (with_reducible refine Blk.drewN ?_) | (with_reducible refine Blk.drew ?_) | (with_reducible refine Blk.other ?_ (by first | omega | (simp; done) | (simp; omega))))))
  have kn1 : Blk w1 (w.heap.size + 1) #[.int .i64 r] 3 := Blk.later hb (by (repeat' (first | (with_reducible assumption) | (with_reducible refine Blk.set2 ?_) | ((with_reducible refine Blk.new ?_); first | rfl | (simp; done)) | (with_reducible refine Blk.later (by assumption) ?_) | (with_reducible refine Blk.alloc ?_) | (with_reducible refine Blk.drewN ?_) | (with_reducible refine Blk.drew ?_) | (with_reducible refine Blk.other ?_ (by first | omega | (simp; done) | (simp; omega))))))
  have k0 := kn0; clear kn0; obtain ⟨a0, b0⟩ := k0.read; have y0 := k0.lt
  have k1 := kn1; clear kn1; obtain ⟨a1, b1⟩ := k1.read; have y1 := k1.lt
  have hBw : Below w.heap.size w w1 := by (repeat' (first | (with_reducible exact Below.refl _ _) | (with_reducible assumption) | (with_reducible refine belowThru ?_ (by assumption)) | (with_reducible refine belowAlloc ?_) | (with_reducible refine Below.setCell ?_ (by first | omega | (simp; done) | (simp; omega)) _) | (with_reducible refine Below.drew ?_) | (with_reducible refine below_drewN ?_ _)))
  have hzw1 := hBw.size
  clear hb
  go_wp2_with fail
  refine (HW.out _ _ (by simp [go_sem])).mono ?_
  rintro e w2 ⟨rfl, hb⟩
  have kn0 : Blk w2 (w.heap.size) #[.int .i64 E, .int .i64 D, .int .i64 N] 33 := Blk.later hb (by (repeat' (first | (with_reducible assumption) | (with_reducible refine Blk.set2 ?_) | ((with_reducible refine Blk.new ?_); first | rfl | (simp; done)) | (with_reducible refine Blk.later (by assumption) ?_) | (with_reducible refine Blk.alloc ?_) | (with_reducible refine Blk.drewN ?_) | (with_reducible refine Blk.drew ?_) | (with_reducible refine Blk.other ?_ (by first | omega | (simp; done) | (simp; omega))))))
  have kn1 : Blk w2 (w.heap.size + 1) #[.int .i64 r] 3 := Blk.later hb (by (repeat' (first | (with_reducible assumption) | (with_reducible refine Blk.set2 ?_) | ((with_reducible refine Blk.new ?_); first | rfl | (simp; done)) | (with_reducible refine Blk.later (by assumption) ?_) | (with_reducible refine Blk.alloc ?_) | (with_reducible refine Blk.drewN ?_) | (with_reducible refine Blk.drew ?_) | (with_reducible refine Blk.other ?_ (by first | omega | (simp; done) | (simp; omega))))))
  clear k0 a0 b0 y0
  clear k1 a1 b1 y1
  have k0 := kn0; clear kn0; obtain ⟨a0, b0⟩ := k0.read; have y0 := k0.lt
  have k1 := kn1; clear kn1; obtain ⟨a1, b1⟩ := k1.read; have y1 := k1.lt
  replace hBw : Below w.heap.size w w2 := belowThru (by (repeat' (first | (with_reducible exact Below.refl _ _) | (with_reducible assumption) | (with_reducible refine belowThru ?_ (by assumption)) | (with_reducible refine belowAlloc ?_) | (with_reducible refine Below.setCell ?_ (by first | omega | (simp; done) | (simp; omega)) _) | (with_reducible refine Below.drew ?_) | (with_reducible refine below_drewN ?_ _)))) hb
  have hzw2 := hBw.size
  clear hb
  go_wp2_with fail
  refine (HS.out _ _ _ k0 k1).mono ?_
  rintro e w3 ⟨rfl, hb⟩
  have kn0 : Blk w3 (w.heap.size) #[.int .i64 E, .int .i64 D, .int .i64 N] 33 := Blk.later hb (by (repeat' (first | (with_reducible assumption) | (with_reducible refine Blk.set2 ?_) | ((with_reducible refine Blk.new ?_); first | rfl | (simp; done)) | (with_reducible refine Blk.later (by assumption) ?_) | (with_reducible refine Blk.alloc ?_) | (with_reducible refine Blk.drewN ?_) | (with_reducible refine Blk.drew ?_) | (with_reducible refine Blk.other ?_ (by first | omega | (simp; done) | (simp; omega))))))
  have kn1 : Blk w3 (w.heap.size + 1) #[.int .i64 r] 3 := Blk.later hb (by (repeat' (first | (with_reducible assumption) | (with_reducible refine Blk.set2 ?_) | ((with_reducible refine Blk.new ?_); first | rfl | (simp; done)) | (with_reducible refine Blk.later (by assumption) ?_) | (with_reducible refine Blk.alloc ?_) | (with_reducible refine Blk.drewN ?_) | (with_reducible refine Blk.drew ?_) | (with_reducible refine Blk.other ?_ (by first | omega | (simp; done) | (simp; omega))))))
  clear k0 a0 b0 y0
  clear k1 a1 b1 y1
  have k0 := kn0; clear kn0; obtain ⟨a0, b0⟩ := k0.read; have y0 := k0.lt
  have k1 := kn1; clear kn1; obtain ⟨a1, b1⟩ := k1.read; have y1 := k1.lt
  replace hBw : Below w.heap.size w w3 := belowThru (by (repeat' (first | (with_reducible exact Below.refl _ _) | (with_reducible assumption) | (with_reducible refine belowThru ?_ (by assumption)) | (with_reducible refine belowAlloc ?_) | (with_reducible refine Below.setCell ?_ (by first | omega | (simp; done) | (simp; omega)) _) | (with_reducible refine Below.drew ?_) | (with_reducible refine below_drewN ?_ _)))) hb
  have hzw3 := hBw.size
  clear hb
  go_wp2_with fail
  exact bodyPost_ret (v := .tuple #[.int .i64 m, .int .i64 0]) (by simp only [results, Try.results18]; go_simp) rfl ⟨rfl, by (repeat' (first | (with_reducible exact Below.refl _ _) | (with_reducible assumption) | (with_reducible refine belowThru ?_ (by assumption)) | (with_reducible refine belowAlloc ?_) | (with_reducible refine Below.setCell ?_ (by first | omega | (simp; done) | (simp; omega)) _) | (with_reducible refine Below.drew ?_) | (with_reducible refine below_drewN ?_ _)))⟩
theorem x_exp (w : World) : Calls Try.prog 18 #[.agg #[.int .i64 64, .int .i64 10, .int .i64 2], .int .i64 1000] w fun e w' => e = .returned (.tuple #[.int .i64 62, .int .i64 0]) ∧ Below w.heap.size w w' := by
  have HC : ∀ W, _ := fun W => light_any 64 10 2 W
  rw [if_pos (by decide)] at HC
  have HW : ∀ (B : Nat) (w : World), w.cell? ⟨B, 0, none⟩ = some (.int .i64 1000) → _ := jwithin_one 0 4095 1000
  rw [decide_eq_true (by decide)] at HW
  have em : lsN (fun n => decide ((255 : Int) < idl ((n : Int) + 1) 10 1000 + 2)) 256 = 62 := by kernel_rfl
  refine exp_2 64 10 2 1000 62 w rfl (Lib.hid HC) (Lib.hid HW) (Lib.hid fun Bl Br W h3 h4 => ?_)
  have := search_any 56 #[.pointer (some ⟨Bl, 0, none⟩), .pointer (some ⟨Br, 0, none⟩)] 256 62 (fun n => decide ((255 : Int) < idl ((n : Int) + 1) 10 1000 + 2)) W (fun _ _ => by kernel_rfl) (by omega) (by omega) (fun W1 i hB hi => exp_1 Bl Br 64 10 2 1000 i (idl ((i : Int) + 1) 10 1000) W1 (wr64 _ (by omega)) (wr64 _ (by unfold idl; omega)) (Blk.later hB h3) (Blk.later hB h4) (Lib.hid fun W2 => ideal_any ((i : Int) + 1) 10 0 1000 W2 (by omega) (by omega) (by omega)))
    (fun t ht => lsN_no (n := 256) (p := fun n => decide ((255 : Int) < idl ((n : Int) + 1) 10 1000 + 2)) (by rw [em]; exact ht)) (fun t h1 h2 => ?_)
  · exact this
  · have a := of_decide_eq_true (lsN_at (p := fun n => decide ((255 : Int) < idl ((n : Int) + 1) 10 1000 + 2)) (n := 256) (by rw [em]; omega))
    rw [em] at a
    refine decide_eq_true ?_
    have h6 : ((62 : Nat) : Int) + 1 ≤ (t : Int) + 1 := by omega
    have m1 : (((62 : Nat) : Int) + 1) * 1000 ≤ ((t : Int) + 1) * 1000 := by omega
    unfold idl at a ⊢
    omega
theorem x_c1 (b : Nat) (w : World) (h : KRow w (some ⟨b, 0, none⟩) 3 tab) :
    Calls Try.prog 15 #[.slice (some ⟨b, 0, none⟩) 3 3, .agg #[.int .i64 1, .int .i64 2]] w fun e w' => e = .returned (.tuple #[.agg #[.int .i64 1, .int .i64 1], .int .i64 0]) ∧ Below w.heap.size w w' := by
  have hx : okX tab 1 2 := ⟨okF_lit (q := mkR 1 2) (by unfold fits; decide) (by kernel_rfl) (by kernel_rfl), by decide, by decide, by decide⟩
  have hs : Seg tab 1 2 0 := ⟨by decide, fun t ht => absurd ht (by omega), by decide⟩
  have e0 := coE_ok okT_tab hx
  have e1 : coN tab 1 2 = 1 := by unfold coN; rw [if_pos e0, coQ_of okT_tab (by decide) hs]; kernel_rfl
  have e2 : coD tab 1 2 = 1 := by unfold coD; rw [if_pos e0, coQ_of okT_tab (by decide) hs]; kernel_rfl
  have k := cor_any tab 1 2 ⟨by decide, by decide⟩ (some ⟨b, 0, none⟩) 3 3 w (by decide) h
  unfold cofV at k
  rw [e0, e1, e2] at k
  exact k
theorem x_carg (X D : Int) (hX : M64 X) (hno : ¬ okX tab X D) (b : Nat) (w : World) (h : KRow w (some ⟨b, 0, none⟩) 3 tab) :
    Calls Try.prog 15 #[.slice (some ⟨b, 0, none⟩) 3 3, .agg #[.int .i64 X, .int .i64 D]] w fun e w' => e = .returned (.tuple #[.agg #[.int .i64 0, .int .i64 0], .int .i64 2]) ∧ Below w.heap.size w w' := by
  have e0 := coE_arg okT_tab hno
  have e1 : coN tab X D = 0 := by unfold coN; rw [e0, if_neg (by decide)]
  have e2 : coD tab X D = 0 := by unfold coD; rw [e0, if_neg (by decide)]
  have k := cor_any tab X D hX (some ⟨b, 0, none⟩) 3 3 w (by decide) h
  unfold cofV at k
  rw [e0, e1, e2] at k
  exact k
theorem x_c2 (b : Nat) (w : World) (h : KRow w (some ⟨b, 0, none⟩) 3 tab) : Calls Try.prog 15 #[.slice (some ⟨b, 0, none⟩) 3 3, .agg #[.int .i64 49, .int .i64 1]] w fun e w' => e = .returned (.tuple #[.agg #[.int .i64 0, .int .i64 0], .int .i64 2]) ∧ Below w.heap.size w w' :=
  x_carg 49 1 ⟨by decide, by decide⟩ (fun h => absurd h.2.2.2 (by decide)) b w h
theorem x_c3 (b : Nat) (w : World) (h : KRow w (some ⟨b, 0, none⟩) 3 tab) : Calls Try.prog 15 #[.slice (some ⟨b, 0, none⟩) 3 3, .agg #[.int .i64 1, .int .i64 2097152]] w fun e w' => e = .returned (.tuple #[.agg #[.int .i64 0, .int .i64 0], .int .i64 2]) ∧ Below w.heap.size w w' :=
  x_carg 1 2097152 ⟨by decide, by decide⟩ (fun h => absurd h.2.1 (by decide)) b w h
theorem x_k1 (b : Nat) (w : World) (h : Blk w b #[.int .i64 0, .int .i64 10, .int .i64 100, .int .i64 104, .int .i64 10, .int .i64 10, .int .i64 196, .int .i64 200] 45) :
    Calls Try.prog 21 #[.slice (some ⟨b, 0, none⟩) 1 2] w fun e w' => e = .returned (.tuple #[.agg #[.int .i64 0, .int .i64 0, .int .i64 0, .int .i64 0, .int .i64 0, .int .i64 0, .int .i64 0, .int .i64 0], .int .i64 43]) ∧ Below w.heap.size w w' := by
  have k := calib_any (some ⟨b, 0, none⟩) 1 2 (duo.take 1) w ((duo_row h).take (by decide))
  rw [show caE (duo.take 1) = 43 by kernel_rfl, show caV (duo.take 1) = #[.int .i64 0, .int .i64 0, .int .i64 0, .int .i64 0, .int .i64 0, .int .i64 0, .int .i64 0, .int .i64 0] by kernel_rfl] at k
  exact k
theorem x_k0 (w : World)  :
    Calls Try.prog 21 #[.slice none 0 0] w fun e w' => e = .returned (.tuple #[.agg #[.int .i64 0, .int .i64 0, .int .i64 0, .int .i64 0, .int .i64 0, .int .i64 0, .int .i64 0, .int .i64 0], .int .i64 43]) ∧ Below w.heap.size w w' := by
  have k := calib_any none 0 0 [] w ⟨rfl, fun h => absurd h (by decide)⟩
  rw [show caE ([] : List Vw) = 43 by kernel_rfl, show caV ([] : List Vw) = #[.int .i64 0, .int .i64 0, .int .i64 0, .int .i64 0, .int .i64 0, .int .i64 0, .int .i64 0, .int .i64 0] by kernel_rfl] at k
  exact k
theorem x_k3 (a : Option Addr) (c : Nat) (w : World) (h : VRow w a 3 tri) :
    Calls Try.prog 21 #[.slice a 3 c] w fun e w' => e = .returned (.tuple #[.agg #[.int .i64 0, .int .i64 0, .int .i64 0, .int .i64 0, .int .i64 0, .int .i64 0, .int .i64 0, .int .i64 0], .int .i64 6]) ∧ Below w.heap.size w w' := by
  have k := calib_any a 3 c tri w h
  rw [show caE (tri) = 6 by kernel_rfl, show caV (tri) = #[.int .i64 0, .int .i64 0, .int .i64 0, .int .i64 0, .int .i64 0, .int .i64 0, .int .i64 0, .int .i64 0] by kernel_rfl] at k
  exact k
theorem x_bad (b : Nat) (w : World) (h : Blk w b #[.int .i64 0, .int .i64 10, .int .i64 100, .int .i64 104, .int .i64 10, .int .i64 10, .int .i64 196, .int .i64 200] 45) : Calls Try.prog 22 #[.slice (some ⟨b, 0, none⟩) 2 2] w fun e w' => e = .returned (.tuple #[.int .i64 (-1), .int .i64 0]) ∧ Below w.heap.size w w' := by
  have k := bad_any (some ⟨b, 0, none⟩) 2 2 duo (by decide) w (duo_row h)
  rwa [show baV duo = -1 by kernel_rfl, show ckV duo = 0 by kernel_rfl] at k
theorem x_ran (b : Nat) (w : World) (h : Blk w b #[.int .i64 0, .int .i64 10, .int .i64 100, .int .i64 104, .int .i64 10, .int .i64 10, .int .i64 196, .int .i64 200] 45) : Calls Try.prog 19 #[.slice (some ⟨b, 0, none⟩) 2 2, .int .i64 1, .int .i64 2] w fun e w' => e = .returned (.tuple #[.agg #[.int .i64 148, .int .i64 1, .int .i64 152, .int .i64 1], .int .i64 0]) ∧ Below w.heap.size w w' := by
  have k := range_any (some ⟨b, 0, none⟩) 2 2 1 2 duo w (duo_row h)
  rw [show raE 1 2 duo = 0 by kernel_rfl, show raC 1 2 duo = #[.int .i64 148, .int .i64 1, .int .i64 152, .int .i64 1] by kernel_rfl] at k
  exact k
theorem x_dep (w : World) : Calls Try.prog 26 #[.agg #[.int .i64 1, .int .i64 1, .int .i64 1, .int .i64 1, .int .i64 0, .int .i64 1, .int .i64 0, .int .i64 1], .agg #[.int .i64 1, .int .i64 1, .int .i64 1, .int .i64 1, .int .i64 0, .int .i64 1, .int .i64 0, .int .i64 1], .int .i64 1, .agg #[.int .i64 1, .int .i64 1, .int .i64 1, .int .i64 1], .agg #[.int .i64 1, .int .i64 1, .int .i64 1, .int .i64 1]] w fun e w' => e = .returned (.tuple #[.agg #[.int .i64 0, .int .i64 0, .int .i64 0, .int .i64 0], .int .i64 6]) ∧ Below w.heap.size w w' := by
  have o1 := okP_one 1 (by omega); have o0 := okP_one 0 (by omega)
  have k := dep_q (base := 1) (by decide) o1 (by decide) o0 o1 (by decide) o0 o1 o1 w
  rw [show depO 1 (((1 : Int) : Rat), ((1 : Int) : Rat)) (((0 : Int) : Rat), ((0 : Int) : Rat)) (((1 : Int) : Rat), ((1 : Int) : Rat)) (((0 : Int) : Rat), ((0 : Int) : Rat)) (((1 : Int) : Rat), ((1 : Int) : Rat)) (((1 : Int) : Rat), ((1 : Int) : Rat)) = .error 6 by kernel_rfl] at k
  exact k
theorem x_tan (w : World) : Calls Try.prog 27 #[.agg #[.int .i64 0, .int .i64 1, .int .i64 1, .int .i64 1, .int .i64 0, .int .i64 1, .int .i64 0, .int .i64 1], .agg #[.int .i64 1, .int .i64 1, .int .i64 1, .int .i64 1]] w fun e w' => e = .returned (.tuple #[.agg #[.int .i64 0, .int .i64 0, .int .i64 0, .int .i64 0], .int .i64 8]) ∧ Below w.heap.size w w' := by
  have o0 := okP_one 0 (by omega); have o1 := okP_one 1 (by omega)
  have f01 : OkP (((0 : Int) : Rat), ((1 : Int) : Rat)) := ⟨o0.1, o1.1, by decide⟩
  exact tan_l 0 1 1 1 0 1 0 1 1 1 1 1 w (Lib.hid fun w => cks_q f01 w) (Lib.hid fun w => cks_q o0 w) (by decide)
theorem x_kn (b c : Nat) (w : World) (h : KRow w (some ⟨b, 0, none⟩) 3 tab) : Calls Try.prog 28 #[.slice (some ⟨b, 0, none⟩) 1 c] w fun e w' => e = .returned (.int .i64 40) ∧ Below w.heap.size w w' := by
  refine checkKnots_no (ks := [(0, 0)]) (by unfold maxLen; omega) (fun h => absurd h.1.1 (by decide)) w ⟨rfl, fun _ => ?_⟩
  obtain ⟨b', off, e, hb, hc⟩ := h.2 (by decide)
  cases e
  refine ⟨b, 0, rfl, hb, fun j hj => ?_⟩
  obtain rfl : j = 0 := by omega
  exact hc 0 (by decide)
theorem x_li (w : World) : Calls Try.prog 29 #[.agg #[.int .i64 0, .int .i64 0, .int .i64 0]] w fun e w' => e = .returned (.int .i64 41) ∧ Below w.heap.size w w' := by
  have k := light_any 0 0 0 w
  rwa [if_neg (by decide)] at k
theorem x_vi (b : Nat) (w : World) (h : Blk w b #[.int .i64 0, .int .i64 0, .int .i64 0, .int .i64 0] 45) : Calls Try.prog 30 #[.slice (some ⟨b, 0, none⟩) 1 1] w fun e w' => e = .returned (.int .i64 42) ∧ Below w.heap.size w w' := by
  obtain ⟨a0, c0, e0, hr, -⟩ := (OwnV.one h (Nat.zero_le b)).row
  cases e0
  have k := views_any (some ⟨b, 0, none⟩) 1 1 [(0, 0, 0, 0)] w hr
  rwa [show ckV [(0, 0, 0, 0)] = 42 by kernel_rfl] at k
theorem x_mk : ∃ C : Array Value, ∀ w : World, (Instr.makeSlice 38 (.int .i64 13) (.int .i64 13)).run Try.prog w = .ok (.slice (some ⟨w.heap.size, 0, none⟩) 13 13) (w.alloc (.cells C 45)) := by
  obtain ⟨i0, hi, hz0, hz1, hz2⟩ := info_parts info_view
  exact ⟨_, fun w => run_makeSlice (P := Try.prog) w 38 45 i0 _ Try.underlying38 hi hz0 .i64 .i64 13 13 (by decide) (by decide) (by rw [hz1]; decide) (by rw [hz2]; decide) (by decide)⟩
theorem x_gr (k : Nat) (hk : k < 6) : ∀ {w : World} {b : Nat} {ty : TypeId}, Blk w b #[.int .i64 0, .int .i64 1, .int .i64 3, .int .i64 2, .int .i64 6, .int .i64 7] ty → w.cell? ⟨b, k, none⟩ = some (.int .i64 (grayN k)) := by
  intro w b ty h
  rw [h.cells]
  obtain rfl | rfl | rfl | rfl | rfl | rfl : k = 0 ∨ k = 1 ∨ k = 2 ∨ k = 3 ∨ k = 4 ∨ k = 5 := by omega
  all_goals rfl
end Go.Proofs.Ytbdcmdofmokoeaa
