/-
  The law ImageNearest: the walk.
-/
import Derived.Test.YtghmjdmiaajbnaaM11
import Derived.Test.YtghmjdmiaajbnaaM17
namespace Go.Proofs.Ytghmjdmiaajbnaa
open Go.RowKit
set_option linter.unusedVariables false
set_option linter.unusedSimpArgs false

theorem distance_no (W H : Int) (a : Option Addr) (n c : Nat) (zs : List Int) (hI : ¬ okI W H zs) (hn : n ≤ maxLen) (w : World) (hR : Row w a n (iv zs)) :
    Calls Try.prog 26 #[.agg #[.int .i64 W, .int .i64 H, .slice a n c]] w (RetI 0 0 [] 20 w) := by
  have HK := Lib.hid (icheck_no hI a n c hn)
  have HR := Lib.hid hR
  clear hR
  go_enter Try.func26, Try.ntmps26
  go_wp2_with (go_at_call 51; (with_reducible refine (HK.out _ (HR.out.later (by (repeat' (first | (with_reducible exact Below.refl _ _) | (with_reducible assumption) | (with_reducible refine belowThru ?_ (by assumption)) | (with_reducible refine belowAlloc ?_) | (with_reducible refine Below.setCell ?_ (by first | omega | (simp; done) | (simp; omega)) _) | (with_reducible refine Below.drew ?_) | (with_reducible refine below_drewN ?_ _)))))).mono ?_); rintro e w1 ⟨rfl, hb⟩; (first | ((with_reducible have k0 := Blk.later hb (Blk.alloc (Blk.new rfl))); (with_reducible have k1 := Blk.later hb (Blk.new rfl)); simp only [World.size_alloc] at k1; obtain ⟨a0, b0⟩ := k0.read; have zl := k0.lt; obtain ⟨a1, b1⟩ := k1.read; have zl := k1.lt) | ((try (have zk := k0.lt; (first | ((with_reducible refine Blk.keepG hb k0 (fun h => ?_) ?_); (focus ((repeat' (first | (with_reducible assumption) | ((with_reducible refine Blk.new ?_); first | rfl | (simp; done)) | (with_reducible refine Blk.later (by assumption) ?_) | (with_reducible refine Blk.alloc ?_) | (with_reducible refine Blk.drewN ?_) | (with_reducible refine Blk.drew ?_) | (with_reducible refine Blk.other ?_ (by first | omega | (simp; done) | (simp; omega))))); done)); clear k0; intro k0) | (with_reducible replace k0 := Blk.later hb (Blk.set (Blk.set k0))) | (with_reducible replace k0 := Blk.later hb (Blk.set k0))); clear a0 b0; obtain ⟨a0, b0⟩ := k0.read; have zl := k0.lt)); (try (have zk := k1.lt; (first | ((with_reducible refine Blk.keepG hb k1 (fun h => ?_) ?_); (focus ((repeat' (first | (with_reducible assumption) | ((with_reducible refine Blk.new ?_); first | rfl | (simp; done)) | (with_reducible refine Blk.later (by assumption) ?_) | (with_reducible refine Blk.alloc ?_) | (with_reducible refine Blk.drewN ?_) | (with_reducible refine Blk.drew ?_) | (with_reducible refine Blk.other ?_ (by first | omega | (simp; done) | (simp; omega))))); done)); clear k1; intro k1) | (with_reducible replace k1 := Blk.later hb (Blk.set (Blk.set k1))) | (with_reducible replace k1 := Blk.later hb (Blk.set k1))); clear a1 b1; obtain ⟨a1, b1⟩ := k1.read; have zl := k1.lt)))))
  exact bodyPost_ret (v := .tuple #[.agg #[.int .i64 0, .int .i64 0, .slice none 0 0], .int .i64 20]) (by simp only [results, Try.results26]; go_simp) rfl (RetI.none (by (repeat' (first | (with_reducible exact Below.refl _ _) | (with_reducible assumption) | (with_reducible refine belowThru ?_ (by assumption)) | (with_reducible refine belowAlloc ?_) | (with_reducible refine Below.setCell ?_ (by first | omega | (simp; done) | (simp; omega)) _) | (with_reducible refine Below.drew ?_) | (with_reducible refine below_drewN ?_ _)))))
set_option maxRecDepth 100000 in
set_option maxHeartbeats 4000000 in
theorem nearest_no (W H : Int) (a : Option Addr) (n c : Nat) (zs : List Int) (hn : n ≤ maxLen) (w : World) (hR : Row w a n (iv zs)) (hI : ¬ okI W H zs) :
    Calls Try.prog 10 #[.agg #[.int .i64 W, .int .i64 H, .slice a n c]] w fun e w' => e = .returned (.bool true) ∧ Below w.heap.size w w' := by
  have HR := Lib.hid hR
  clear hR
  go_enter Try.func10, Try.ntmps10
  go_wp2_with fail
  refine (alive_true _).mono ?_
  rintro e w1 ⟨rfl, hb⟩
  have kn0 : Blk w1 (w.heap.size) #[.int .i64 W, .int .i64 H, .slice a n c] 24 := Blk.later hb (by first | ((repeat' (first | (with_reducible assumption) | ((with_reducible refine Blk.new ?_); first | rfl | (simp; done)) | (with_reducible refine Blk.later (by assumption) ?_) | (with_reducible refine Blk.alloc ?_) | (with_reducible refine Blk.drewN ?_) | (with_reducible refine Blk.drew ?_) | (with_reducible refine Blk.other ?_ (by first | omega | (simp; done) | (simp; omega))))); done) | exact Blk.alloc (Blk.new (by simp)) | exact Blk.set (Blk.set (Blk.set (by (repeat' (first | (with_reducible assumption) | ((with_reducible refine Blk.new ?_); first | rfl | (simp; done)) | (with_reducible refine Blk.later (by assumption) ?_) | (with_reducible refine Blk.alloc ?_) | (with_reducible refine Blk.drewN ?_) | (with_reducible refine Blk.drew ?_) | (with_reducible refine Blk.other ?_ (by first | omega | (simp; done) | (simp; omega)))))))) | exact Blk.alloc (Blk.set (Blk.set (Blk.set (by (repeat' (first | (with_reducible assumption) | ((with_reducible refine Blk.new ?_); first | rfl | (simp; done)) | (with_reducible refine Blk.later (by assumption) ?_) | (with_reducible refine Blk.alloc ?_) | (with_reducible refine Blk.drewN ?_) | (with_reducible refine Blk.drew ?_) | (with_reducible refine Blk.other ?_ (by first | omega | (simp; done) | (simp; omega))))))))))
  have k0 := kn0; clear kn0; obtain ⟨a0, b0⟩ := k0.read; have yk0 := k0.lt
  have hBw : Below w.heap.size w w1 := by (repeat' (first | (with_reducible exact Below.refl _ _) | (with_reducible assumption) | (with_reducible refine belowThru ?_ (by assumption)) | (with_reducible refine belowAlloc ?_) | (with_reducible refine Below.setCell ?_ (by first | omega | (simp; done) | (simp; omega)) _) | (with_reducible refine Below.drew ?_) | (with_reducible refine below_drewN ?_ _)))
  have hzw1 := hBw.size
  clear hb
  go_wp2_with fail
  refine (distance_no W H a n c zs hI hn _ (HR.out.later (by (repeat' (first | (with_reducible exact Below.refl _ _) | (with_reducible assumption) | (with_reducible refine belowThru ?_ (by assumption)) | (with_reducible refine belowAlloc ?_) | (with_reducible refine Below.setCell ?_ (by first | omega | (simp; done) | (simp; omega)) _) | (with_reducible refine Below.drew ?_) | (with_reducible refine below_drewN ?_ _)))))).mono ?_
  rintro e w2 ⟨ax, nx, cx, rfl, hN, hb⟩
  have kn0 : Blk w2 (w.heap.size) #[.int .i64 W, .int .i64 H, .slice a n c] 24 := Blk.later hb (by (repeat' (first | (with_reducible assumption) | ((with_reducible refine Blk.new ?_); first | rfl | (simp; done)) | (with_reducible refine Blk.later (by assumption) ?_) | (with_reducible refine Blk.alloc ?_) | (with_reducible refine Blk.drewN ?_) | (with_reducible refine Blk.drew ?_) | (with_reducible refine Blk.other ?_ (by first | omega | (simp; done) | (simp; omega))))))
  clear k0 a0 b0
  have k0 := kn0; clear kn0; obtain ⟨a0, b0⟩ := k0.read; have yk0 := k0.lt
  replace hBw : Below w.heap.size w w2 := belowThru (by (repeat' (first | (with_reducible exact Below.refl _ _) | (with_reducible assumption) | (with_reducible refine belowThru ?_ (by assumption)) | (with_reducible refine belowAlloc ?_) | (with_reducible refine Below.setCell ?_ (by first | omega | (simp; done) | (simp; omega)) _) | (with_reducible refine Below.drew ?_) | (with_reducible refine below_drewN ?_ _)))) hb
  have hzw2 := hBw.size
  clear hb
  have Rx := Lib.hid hN.row
  have hlx : Hid (nx = (([] : List Int)).length) := hN.1.symm
  clear hN
  go_wp2_with fail
  refine (rvalid_no hI a n c hn _ (HR.out.later (by (repeat' (first | (with_reducible exact Below.refl _ _) | (with_reducible assumption) | (with_reducible refine belowThru ?_ (by assumption)) | (with_reducible refine belowAlloc ?_) | (with_reducible refine Below.setCell ?_ (by first | omega | (simp; done) | (simp; omega)) _) | (with_reducible refine Below.drew ?_) | (with_reducible refine below_drewN ?_ _)))))).mono ?_
  rintro e w3 ⟨rfl, hb⟩
  have kn0 : Blk w3 (w.heap.size) #[.int .i64 W, .int .i64 H, .slice a n c] 24 := Blk.later hb (by (repeat' (first | (with_reducible assumption) | ((with_reducible refine Blk.new ?_); first | rfl | (simp; done)) | (with_reducible refine Blk.later (by assumption) ?_) | (with_reducible refine Blk.alloc ?_) | (with_reducible refine Blk.drewN ?_) | (with_reducible refine Blk.drew ?_) | (with_reducible refine Blk.other ?_ (by first | omega | (simp; done) | (simp; omega))))))
  have kn1 : Blk w3 (w2.heap.size) #[.int .i64 0, .int .i64 0, .slice ax nx cx] 24 := Blk.later hb (by first | ((repeat' (first | (with_reducible assumption) | ((with_reducible refine Blk.new ?_); first | rfl | (simp; done)) | (with_reducible refine Blk.later (by assumption) ?_) | (with_reducible refine Blk.alloc ?_) | (with_reducible refine Blk.drewN ?_) | (with_reducible refine Blk.drew ?_) | (with_reducible refine Blk.other ?_ (by first | omega | (simp; done) | (simp; omega))))); done) | exact Blk.alloc (Blk.new (by simp)) | exact Blk.set (Blk.set (Blk.set (by (repeat' (first | (with_reducible assumption) | ((with_reducible refine Blk.new ?_); first | rfl | (simp; done)) | (with_reducible refine Blk.later (by assumption) ?_) | (with_reducible refine Blk.alloc ?_) | (with_reducible refine Blk.drewN ?_) | (with_reducible refine Blk.drew ?_) | (with_reducible refine Blk.other ?_ (by first | omega | (simp; done) | (simp; omega)))))))) | exact Blk.alloc (Blk.set (Blk.set (Blk.set (by (repeat' (first | (with_reducible assumption) | ((with_reducible refine Blk.new ?_); first | rfl | (simp; done)) | (with_reducible refine Blk.later (by assumption) ?_) | (with_reducible refine Blk.alloc ?_) | (with_reducible refine Blk.drewN ?_) | (with_reducible refine Blk.drew ?_) | (with_reducible refine Blk.other ?_ (by first | omega | (simp; done) | (simp; omega))))))))))
  clear k0 a0 b0
  have k0 := kn0; clear kn0; obtain ⟨a0, b0⟩ := k0.read; have yk0 := k0.lt
  have k1 := kn1; clear kn1; obtain ⟨a1, b1⟩ := k1.read; have yk1 := k1.lt
  have Rxn := Lib.hid (Rx.out.later (w' := w3) (by (repeat' (first | (with_reducible exact Below.refl _ _) | (with_reducible assumption) | (with_reducible refine belowThru ?_ (by assumption)) | (with_reducible refine belowAlloc ?_) | (with_reducible refine Below.setCell ?_ (by first | omega | (simp; done) | (simp; omega)) _) | (with_reducible refine Below.drew ?_) | (with_reducible refine below_drewN ?_ _))))); clear Rx; have Rx := Rxn; clear Rxn
  replace hBw : Below w.heap.size w w3 := belowThru (by (repeat' (first | (with_reducible exact Below.refl _ _) | (with_reducible assumption) | (with_reducible refine belowThru ?_ (by assumption)) | (with_reducible refine belowAlloc ?_) | (with_reducible refine Below.setCell ?_ (by first | omega | (simp; done) | (simp; omega)) _) | (with_reducible refine Below.drew ?_) | (with_reducible refine below_drewN ?_ _)))) hb
  have hzw3 := hBw.size
  clear hb
  go_wp2_with fail
  go_ret
  exact ⟨rfl, by (repeat' (first | (with_reducible exact Below.refl _ _) | (with_reducible assumption) | (with_reducible refine belowThru ?_ (by assumption)) | (with_reducible refine belowAlloc ?_) | (with_reducible refine Below.setCell ?_ (by first | omega | (simp; done) | (simp; omega)) _) | (with_reducible refine Below.drew ?_) | (with_reducible refine below_drewN ?_ _)))⟩
set_option maxRecDepth 100000 in
set_option maxHeartbeats 4000000 in
theorem nearest_yes (W H : Int) (a : Option Addr) (n c : Nat) (zs : List Int) (hn : n ≤ maxLen) (w : World) (hR : Row w a n (iv zs)) (hI : okI W H zs) :
    Calls Try.prog 10 #[.agg #[.int .i64 W, .int .i64 H, .slice a n c]] w fun e w' => e = .returned (.bool true) ∧ Below w.heap.size w w' := by
  have hl : zs.length = n := by have := hR.1; rwa [iv_length] at this
  obtain ⟨D, hD⟩ : ∃ D, dst W H zs n = D := ⟨_, rfl⟩
  obtain ⟨ZD, hZD⟩ : ∃ Z, made n D = Z := ⟨_, rfl⟩
  have lD : Hid (ZD.length = n) := by show _ = _; rw [← hZD]; exact made_length _ _
  have hdb : ∀ k : Nat, 0 ≤ D k ∧ D k ≤ W + H := fun k => by rw [← hD]; exact dst_bd hI n k
  have hsd := hI.1
  have CD : Hid (∀ (a : Option Addr) (c : Nat) (w : World), Row w a n (iv zs) → Calls Try.prog 26 #[.agg #[.int .i64 W, .int .i64 H, .slice a n c]] w (RetI W H ZD 0 w)) := fun a c w hR => by
    have q := distance_ok W H a n c zs hI hn w hR
    have e := made_in n D (fun k _ => by have := hdb k; unfold okS at hsd; unfold okV; omega)
    rw [hZD, ← hD] at e
    rw [← e]; exact q
  have GD : Hid (∀ k : Nat, k < n → ZD[k]? = some (D k)) := fun k hk => by rw [← hZD]; exact made_get hk
  have GB := Lib.hid hdb
  have GN : Hid (anyZ zs n = false → ∀ k, D k = W + H) := fun h k => by rw [← hD]; exact dst_none (fun q hq hz => by have := (anyZ_iff zs n).2 ⟨q, hq, hz⟩; rw [h] at this; cases this)
  have GZ : Hid (∀ k, k < n → (D k = 0 ↔ zs[k]?.getD 0 = 0)) := fun k hk => by rw [← hD]; exact dst_zero hI hl hk
  have GL : Hid (∀ k, k < n → ∀ j : Nat, j < (nb4 W H k).length → ∃ q : Nat, (nb4 W H k)[j]? = some (q : Int) ∧ q < n ∧ D k - D q ≤ 1 ∧ D q - D k ≤ 1) := fun k hk j hj => by
    obtain ⟨q, e, hq, hs⟩ := (nb_mem hI hl hk _).1 (List.getElem_mem hj)
    have := dst_side (n := n) hI hs
    rw [hD] at this
    exact ⟨q, by rw [List.getElem?_eq_getElem hj, e], hq, this.1, this.2⟩
  have GF : Hid (anyZ zs n = true → ∀ k, k < n → D k = 0 ∨ ∃ q : Nat, (q : Int) ∈ nb4 W H k ∧ D k - D q = 1) := fun h k hk => by
    by_cases h0 : D k = 0
    · exact .inl h0
    · right
      rw [← hD] at h0 ⊢
      exact nb_near hI hl hk ((anyZ_iff zs n).1 h) h0
  have CN : Hid (∀ k : Nat, k < n → ∀ (a : Option Addr) (c : Nat) (w : World), Calls Try.prog 47 #[.agg #[.int .i64 W, .int .i64 H, .slice a n c], .int .i64 (k : Int)] w (RetS (nb4 W H k) w)) := fun k hk a c w => neighbours_any W H a n c k zs hI hk hl w
  have HI := Lib.hid hI; have HN := Lib.hid hn
  have hn2 : n ≤ 256 := by have := okS_mul hI.1.1 hI.1.2; have := hI.2.1; omega
  obtain ⟨⟨w0, w1⟩, h0, h1⟩ := hsd
  clear hD hZD hI hn hl hdb
  have HR := Lib.hid hR
  clear hR
  go_enter Try.func10, Try.ntmps10
  go_wp2_with fail
  refine (alive_true _).mono ?_
  rintro e w1 ⟨rfl, hb⟩
  have kn0 : Blk w1 (w.heap.size) #[.int .i64 W, .int .i64 H, .slice a n c] 24 := Blk.later hb (by first | ((repeat' (first | (with_reducible assumption) | ((with_reducible refine Blk.new ?_); first | rfl | (simp; done)) | (with_reducible refine Blk.later (by assumption) ?_) | (with_reducible refine Blk.alloc ?_) | (with_reducible refine Blk.drewN ?_) | (with_reducible refine Blk.drew ?_) | (with_reducible refine Blk.other ?_ (by first | omega | (simp; done) | (simp; omega))))); done) | exact Blk.alloc (Blk.new (by simp)) | exact Blk.set (Blk.set (Blk.set (by (repeat' (first | (with_reducible assumption) | ((with_reducible refine Blk.new ?_); first | rfl | (simp; done)) | (with_reducible refine Blk.later (by assumption) ?_) | (with_reducible refine Blk.alloc ?_) | (with_reducible refine Blk.drewN ?_) | (with_reducible refine Blk.drew ?_) | (with_reducible refine Blk.other ?_ (by first | omega | (simp; done) | (simp; omega)))))))) | exact Blk.alloc (Blk.set (Blk.set (Blk.set (by (repeat' (first | (with_reducible assumption) | ((with_reducible refine Blk.new ?_); first | rfl | (simp; done)) | (with_reducible refine Blk.later (by assumption) ?_) | (with_reducible refine Blk.alloc ?_) | (with_reducible refine Blk.drewN ?_) | (with_reducible refine Blk.drew ?_) | (with_reducible refine Blk.other ?_ (by first | omega | (simp; done) | (simp; omega))))))))))
  have k0 := kn0; clear kn0; obtain ⟨a0, b0⟩ := k0.read; have yk0 := k0.lt
  have hBw : Below w.heap.size w w1 := by (repeat' (first | (with_reducible exact Below.refl _ _) | (with_reducible assumption) | (with_reducible refine belowThru ?_ (by assumption)) | (with_reducible refine belowAlloc ?_) | (with_reducible refine Below.setCell ?_ (by first | omega | (simp; done) | (simp; omega)) _) | (with_reducible refine Below.drew ?_) | (with_reducible refine below_drewN ?_ _)))
  have hzw1 := hBw.size
  clear hb
  go_wp2_with fail
  refine (CD.out _ _ _ (HR.out.later (by (repeat' (first | (with_reducible exact Below.refl _ _) | (with_reducible assumption) | (with_reducible refine belowThru ?_ (by assumption)) | (with_reducible refine belowAlloc ?_) | (with_reducible refine Below.setCell ?_ (by first | omega | (simp; done) | (simp; omega)) _) | (with_reducible refine Below.drew ?_) | (with_reducible refine below_drewN ?_ _)))))).mono ?_
  rintro e w2 ⟨ax, nx, cx, rfl, hN, hb⟩
  have kn0 : Blk w2 (w.heap.size) #[.int .i64 W, .int .i64 H, .slice a n c] 24 := Blk.later hb (by (repeat' (first | (with_reducible assumption) | ((with_reducible refine Blk.new ?_); first | rfl | (simp; done)) | (with_reducible refine Blk.later (by assumption) ?_) | (with_reducible refine Blk.alloc ?_) | (with_reducible refine Blk.drewN ?_) | (with_reducible refine Blk.drew ?_) | (with_reducible refine Blk.other ?_ (by first | omega | (simp; done) | (simp; omega))))))
  clear k0 a0 b0
  have k0 := kn0; clear kn0; obtain ⟨a0, b0⟩ := k0.read; have yk0 := k0.lt
  replace hBw : Below w.heap.size w w2 := belowThru (by (repeat' (first | (with_reducible exact Below.refl _ _) | (with_reducible assumption) | (with_reducible refine belowThru ?_ (by assumption)) | (with_reducible refine belowAlloc ?_) | (with_reducible refine Below.setCell ?_ (by first | omega | (simp; done) | (simp; omega)) _) | (with_reducible refine Below.drew ?_) | (with_reducible refine below_drewN ?_ _)))) hb
  have hzw2 := hBw.size
  clear hb
  have Rx := Lib.hid hN.row
  have hlx : Hid (nx = (ZD).length) := hN.1.symm
  obtain rfl : n = nx := (hlx.out.trans lD.out).symm
  clear hN
  go_wp2_with fail
  refine (rvalid_ok HI.out a _ c HN.out _ (HR.out.later (by (repeat' (first | (with_reducible exact Below.refl _ _) | (with_reducible assumption) | (with_reducible refine belowThru ?_ (by assumption)) | (with_reducible refine belowAlloc ?_) | (with_reducible refine Below.setCell ?_ (by first | omega | (simp; done) | (simp; omega)) _) | (with_reducible refine Below.drew ?_) | (with_reducible refine below_drewN ?_ _)))))).mono ?_
  rintro e w3 ⟨rfl, hb⟩
  have kn0 : Blk w3 (w.heap.size) #[.int .i64 W, .int .i64 H, .slice a n c] 24 := Blk.later hb (by (repeat' (first | (with_reducible assumption) | ((with_reducible refine Blk.new ?_); first | rfl | (simp; done)) | (with_reducible refine Blk.later (by assumption) ?_) | (with_reducible refine Blk.alloc ?_) | (with_reducible refine Blk.drewN ?_) | (with_reducible refine Blk.drew ?_) | (with_reducible refine Blk.other ?_ (by first | omega | (simp; done) | (simp; omega))))))
  have kn1 : Blk w3 (w2.heap.size) #[.int .i64 W, .int .i64 H, .slice ax n cx] 24 := Blk.later hb (by first | ((repeat' (first | (with_reducible assumption) | ((with_reducible refine Blk.new ?_); first | rfl | (simp; done)) | (with_reducible refine Blk.later (by assumption) ?_) | (with_reducible refine Blk.alloc ?_) | (with_reducible refine Blk.drewN ?_) | (with_reducible refine Blk.drew ?_) | (with_reducible refine Blk.other ?_ (by first | omega | (simp; done) | (simp; omega))))); done) | exact Blk.alloc (Blk.new (by simp)) | exact Blk.set (Blk.set (Blk.set (by (repeat' (first | (with_reducible assumption) | ((with_reducible refine Blk.new ?_); first | rfl | (simp; done)) | (with_reducible refine Blk.later (by assumption) ?_) | (with_reducible refine Blk.alloc ?_) | (with_reducible refine Blk.drewN ?_) | (with_reducible refine Blk.drew ?_) | (with_reducible refine Blk.other ?_ (by first | omega | (simp; done) | (simp; omega)))))))) | exact Blk.alloc (Blk.set (Blk.set (Blk.set (by (repeat' (first | (with_reducible assumption) | ((with_reducible refine Blk.new ?_); first | rfl | (simp; done)) | (with_reducible refine Blk.later (by assumption) ?_) | (with_reducible refine Blk.alloc ?_) | (with_reducible refine Blk.drewN ?_) | (with_reducible refine Blk.drew ?_) | (with_reducible refine Blk.other ?_ (by first | omega | (simp; done) | (simp; omega))))))))))
  clear k0 a0 b0
  have k0 := kn0; clear kn0; obtain ⟨a0, b0⟩ := k0.read; have yk0 := k0.lt
  have k1 := kn1; clear kn1; obtain ⟨a1, b1⟩ := k1.read; have yk1 := k1.lt
  have Rxn := Lib.hid (Rx.out.later (w' := w3) (by (repeat' (first | (with_reducible exact Below.refl _ _) | (with_reducible assumption) | (with_reducible refine belowThru ?_ (by assumption)) | (with_reducible refine belowAlloc ?_) | (with_reducible refine Below.setCell ?_ (by first | omega | (simp; done) | (simp; omega)) _) | (with_reducible refine Below.drew ?_) | (with_reducible refine below_drewN ?_ _))))); clear Rx; have Rx := Rxn; clear Rxn
  replace hBw : Below w.heap.size w w3 := belowThru (by (repeat' (first | (with_reducible exact Below.refl _ _) | (with_reducible assumption) | (with_reducible refine belowThru ?_ (by assumption)) | (with_reducible refine belowAlloc ?_) | (with_reducible refine Below.setCell ?_ (by first | omega | (simp; done) | (simp; omega)) _) | (with_reducible refine Below.drew ?_) | (with_reducible refine below_drewN ?_ _)))) hb
  have hzw3 := hBw.size
  clear hb
  go_wp2_with fail
  obtain ⟨Wp, rfl⟩ : ∃ Wp, Wp = w3 := ⟨_, rfl⟩
  go_loop [6, 7] (fun s6 s7 => ∃ k : Nat, k ≤ n ∧ s7 = .int .i64 k ∧ s6 = .bool (anyZ zs k)) (fun _ s7 => n - (intOf s7).toNat)
  case atStart => exact ⟨0, Nat.zero_le _, rfl, rfl⟩
  case round =>
    obtain ⟨k, hk, rfl, rfl⟩ := hrel
    by_cases hlt : k < n
    · obtain ⟨bm, om, z, rfl, hbm, hz, hc⟩ := HR.out.int hlt
      have hc := cell_later hBw hc
      have p0 : (0 : Int) ≤ (k : Int) := by omega
      have p1 : (k : Int) < (n : Int) := by omega
      have HA : Hid (anyZ zs (k + 1) = (anyZ zs k || z == 0)) := by show (anyZ zs k || zs[k]?.getD 0 == 0) = _; rw [hz]; rfl
      obtain ⟨b, hb⟩ : ∃ b, anyZ zs k = b := ⟨_, rfl⟩
      rw [hb] at HA ⊢
      clear hb hz
      cases b
      · go_wp2
        go_round
        case rel => exact ⟨k + 1, hlt, by go_num, by rw [HA.out]; first | rfl | simp⟩
        case measure => simp [intOf]; omega
      · go_wp2
        go_round
        case rel => exact ⟨k + 1, hlt, by go_num, by rw [HA.out]; first | rfl | simp⟩
        case measure => simp [intOf]; omega
    · have he : k = n := by omega
      subst he
      obtain ⟨b, hb⟩ : ∃ b, anyZ zs k = b := ⟨_, rfl⟩
      rw [hb] at GN GF ⊢
      clear hb hk hlt
      go_wp2_with fail
      go_loopw [8, 9, 10, 11, 12] (fun s8 _ _ _ _ wr => ∃ i : Nat, i ≤ k ∧ s8 = .int .i64 i ∧ Below Wp.heap.size Wp wr) (fun s8 _ _ _ _ _ => k - (intOf s8).toNat)
      case atStart => exact ⟨0, Nat.zero_le _, rfl, Below.refl _ _⟩
      case round =>
        clear a0 b0 a1 b1
        obtain ⟨i, hi, rfl, hB⟩ := hrel
        have q0 := Blk.later hB k0; have q1 := Blk.later hB k1
        obtain ⟨a0, b0⟩ := q0.read; obtain ⟨a1, b1⟩ := q1.read
        have zq0 := q0.lt; have zq1 := q1.lt
        have hBR := belowThru hBw hB
        have hzR := hBR.size
        by_cases hlt : i < k
        · obtain ⟨bd, od, zd, rfl, hbd, hzd, hcd⟩ := Rx.out.int hlt
          have hcd := cell_later hB hcd
          have hdi := GD.out i hlt
          rw [hzd] at hdi
          have hv : zd = D i := Option.some.inj hdi
          have p0 : (0 : Int) ≤ (i : Int) := by omega
          have p1 : (i : Int) < (k : Int) := by omega
          have hbnd := GB.out i
          rw [← hv] at hbnd
          obtain ⟨d0, d1⟩ := hbnd
          cases b
          · have hwh := GN.out rfl i
            rw [← hv] at hwh
            subst hwh
            have ewh : IntKind.i64.wrap (W + H) = W + H := IntWalk.i64_in _ (by omega)
            have HV := Lib.hid hv
            clear hv hdi hzd
            go_wp2_with fail
            go_quiet (fail)
            go_wp2
            go_roundw
            case rel => exact ⟨i + 1, hlt, by go_num, by (repeat' (first | (with_reducible exact Below.refl _ _) | (with_reducible assumption) | (with_reducible refine belowThru ?_ (by assumption)) | (with_reducible refine belowAlloc ?_) | (with_reducible refine Below.setCell ?_ (by first | omega | (simp; done) | (simp; omega)) _) | (with_reducible refine Below.drew ?_) | (with_reducible refine below_drewN ?_ _)))⟩
            case measure => simp [intOf]; omega
          · obtain ⟨bm, om, zm, rfl, hbm, hzm, hcm⟩ := HR.out.int hlt
            have hcm := cell_later hBR hcm
            have hzz := GZ.out i hlt
            rw [← hv, hzm, Option.getD_some] at hzz
            have hnd : decide (zd < 0) = false := decide_eq_false (by omega)
            obtain ⟨β, hβ1, hβ2⟩ : ∃ β, (zd == 0) = β ∧ (zm == 0) = β := by
              by_cases h : zd = 0
              · exact ⟨true, by simpa using h, by simpa using hzz.1 h⟩
              · exact ⟨false, by simpa using h, by simpa using fun e => h (hzz.2 e)⟩
            have HV := Lib.hid hv
            have HNB : Hid (nearB zd (fun j => D ((nb4 W H i)[j]?.getD 0).toNat) (nb4 W H i).length = true) := nearB_of _ _ _ (by
              rcases GF.out rfl i hlt with h | ⟨q, hq, h⟩
              · exact .inl (by rw [hv]; exact h)
              · obtain ⟨j, hj, e⟩ := List.getElem_of_mem hq
                refine .inr ⟨j, hj, ?_⟩
                show zd - D ((nb4 W H i)[j]?.getD 0).toNat = 1
                rw [List.getElem?_eq_getElem hj, e, Option.getD_some, Int.toNat_natCast, hv]
                exact h)
            have HN0 : Hid (nearB zd (fun j => D ((nb4 W H i)[j]?.getD 0).toNat) 0 = β) := hβ1
            have GLI := Lib.hid (GL.out i hlt)
            have CNI := Lib.hid (CN.out i hlt)
            have hl4 := nb4_len W H i
            obtain ⟨L, hL⟩ : ∃ L, nb4 W H i = L := ⟨_, rfl⟩
            rw [hL] at HNB HN0 GLI CNI hl4
            obtain ⟨m, hm⟩ : ∃ m, L.length = m := ⟨_, rfl⟩
            have HLM := Lib.hid hm
            rw [hm] at HNB GLI hl4
            have CNJ : Hid (∀ (a : Option Addr) (c : Nat) (w : World), Calls Try.prog 47 #[.agg #[.int .i64 W, .int .i64 H, .slice a k c], .int .i64 (i : Int)] w (fun e w' => ∃ (v : Option Addr) (d : Nat), e = .returned (.slice v m d) ∧ Row w' v m (iv L) ∧ Below w.heap.size w w')) := fun a c w => by have q := CNI.out a c w; unfold RetS at q; rwa [hm] at q
            clear hv hdi hzz hL hm CNI hzm hzd
            go_wp2_with fail
            go_quiet (fail)
            go_wp2_with fail
            refine (CNJ.out _ _ _).mono ?_
            rintro e wn ⟨av, dv, rfl, hRL, hb⟩
            have hBn : Below Wp.heap.size Wp wn := belowThru (by (repeat' (first | (with_reducible exact Below.refl _ _) | (with_reducible assumption) | (with_reducible refine belowThru ?_ (by assumption)) | (with_reducible refine belowAlloc ?_) | (with_reducible refine Below.setCell ?_ (by first | omega | (simp; done) | (simp; omega)) _) | (with_reducible refine Below.drew ?_) | (with_reducible refine below_drewN ?_ _)))) hb
            have hcd2 := cell_later (show Below wr.heap.size wr wn from belowThru (by (repeat' (first | (with_reducible exact Below.refl _ _) | (with_reducible assumption) | (with_reducible refine belowThru ?_ (by assumption)) | (with_reducible refine belowAlloc ?_) | (with_reducible refine Below.setCell ?_ (by first | omega | (simp; done) | (simp; omega)) _) | (with_reducible refine Below.drew ?_) | (with_reducible refine below_drewN ?_ _)))) hb) hcd
            have r1 : Blk wn (w2.heap.size) #[.int .i64 W, .int .i64 H, .slice (some ⟨bd, od, none⟩) k cx] 24 := Blk.later hBn k1
            have RL := Lib.hid hRL
            clear hb a0 b0 a1 b1 hcd hcm hRL q0 q1 hBR
            obtain ⟨a1, b1⟩ := r1.read
            go_wp2_with fail
            go_loopw [9, 11, 12] (fun s9 s11 _ wx => ∃ j : Nat, j ≤ m ∧ s11 = .int .i64 j ∧ s9 = .bool (nearB zd (fun j => D (L[j]?.getD 0).toNat) j) ∧ Below wn.heap.size wn wx) (fun _ s11 _ _ => m - (intOf s11).toNat)
            case atStart => exact ⟨0, Nat.zero_le _, rfl, by rw [HN0.out], Below.refl _ _⟩
            case round =>
              clear a1 b1
              obtain ⟨j, hj, rfl, rfl, hX⟩ := hrel
              have r2 := Blk.later hX r1
              obtain ⟨a1, b1⟩ := r2.read
              have hcd3 := cell_later hX hcd2
              by_cases hjt : j < m
              · obtain ⟨bl, ol, zl, rfl, hbl, hzl, hcl⟩ := RL.out.int hjt
                have hcl := cell_later hX hcl
                obtain ⟨q, hq, hqk, u1, u2⟩ := GLI.out j hjt
                have e1 : zl = (q : Int) := by rw [hzl] at hq; exact Option.some.inj hq
                subst e1
                obtain ⟨bq, oq, zq, eq, hbq, hzq, hcq⟩ := Rx.out.int hqk
                cases eq
                have hcq := cell_later (belowThru hBn hX) hcq
                have e2 : zq = D q := by have := GD.out q hqk; rw [hzq] at this; exact Option.some.inj this
                rw [← e2, ← HV.out] at u1 u2
                have j0 : (0 : Int) ≤ (j : Int) := by omega
                have j1 : (j : Int) < (m : Int) := by omega
                have q0 : (0 : Int) ≤ (q : Int) := by omega
                have q1 : (q : Int) < (k : Int) := by omega
                have ed : IntKind.i64.wrap (zd - zq) = zd - zq := IntWalk.i64_in _ (by omega)
                obtain ⟨dd, hdd⟩ : ∃ dd, zd - zq = dd := ⟨_, rfl⟩
                rw [hdd] at ed
                have v1 : ¬ 1 < dd := by omega
                have v2 : ¬ dd < -1 := by omega
                have HNS : Hid (nearB zd (fun j => D (L[j]?.getD 0).toNat) (j + 1) = (nearB zd (fun j => D (L[j]?.getD 0).toNat) j || dd == 1)) := by
                  show (nearB zd (fun j => D (L[j]?.getD 0).toNat) j || zd - D (L[j]?.getD 0).toNat == 1) = _
                  rw [hq, Option.getD_some, Int.toNat_natCast, ← e2, hdd]
                obtain ⟨γ, hγ⟩ : ∃ γ, nearB zd (fun j => D (L[j]?.getD 0).toNat) j = γ := ⟨_, rfl⟩
                rw [hγ] at HNS ⊢
                clear hγ hzl hzq e2 u1 u2 hq
                cases γ
                · go_wp2_with fail
                  go_quiet (fail)
                  go_wp2
                  go_roundw
                  case rel => exact ⟨j + 1, hjt, by go_num, by rw [HNS.out]; first | rfl | simp, by (repeat' (first | (with_reducible exact Below.refl _ _) | (with_reducible assumption) | (with_reducible refine belowThru ?_ (by assumption)) | (with_reducible refine belowAlloc ?_) | (with_reducible refine Below.setCell ?_ (by first | omega | (simp; done) | (simp; omega)) _) | (with_reducible refine Below.drew ?_) | (with_reducible refine below_drewN ?_ _)))⟩
                  case measure => simp [intOf]; omega
                · go_wp2_with fail
                  go_quiet (fail)
                  go_wp2
                  go_roundw
                  case rel => exact ⟨j + 1, hjt, by go_num, by rw [HNS.out]; first | rfl | simp, by (repeat' (first | (with_reducible exact Below.refl _ _) | (with_reducible assumption) | (with_reducible refine belowThru ?_ (by assumption)) | (with_reducible refine belowAlloc ?_) | (with_reducible refine Below.setCell ?_ (by first | omega | (simp; done) | (simp; omega)) _) | (with_reducible refine Below.drew ?_) | (with_reducible refine below_drewN ?_ _)))⟩
                  case measure => simp [intOf]; omega
              · have e : j = m := by omega
                subst e
                rw [HNB.out]
                go_wp2
                go_roundw
                case rel => exact ⟨i + 1, hlt, by go_num, belowThru hBn hX⟩
                case measure => simp [intOf]; omega
        · go_wp2
          go_ret
          exact ⟨rfl, by (repeat' (first | (with_reducible exact Below.refl _ _) | (with_reducible assumption) | (with_reducible refine belowThru ?_ (by assumption)) | (with_reducible refine belowAlloc ?_) | (with_reducible refine Below.setCell ?_ (by first | omega | (simp; done) | (simp; omega)) _) | (with_reducible refine Below.drew ?_) | (with_reducible refine below_drewN ?_ _)))⟩
theorem nearest_true (W H : Int) (a : Option Addr) (n c : Nat) (zs : List Int) (hn : n ≤ maxLen) (w : World) (hR : Row w a n (iv zs)) :
    Calls Try.prog 10 #[.agg #[.int .i64 W, .int .i64 H, .slice a n c]] w fun e w' => e = .returned (.bool true) ∧ Below w.heap.size w w' := by
  by_cases hI : okI W H zs
  · exact nearest_yes W H a n c zs hn w hR hI
  · exact nearest_no W H a n c zs hn w hR hI
end Go.Proofs.Ytghmjdmiaajbnaa
