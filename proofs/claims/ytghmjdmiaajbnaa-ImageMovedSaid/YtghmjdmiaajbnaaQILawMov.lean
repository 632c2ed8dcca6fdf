/-
  The law ImageMoved: mathematics and walk.
-/
import Derived.Test.YtghmjdmiaajbnaaM9
import Derived.Test.YtghmjdmiaajbnaaM4
import Derived.Test.YtghmjdmiaajbnaaM20
import Derived.Test.YtghmjdmiaajbnaaM21
namespace Go.Proofs.Ytghmjdmiaajbnaa
open Go.RowKit
set_option linter.unusedVariables false
set_option linter.unusedSimpArgs false

/-- An image moved by whole numbers of pixels. -/
def movV (W H : Int) (zs : List Int) (dx dy fill : Int) (k : Nat) : Int := if inP W H ((k : Int) % W + dx) ((k : Int) / W + dy) then pixAt W zs ((k : Int) % W + dx) ((k : Int) / W + dy) else fill
theorem rnd_one (n : Int) : rnd n 1 = n := by unfold rnd; omega
theorem rnd_seven (n : Int) : rnd (7 * n) 7 = n := by unfold rnd; omega
theorem warp_moves (W H : Int) (zs : List Int) (dx dy fill : Int) (k : Nat) : warpV W H zs 1 0 dx 0 1 dy 1 fill ((k : Int) % W) ((k : Int) / W) = movV W H zs dx dy fill k := by
  unfold warpV movV
  have e1 : 1 * ((k : Int) % W) + 0 * ((k : Int) / W) + dx = (k : Int) % W + dx := by omega
  have e2 : 0 * ((k : Int) % W) + 1 * ((k : Int) / W) + dy = (k : Int) / W + dy := by omega
  rw [e1, e2, rnd_one, rnd_one]
theorem warp_stays {W H : Int} {zs : List Int} {n : Nat} (hI : okI W H zs) (hn : zs.length = n) (fill : Int) : (made n fun k => warpV W H zs 7 0 0 0 7 0 7 fill ((k : Int) % W) ((k : Int) / W)) = zs := by
  have hN : W * H = (n : Int) := by rw [← hn]; exact hI.2.1.symm
  have e : ∀ k : Nat, k < n → warpV W H zs 7 0 0 0 7 0 7 fill ((k : Int) % W) ((k : Int) / W) = zs[k]?.getD 0 := fun k hk => by
    unfold warpV
    have e1 : 7 * ((k : Int) % W) + 0 * ((k : Int) / W) + 0 = 7 * ((k : Int) % W) := by omega
    have e2 : 0 * ((k : Int) % W) + 7 * ((k : Int) / W) + 0 = 7 * ((k : Int) / W) := by omega
    rw [e1, e2, rnd_seven, rnd_seven, if_pos (show inP W H _ _ from place_in hI.1.1 hI.1.2 hN hk)]
    exact px_of (H := H) (by have := Int.mul_ediv_add_emod (k : Int) W; rw [Int.mul_comm]; omega)
  apply List.ext_getElem (by rw [made_length, hn])
  intro i i1 i2
  have g := made_get (V := fun k => warpV W H zs 7 0 0 0 7 0 7 fill ((k : Int) % W) ((k : Int) / W)) (k := i) (n := n) (by omega)
  rw [List.getElem?_eq_getElem i1] at g
  rw [Option.some.inj g, e i (by omega), List.getElem?_eq_getElem i2]; rfl
theorem movV_ok {W H : Int} {zs : List Int} (hI : okI W H zs) (dx dy fill : Int) (hF : okV fill) (k : Nat) : okV (movV W H zs dx dy fill k) := by
  unfold movV; split
  · exact pixAt_ok hI _ _
  · exact hF
set_option maxRecDepth 100000 in
set_option maxHeartbeats 3000000 in
theorem moved_no (W H dx dy fill : Int) (a : Option Addr) (n c : Nat) (zs : List Int) (hn : n ≤ maxLen) (w : World) (hR : Row w a n (iv zs)) (hI : ¬ okI W H zs) :
    Calls Try.prog 13 #[.agg #[.int .i64 W, .int .i64 H, .slice a n c], .int .i64 dx, .int .i64 dy, .int .i64 fill] w fun e w' => e = .returned (.bool true) ∧ Below w.heap.size w w' := by
  have HR := Lib.hid hR
  clear hR
  go_enter Try.func13, Try.ntmps13
  go_wp2_with fail
  refine (alive_true _).mono ?_
  rintro e w1 ⟨rfl, hb⟩
  have kn0 : Blk w1 (w.heap.size) #[.int .i64 W, .int .i64 H, .slice a n c] 24 := Blk.later hb (by first | ((repeat' (first | (with_reducible assumption) | ((with_reducible refine Blk.new ?_); first | rfl | (simp; done)) | (with_reducible refine Blk.later (by assumption) ?_) | (with_reducible refine Blk.alloc ?_) | (with_reducible refine Blk.drewN ?_) | (with_reducible refine Blk.drew ?_) | (with_reducible refine Blk.other ?_ (by first | omega | (simp; done) | (simp; omega))))); done) | exact Blk.alloc (Blk.new (by simp)) | exact Blk.set (Blk.set (Blk.set (by (repeat' (first | (with_reducible assumption) | ((with_reducible refine Blk.new ?_); first | rfl | (simp; done)) | (with_reducible refine Blk.later (by assumption) ?_) | (with_reducible refine Blk.alloc ?_) | (with_reducible refine Blk.drewN ?_) | (with_reducible refine Blk.drew ?_) | (with_reducible refine Blk.other ?_ (by first | omega | (simp; done) | (simp; omega)))))))) | exact Blk.alloc (Blk.set (Blk.set (Blk.set (by (repeat' (first | (with_reducible assumption) | ((with_reducible refine Blk.new ?_); first | rfl | (simp; done)) | (with_reducible refine Blk.later (by assumption) ?_) | (with_reducible refine Blk.alloc ?_) | (with_reducible refine Blk.drewN ?_) | (with_reducible refine Blk.drew ?_) | (with_reducible refine Blk.other ?_ (by first | omega | (simp; done) | (simp; omega))))))))))
  have k0 := kn0; clear kn0; obtain ⟨a0, b0⟩ := k0.read; have y0 := k0.lt
  have hBw : Below w.heap.size w w1 := by (repeat' (first | (with_reducible exact Below.refl _ _) | (with_reducible assumption) | (with_reducible refine belowThru ?_ (by assumption)) | (with_reducible refine belowAlloc ?_) | (with_reducible refine Below.setCell ?_ (by first | omega | (simp; done) | (simp; omega)) _) | (with_reducible refine Below.drew ?_) | (with_reducible refine below_drewN ?_ _)))
  have hzw1 := hBw.size
  clear hb
  go_wp2_with fail
  refine (rvalid_no hI a n c hn _ (HR.out.later (by (repeat' (first | (with_reducible exact Below.refl _ _) | (with_reducible assumption) | (with_reducible refine belowThru ?_ (by assumption)) | (with_reducible refine belowAlloc ?_) | (with_reducible refine Below.setCell ?_ (by first | omega | (simp; done) | (simp; omega)) _) | (with_reducible refine Below.drew ?_) | (with_reducible refine below_drewN ?_ _)))))).mono ?_
  rintro e w2 ⟨rfl, hb⟩
  have kn0 : Blk w2 (w.heap.size) #[.int .i64 W, .int .i64 H, .slice a n c] 24 := Blk.later hb (by (repeat' (first | (with_reducible assumption) | ((with_reducible refine Blk.new ?_); first | rfl | (simp; done)) | (with_reducible refine Blk.later (by assumption) ?_) | (with_reducible refine Blk.alloc ?_) | (with_reducible refine Blk.drewN ?_) | (with_reducible refine Blk.drew ?_) | (with_reducible refine Blk.other ?_ (by first | omega | (simp; done) | (simp; omega))))))
  clear k0 a0 b0
  have k0 := kn0; clear kn0; obtain ⟨a0, b0⟩ := k0.read; have y0 := k0.lt
  replace hBw : Below w.heap.size w w2 := belowThru (by (repeat' (first | (with_reducible exact Below.refl _ _) | (with_reducible assumption) | (with_reducible refine belowThru ?_ (by assumption)) | (with_reducible refine belowAlloc ?_) | (with_reducible refine Below.setCell ?_ (by first | omega | (simp; done) | (simp; omega)) _) | (with_reducible refine Below.drew ?_) | (with_reducible refine below_drewN ?_ _)))) hb
  have hzw2 := hBw.size
  clear hb
  go_wp2_with fail
  go_ret
  exact ⟨rfl, by (repeat' (first | (with_reducible exact Below.refl _ _) | (with_reducible assumption) | (with_reducible refine belowThru ?_ (by assumption)) | (with_reducible refine belowAlloc ?_) | (with_reducible refine Below.setCell ?_ (by first | omega | (simp; done) | (simp; omega)) _) | (with_reducible refine Below.drew ?_) | (with_reducible refine below_drewN ?_ _)))⟩
set_option maxRecDepth 100000 in
set_option maxHeartbeats 3000000 in
theorem moved_out (W H dx dy fill : Int) (a : Option Addr) (n c : Nat) (zs : List Int) (hn : n ≤ maxLen) (w : World) (hR : Row w a n (iv zs)) (hI : okI W H zs) (hx : ¬ ((-65536 ≤ dx ∧ dx ≤ 65536) ∧ (-65536 ≤ dy ∧ dy ≤ 65536) ∧ okV fill)) :
    Calls Try.prog 13 #[.agg #[.int .i64 W, .int .i64 H, .slice a n c], .int .i64 dx, .int .i64 dy, .int .i64 fill] w fun e w' => e = .returned (.bool true) ∧ Below w.heap.size w w' := by
  have hc : dx < -65536 ∨ (¬ dx < -65536 ∧ 65536 < dx) ∨ (¬ dx < -65536 ∧ ¬ 65536 < dx ∧ dy < -65536) ∨ (¬ dx < -65536 ∧ ¬ 65536 < dx ∧ ¬ dy < -65536 ∧ 65536 < dy) ∨ (¬ dx < -65536 ∧ ¬ 65536 < dx ∧ ¬ dy < -65536 ∧ ¬ 65536 < dy ∧ fill < -2147483648) ∨ (¬ dx < -65536 ∧ ¬ 65536 < dx ∧ ¬ dy < -65536 ∧ ¬ 65536 < dy ∧ ¬ fill < -2147483648 ∧ 2147483648 < fill) := by unfold okV at hx; omega
  clear hx
  rcases hc with h1 | ⟨h1, h2⟩ | ⟨h1, h2, h3⟩ | ⟨h1, h2, h3, h4⟩ | ⟨h1, h2, h3, h4, h5⟩ | ⟨h1, h2, h3, h4, h5, h6⟩
  all_goals
    have HR := Lib.hid hR
    clear hR
    go_enter Try.func13, Try.ntmps13
    go_wp2_with fail
    refine (alive_true _).mono ?_
    rintro e w1 ⟨rfl, hb⟩
    have kn0 : Blk w1 (w.heap.size) #[.int .i64 W, .int .i64 H, .slice a n c] 24 := Blk.later hb (by first | ((repeat' (first | (with_reducible assumption) | ((with_reducible refine Blk.new ?_); first | rfl | (simp; done)) | (with_reducible refine Blk.later (by assumption) ?_) | (with_reducible refine Blk.alloc ?_) | (with_reducible refine Blk.drewN ?_) | (with_reducible refine Blk.drew ?_) | (with_reducible refine Blk.other ?_ (by first | omega | (simp; done) | (simp; omega))))); done) | exact Blk.alloc (Blk.new (by simp)) | exact Blk.set (Blk.set (Blk.set (by (repeat' (first | (with_reducible assumption) | ((with_reducible refine Blk.new ?_); first | rfl | (simp; done)) | (with_reducible refine Blk.later (by assumption) ?_) | (with_reducible refine Blk.alloc ?_) | (with_reducible refine Blk.drewN ?_) | (with_reducible refine Blk.drew ?_) | (with_reducible refine Blk.other ?_ (by first | omega | (simp; done) | (simp; omega)))))))) | exact Blk.alloc (Blk.set (Blk.set (Blk.set (by (repeat' (first | (with_reducible assumption) | ((with_reducible refine Blk.new ?_); first | rfl | (simp; done)) | (with_reducible refine Blk.later (by assumption) ?_) | (with_reducible refine Blk.alloc ?_) | (with_reducible refine Blk.drewN ?_) | (with_reducible refine Blk.drew ?_) | (with_reducible refine Blk.other ?_ (by first | omega | (simp; done) | (simp; omega))))))))))
    have k0 := kn0; clear kn0; obtain ⟨a0, b0⟩ := k0.read; have y0 := k0.lt
    have hBw : Below w.heap.size w w1 := by (repeat' (first | (with_reducible exact Below.refl _ _) | (with_reducible assumption) | (with_reducible refine belowThru ?_ (by assumption)) | (with_reducible refine belowAlloc ?_) | (with_reducible refine Below.setCell ?_ (by first | omega | (simp; done) | (simp; omega)) _) | (with_reducible refine Below.drew ?_) | (with_reducible refine below_drewN ?_ _)))
    have hzw1 := hBw.size
    clear hb
    go_wp2_with fail
    refine (rvalid_ok hI a n c hn _ (HR.out.later (by (repeat' (first | (with_reducible exact Below.refl _ _) | (with_reducible assumption) | (with_reducible refine belowThru ?_ (by assumption)) | (with_reducible refine belowAlloc ?_) | (with_reducible refine Below.setCell ?_ (by first | omega | (simp; done) | (simp; omega)) _) | (with_reducible refine Below.drew ?_) | (with_reducible refine below_drewN ?_ _)))))).mono ?_
    rintro e w2 ⟨rfl, hb⟩
    have kn0 : Blk w2 (w.heap.size) #[.int .i64 W, .int .i64 H, .slice a n c] 24 := Blk.later hb (by (repeat' (first | (with_reducible assumption) | ((with_reducible refine Blk.new ?_); first | rfl | (simp; done)) | (with_reducible refine Blk.later (by assumption) ?_) | (with_reducible refine Blk.alloc ?_) | (with_reducible refine Blk.drewN ?_) | (with_reducible refine Blk.drew ?_) | (with_reducible refine Blk.other ?_ (by first | omega | (simp; done) | (simp; omega))))))
    clear k0 a0 b0
    have k0 := kn0; clear kn0; obtain ⟨a0, b0⟩ := k0.read; have y0 := k0.lt
    replace hBw : Below w.heap.size w w2 := belowThru (by (repeat' (first | (with_reducible exact Below.refl _ _) | (with_reducible assumption) | (with_reducible refine belowThru ?_ (by assumption)) | (with_reducible refine belowAlloc ?_) | (with_reducible refine Below.setCell ?_ (by first | omega | (simp; done) | (simp; omega)) _) | (with_reducible refine Below.drew ?_) | (with_reducible refine below_drewN ?_ _)))) hb
    have hzw2 := hBw.size
    clear hb
    go_wp2_with fail
    go_ret
    exact ⟨rfl, by (repeat' (first | (with_reducible exact Below.refl _ _) | (with_reducible assumption) | (with_reducible refine belowThru ?_ (by assumption)) | (with_reducible refine belowAlloc ?_) | (with_reducible refine Below.setCell ?_ (by first | omega | (simp; done) | (simp; omega)) _) | (with_reducible refine Below.drew ?_) | (with_reducible refine below_drewN ?_ _)))⟩
set_option maxRecDepth 100000 in
set_option maxHeartbeats 3000000 in
theorem moved_in (W H dx dy fill : Int) (a : Option Addr) (n c : Nat) (zs : List Int) (hn : n ≤ maxLen) (w : World) (hR : Row w a n (iv zs)) (hI : okI W H zs) (hx : -65536 ≤ dx ∧ dx ≤ 65536) (hy : -65536 ≤ dy ∧ dy ≤ 65536) (hF : okV fill) :
    Calls Try.prog 13 #[.agg #[.int .i64 W, .int .i64 H, .slice a n c], .int .i64 dx, .int .i64 dy, .int .i64 fill] w fun e w' => e = .returned (.bool true) ∧ Below w.heap.size w w' := by
  have hl : zs.length = n := by have := hR.1; rwa [iv_length] at this
  have hN : W * H = (n : Int) := by rw [← hl]; exact hI.2.1.symm
  obtain ⟨ZA, hZA⟩ : ∃ Z, made n (movV W H zs dx dy fill) = Z := ⟨_, rfl⟩
  have lA : Hid (ZA.length = n) := by show _ = _; rw [← hZA]; exact made_length _ _
  have lz : Hid (zs.length = n) := hl
  have e1 : (made n fun k => warpV W H zs 1 0 dx 0 1 dy 1 fill ((k : Int) % W) ((k : Int) / W)) = ZA := by rw [← hZA]; congr 1; funext k; exact warp_moves W H zs dx dy fill k
  have e2 := warp_stays hI hl fill
  have CA : Hid (∀ (a : Option Addr) (c : Nat) (w : World), Row w a n (iv zs) → Calls Try.prog 32 #[.agg #[.int .i64 W, .int .i64 H, .slice a n c], .agg #[.int .i64 1, .int .i64 0, .int .i64 dx, .int .i64 0, .int .i64 1, .int .i64 dy, .int .i64 1], .int .i64 W, .int .i64 H, .int .i64 fill] w (RetI W H ZA 0 w)) := fun a c w hR => by rw [← e1]; exact warp_ok W H 1 0 dx 0 1 dy 1 W H fill n a n c zs hI ⟨⟨by decide, by decide, hx, by decide, by decide, hy⟩, by decide, by decide⟩ hI.1.1 hI.1.2 hF hN hn w hR
  have CB : Hid (∀ (a : Option Addr) (c : Nat) (w : World), Row w a n (iv zs) → Calls Try.prog 32 #[.agg #[.int .i64 W, .int .i64 H, .slice a n c], .agg #[.int .i64 7, .int .i64 0, .int .i64 0, .int .i64 0, .int .i64 7, .int .i64 0, .int .i64 7], .int .i64 W, .int .i64 H, .int .i64 fill] w (RetI W H zs 0 w)) := fun a c w hR => by
    have q := warp_ok W H 7 0 0 0 7 0 7 W H fill n a n c zs hI ⟨⟨by decide, by decide, by decide, by decide, by decide, by decide⟩, by decide, by decide⟩ hI.1.1 hI.1.2 hF hN hn w hR
    rw [e2] at q; exact q
  have HAT : Hid (∀ k : Nat, k < n → ZA[k]? = some (movV W H zs dx dy fill k)) := fun k hk => by rw [← hZA]; exact made_get hk
  have HI := Lib.hid hI; have HN := Lib.hid hn; have HNN := Lib.hid hN
  have hnd : n ≤ 256 := by have := okS_mul hI.1.1 hI.1.2; omega
  obtain ⟨⟨⟨w0, w1⟩, h0, h1⟩, -, -⟩ := hI
  obtain ⟨f1, f2⟩ := hF; obtain ⟨x1, x2⟩ := hx; obtain ⟨y1, y2⟩ := hy
  clear hl hN hZA e1 e2 hn
  have HR := Lib.hid hR
  clear hR
  go_enter Try.func13, Try.ntmps13
  go_wp2_with fail
  refine (alive_true _).mono ?_
  rintro e w1 ⟨rfl, hb⟩
  have kn0 : Blk w1 (w.heap.size) #[.int .i64 W, .int .i64 H, .slice a n c] 24 := Blk.later hb (by first | ((repeat' (first | (with_reducible assumption) | ((with_reducible refine Blk.new ?_); first | rfl | (simp; done)) | (with_reducible refine Blk.later (by assumption) ?_) | (with_reducible refine Blk.alloc ?_) | (with_reducible refine Blk.drewN ?_) | (with_reducible refine Blk.drew ?_) | (with_reducible refine Blk.other ?_ (by first | omega | (simp; done) | (simp; omega))))); done) | exact Blk.alloc (Blk.new (by simp)) | exact Blk.set (Blk.set (Blk.set (by (repeat' (first | (with_reducible assumption) | ((with_reducible refine Blk.new ?_); first | rfl | (simp; done)) | (with_reducible refine Blk.later (by assumption) ?_) | (with_reducible refine Blk.alloc ?_) | (with_reducible refine Blk.drewN ?_) | (with_reducible refine Blk.drew ?_) | (with_reducible refine Blk.other ?_ (by first | omega | (simp; done) | (simp; omega)))))))) | exact Blk.alloc (Blk.set (Blk.set (Blk.set (by (repeat' (first | (with_reducible assumption) | ((with_reducible refine Blk.new ?_); first | rfl | (simp; done)) | (with_reducible refine Blk.later (by assumption) ?_) | (with_reducible refine Blk.alloc ?_) | (with_reducible refine Blk.drewN ?_) | (with_reducible refine Blk.drew ?_) | (with_reducible refine Blk.other ?_ (by first | omega | (simp; done) | (simp; omega))))))))))
  have k0 := kn0; clear kn0; obtain ⟨a0, b0⟩ := k0.read; have y0 := k0.lt
  have hBw : Below w.heap.size w w1 := by (repeat' (first | (with_reducible exact Below.refl _ _) | (with_reducible assumption) | (with_reducible refine belowThru ?_ (by assumption)) | (with_reducible refine belowAlloc ?_) | (with_reducible refine Below.setCell ?_ (by first | omega | (simp; done) | (simp; omega)) _) | (with_reducible refine Below.drew ?_) | (with_reducible refine below_drewN ?_ _)))
  have hzw1 := hBw.size
  clear hb
  go_wp2_with fail
  refine (rvalid_ok HI.out a _ c HN.out _ (HR.out.later (by (repeat' (first | (with_reducible exact Below.refl _ _) | (with_reducible assumption) | (with_reducible refine belowThru ?_ (by assumption)) | (with_reducible refine belowAlloc ?_) | (with_reducible refine Below.setCell ?_ (by first | omega | (simp; done) | (simp; omega)) _) | (with_reducible refine Below.drew ?_) | (with_reducible refine below_drewN ?_ _)))))).mono ?_
  rintro e w2 ⟨rfl, hb⟩
  have kn0 : Blk w2 (w.heap.size) #[.int .i64 W, .int .i64 H, .slice a n c] 24 := Blk.later hb (by (repeat' (first | (with_reducible assumption) | ((with_reducible refine Blk.new ?_); first | rfl | (simp; done)) | (with_reducible refine Blk.later (by assumption) ?_) | (with_reducible refine Blk.alloc ?_) | (with_reducible refine Blk.drewN ?_) | (with_reducible refine Blk.drew ?_) | (with_reducible refine Blk.other ?_ (by first | omega | (simp; done) | (simp; omega))))))
  clear k0 a0 b0
  have k0 := kn0; clear kn0; obtain ⟨a0, b0⟩ := k0.read; have y0 := k0.lt
  replace hBw : Below w.heap.size w w2 := belowThru (by (repeat' (first | (with_reducible exact Below.refl _ _) | (with_reducible assumption) | (with_reducible refine belowThru ?_ (by assumption)) | (with_reducible refine belowAlloc ?_) | (with_reducible refine Below.setCell ?_ (by first | omega | (simp; done) | (simp; omega)) _) | (with_reducible refine Below.drew ?_) | (with_reducible refine below_drewN ?_ _)))) hb
  have hzw2 := hBw.size
  clear hb
  go_wp2_with fail
  refine (CA.out _ _ _ (HR.out.later (by (repeat' (first | (with_reducible exact Below.refl _ _) | (with_reducible assumption) | (with_reducible refine belowThru ?_ (by assumption)) | (with_reducible refine belowAlloc ?_) | (with_reducible refine Below.setCell ?_ (by first | omega | (simp; done) | (simp; omega)) _) | (with_reducible refine Below.drew ?_) | (with_reducible refine below_drewN ?_ _)))))).mono ?_
  rintro e w3 ⟨ae1, ne1, ce1, rfl, hN, hb⟩
  have kn0 : Blk w3 (w.heap.size) #[.int .i64 W, .int .i64 H, .slice a n c] 24 := Blk.later hb (by (repeat' (first | (with_reducible assumption) | ((with_reducible refine Blk.new ?_); first | rfl | (simp; done)) | (with_reducible refine Blk.later (by assumption) ?_) | (with_reducible refine Blk.alloc ?_) | (with_reducible refine Blk.drewN ?_) | (with_reducible refine Blk.drew ?_) | (with_reducible refine Blk.other ?_ (by first | omega | (simp; done) | (simp; omega))))))
  clear k0 a0 b0
  have k0 := kn0; clear kn0; obtain ⟨a0, b0⟩ := k0.read; have y0 := k0.lt
  replace hBw : Below w.heap.size w w3 := belowThru (by (repeat' (first | (with_reducible exact Below.refl _ _) | (with_reducible assumption) | (with_reducible refine belowThru ?_ (by assumption)) | (with_reducible refine belowAlloc ?_) | (with_reducible refine Below.setCell ?_ (by first | omega | (simp; done) | (simp; omega)) _) | (with_reducible refine Below.drew ?_) | (with_reducible refine below_drewN ?_ _)))) hb
  have hzw3 := hBw.size
  clear hb
  have Re1 := Lib.hid (New.mono (B' := 0) (Nat.zero_le _) hN)
  have hle1 : Hid (ne1 = (ZA).length) := hN.1.symm
  obtain rfl : n = ne1 := (hle1.out.trans lA.out).symm
  clear hN
  go_wp2_with fail
  refine (CB.out _ _ _ (HR.out.later (by (repeat' (first | (with_reducible exact Below.refl _ _) | (with_reducible assumption) | (with_reducible refine belowThru ?_ (by assumption)) | (with_reducible refine belowAlloc ?_) | (with_reducible refine Below.setCell ?_ (by first | omega | (simp; done) | (simp; omega)) _) | (with_reducible refine Below.drew ?_) | (with_reducible refine below_drewN ?_ _)))))).mono ?_
  rintro e w4 ⟨ae2, ne2, ce2, rfl, hN, hb⟩
  have Re1n := Lib.hid (New.later (w' := w4) (by (repeat' (first | (with_reducible exact Below.refl _ _) | (with_reducible assumption) | (with_reducible refine belowThru ?_ (by assumption)) | (with_reducible refine belowAlloc ?_) | (with_reducible refine Below.setCell ?_ (by first | omega | (simp; done) | (simp; omega)) _) | (with_reducible refine Below.drew ?_) | (with_reducible refine below_drewN ?_ _)))) Re1.out); clear Re1; have Re1 := Re1n; clear Re1n
  have kn0 : Blk w4 (w.heap.size) #[.int .i64 W, .int .i64 H, .slice a n c] 24 := Blk.later hb (by (repeat' (first | (with_reducible assumption) | ((with_reducible refine Blk.new ?_); first | rfl | (simp; done)) | (with_reducible refine Blk.later (by assumption) ?_) | (with_reducible refine Blk.alloc ?_) | (with_reducible refine Blk.drewN ?_) | (with_reducible refine Blk.drew ?_) | (with_reducible refine Blk.other ?_ (by first | omega | (simp; done) | (simp; omega))))))
  have kn1 : Blk w4 (w3.heap.size) #[.int .i64 W, .int .i64 H, .slice ae1 n ce1] 24 := Blk.later hb (by first | ((repeat' (first | (with_reducible assumption) | ((with_reducible refine Blk.new ?_); first | rfl | (simp; done)) | (with_reducible refine Blk.later (by assumption) ?_) | (with_reducible refine Blk.alloc ?_) | (with_reducible refine Blk.drewN ?_) | (with_reducible refine Blk.drew ?_) | (with_reducible refine Blk.other ?_ (by first | omega | (simp; done) | (simp; omega))))); done) | exact Blk.alloc (Blk.new (by simp)) | exact Blk.set (Blk.set (Blk.set (by (repeat' (first | (with_reducible assumption) | ((with_reducible refine Blk.new ?_); first | rfl | (simp; done)) | (with_reducible refine Blk.later (by assumption) ?_) | (with_reducible refine Blk.alloc ?_) | (with_reducible refine Blk.drewN ?_) | (with_reducible refine Blk.drew ?_) | (with_reducible refine Blk.other ?_ (by first | omega | (simp; done) | (simp; omega)))))))) | exact Blk.alloc (Blk.set (Blk.set (Blk.set (by (repeat' (first | (with_reducible assumption) | ((with_reducible refine Blk.new ?_); first | rfl | (simp; done)) | (with_reducible refine Blk.later (by assumption) ?_) | (with_reducible refine Blk.alloc ?_) | (with_reducible refine Blk.drewN ?_) | (with_reducible refine Blk.drew ?_) | (with_reducible refine Blk.other ?_ (by first | omega | (simp; done) | (simp; omega))))))))))
  clear k0 a0 b0
  have k0 := kn0; clear kn0; obtain ⟨a0, b0⟩ := k0.read; have y0 := k0.lt
  have k1 := kn1; clear kn1; obtain ⟨a1, b1⟩ := k1.read; have y1 := k1.lt
  replace hBw : Below w.heap.size w w4 := belowThru (by (repeat' (first | (with_reducible exact Below.refl _ _) | (with_reducible assumption) | (with_reducible refine belowThru ?_ (by assumption)) | (with_reducible refine belowAlloc ?_) | (with_reducible refine Below.setCell ?_ (by first | omega | (simp; done) | (simp; omega)) _) | (with_reducible refine Below.drew ?_) | (with_reducible refine below_drewN ?_ _)))) hb
  have hzw4 := hBw.size
  clear hb
  have Re2 := Lib.hid (New.mono (B' := 0) (Nat.zero_le _) hN)
  have hle2 : Hid (ne2 = (zs).length) := hN.1.symm
  obtain rfl : n = ne2 := (hle2.out.trans lz.out).symm
  clear hN
  go_wp2_with fail
  refine (same_yes W H _ _ _ _ _ _ zs HN.out _ (Re2.out.row.later (by (repeat' (first | (with_reducible exact Below.refl _ _) | (with_reducible assumption) | (with_reducible refine belowThru ?_ (by assumption)) | (with_reducible refine belowAlloc ?_) | (with_reducible refine Below.setCell ?_ (by first | omega | (simp; done) | (simp; omega)) _) | (with_reducible refine Below.drew ?_) | (with_reducible refine below_drewN ?_ _))))) (HR.out.later (by (repeat' (first | (with_reducible exact Below.refl _ _) | (with_reducible assumption) | (with_reducible refine belowThru ?_ (by assumption)) | (with_reducible refine belowAlloc ?_) | (with_reducible refine Below.setCell ?_ (by first | omega | (simp; done) | (simp; omega)) _) | (with_reducible refine Below.drew ?_) | (with_reducible refine below_drewN ?_ _)))))).mono ?_
  rintro e w5 ⟨rfl, hb⟩
  have Re1n := Lib.hid (New.later (w' := w5) (by (repeat' (first | (with_reducible exact Below.refl _ _) | (with_reducible assumption) | (with_reducible refine belowThru ?_ (by assumption)) | (with_reducible refine belowAlloc ?_) | (with_reducible refine Below.setCell ?_ (by first | omega | (simp; done) | (simp; omega)) _) | (with_reducible refine Below.drew ?_) | (with_reducible refine below_drewN ?_ _)))) Re1.out); clear Re1; have Re1 := Re1n; clear Re1n
  have Re2n := Lib.hid (New.later (w' := w5) (by (repeat' (first | (with_reducible exact Below.refl _ _) | (with_reducible assumption) | (with_reducible refine belowThru ?_ (by assumption)) | (with_reducible refine belowAlloc ?_) | (with_reducible refine Below.setCell ?_ (by first | omega | (simp; done) | (simp; omega)) _) | (with_reducible refine Below.drew ?_) | (with_reducible refine below_drewN ?_ _)))) Re2.out); clear Re2; have Re2 := Re2n; clear Re2n
  have kn0 : Blk w5 (w.heap.size) #[.int .i64 W, .int .i64 H, .slice a n c] 24 := Blk.later hb (by (repeat' (first | (with_reducible assumption) | ((with_reducible refine Blk.new ?_); first | rfl | (simp; done)) | (with_reducible refine Blk.later (by assumption) ?_) | (with_reducible refine Blk.alloc ?_) | (with_reducible refine Blk.drewN ?_) | (with_reducible refine Blk.drew ?_) | (with_reducible refine Blk.other ?_ (by first | omega | (simp; done) | (simp; omega))))))
  have kn1 : Blk w5 (w3.heap.size) #[.int .i64 W, .int .i64 H, .slice ae1 n ce1] 24 := Blk.later hb (by (repeat' (first | (with_reducible assumption) | ((with_reducible refine Blk.new ?_); first | rfl | (simp; done)) | (with_reducible refine Blk.later (by assumption) ?_) | (with_reducible refine Blk.alloc ?_) | (with_reducible refine Blk.drewN ?_) | (with_reducible refine Blk.drew ?_) | (with_reducible refine Blk.other ?_ (by first | omega | (simp; done) | (simp; omega))))))
  have kn2 : Blk w5 (w4.heap.size) #[.int .i64 W, .int .i64 H, .slice ae2 n ce2] 24 := Blk.later hb (by first | ((repeat' (first | (with_reducible assumption) | ((with_reducible refine Blk.new ?_); first | rfl | (simp; done)) | (with_reducible refine Blk.later (by assumption) ?_) | (with_reducible refine Blk.alloc ?_) | (with_reducible refine Blk.drewN ?_) | (with_reducible refine Blk.drew ?_) | (with_reducible refine Blk.other ?_ (by first | omega | (simp; done) | (simp; omega))))); done) | exact Blk.alloc (Blk.new (by simp)) | exact Blk.set (Blk.set (Blk.set (by (repeat' (first | (with_reducible assumption) | ((with_reducible refine Blk.new ?_); first | rfl | (simp; done)) | (with_reducible refine Blk.later (by assumption) ?_) | (with_reducible refine Blk.alloc ?_) | (with_reducible refine Blk.drewN ?_) | (with_reducible refine Blk.drew ?_) | (with_reducible refine Blk.other ?_ (by first | omega | (simp; done) | (simp; omega)))))))) | exact Blk.alloc (Blk.set (Blk.set (Blk.set (by (repeat' (first | (with_reducible assumption) | ((with_reducible refine Blk.new ?_); first | rfl | (simp; done)) | (with_reducible refine Blk.later (by assumption) ?_) | (with_reducible refine Blk.alloc ?_) | (with_reducible refine Blk.drewN ?_) | (with_reducible refine Blk.drew ?_) | (with_reducible refine Blk.other ?_ (by first | omega | (simp; done) | (simp; omega))))))))))
  clear k0 a0 b0 k1 a1 b1
  have k0 := kn0; clear kn0; obtain ⟨a0, b0⟩ := k0.read; have y0 := k0.lt
  have k1 := kn1; clear kn1; obtain ⟨a1, b1⟩ := k1.read; have y1 := k1.lt
  have k2 := kn2; clear kn2; obtain ⟨a2, b2⟩ := k2.read; have y2 := k2.lt
  replace hBw : Below w.heap.size w w5 := belowThru (by (repeat' (first | (with_reducible exact Below.refl _ _) | (with_reducible assumption) | (with_reducible refine belowThru ?_ (by assumption)) | (with_reducible refine belowAlloc ?_) | (with_reducible refine Below.setCell ?_ (by first | omega | (simp; done) | (simp; omega)) _) | (with_reducible refine Below.drew ?_) | (with_reducible refine below_drewN ?_ _)))) hb
  have hzw5 := hBw.size
  clear hb
  go_wp2_with fail
  obtain ⟨Wp, rfl⟩ : ∃ Wp, Wp = w5 := ⟨_, rfl⟩
  go_loopw [14, 15, 16, 17] (fun s14 _ _ _ wr => ∃ k : Nat, k ≤ n ∧ s14 = .int .i64 k ∧ Below Wp.heap.size Wp wr) (fun s14 _ _ _ _ => n - (intOf s14).toNat)
  case atStart => exact ⟨0, Nat.zero_le _, rfl, Below.refl _ _⟩
  case round =>
    clear a0 b0 a1 b1 a2 b2
    obtain ⟨k, hk, rfl, hB⟩ := hrel
    have q0 := Blk.later hB k0; have q1 := Blk.later hB k1
    obtain ⟨a0, b0⟩ := q0.read; obtain ⟨a1, b1⟩ := q1.read
    by_cases hlt : k < n
    · obtain ⟨ba, oa, z, rfl, hbl, hz, hc⟩ := Re1.out.row.int hlt
      have hzz := HAT.out k hlt
      rw [hz] at hzz
      have hzv : z = movV W H zs dx dy fill k := Option.some.inj hzz
      have hc := cell_later hB hc
      have p0 : (0 : Int) ≤ (k : Int) := by omega
      have p1 : (k : Int) < (n : Int) := by omega
      obtain ⟨s1, s2, s3, s4, s5, s6⟩ := small_div k W w0 (by omega)
      have hW0 : ¬ W = 0 := by omega
      have hWb : (W == 0) = false := by simpa using hW0
      unfold movV at hzv
      obtain ⟨px, hpx⟩ : ∃ px, (k : Int) % W = px := ⟨_, rfl⟩
      obtain ⟨py, hpy⟩ : ∃ py, (k : Int) / W = py := ⟨_, rfl⟩
      rw [hpx, hpy] at hzv
      rw [hpx] at s2 s5 s6
      rw [hpy] at s1 s3 s4
      have hdiv : IntKind.i64.wrap ((k : Int).tdiv W) = py := by rw [Int.tdiv_eq_ediv_of_nonneg (by omega), hpy]; exact IntWalk.i64_in _ (by omega)
      clear hpx s1
      have eX : IntKind.i64.wrap (px + dx) = px + dx := IntWalk.i64_in _ (by omega)
      have eY : IntKind.i64.wrap (py + dy) = py + dy := IntWalk.i64_in _ (by omega)
      obtain ⟨X, hX⟩ : ∃ X, px + dx = X := ⟨_, rfl⟩
      obtain ⟨Y, hY⟩ : ∃ Y, py + dy = Y := ⟨_, rfl⟩
      rw [hX] at eX; rw [hY] at eY; rw [hX, hY] at hzv
      clear hz hzz eX eY hdiv
      by_cases hin : inP W H X Y
      · rw [if_pos hin] at hzv
        obtain ⟨p, e, hlp, m0, m1⟩ := inP_at HI.out.1.1 HI.out.1.2 hin
        have hpn : p < n := by have := HNN.out; omega
        obtain ⟨bm, om, zm, rfl, hbm, hzm, hcm⟩ := HR.out.int hpn
        have hv : pixAt W zs X Y = zm := by rw [px_of (H := H) e, hzm]; rfl
        have hcm := cell_later (belowThru hBw hB) hcm
        rw [hv] at hzv
        obtain rfl := hzv
        obtain ⟨⟨i1, i2⟩, i3, i4⟩ := hin
        have r0 : (0 : Int) ≤ (p : Int) := by omega
        have r1 : (p : Int) < (n : Int) := by omega
        have ew : IntKind.i64.wrap (Y * W + X) = (p : Int) := by rw [e]; exact IntWalk.i64_in _ (by omega)
        have ex : Y * W = (p : Int) - X := by omega
        clear e hzm hv hlp
        go_wp2_with fail
        skip
        go_quiet (fail)
        go_wp2
        go_roundw
        case rel => exact ⟨k + 1, hlt, by go_num, by (repeat' (first | (with_reducible exact Below.refl _ _) | (with_reducible assumption) | (with_reducible refine belowThru ?_ (by assumption)) | (with_reducible refine belowAlloc ?_) | (with_reducible refine Below.setCell ?_ (by first | omega | (simp; done) | (simp; omega)) _) | (with_reducible refine Below.drew ?_) | (with_reducible refine below_drewN ?_ _)))⟩
        case measure => simp [intOf]; omega
      · rw [if_neg hin] at hzv
        obtain rfl := hzv
        have hc4 : X < 0 ∨ (¬ X < 0 ∧ ¬ X < W) ∨ (¬ X < 0 ∧ X < W ∧ Y < 0) ∨ (¬ X < 0 ∧ X < W ∧ ¬ Y < 0 ∧ ¬ Y < H) := by unfold inP at hin; omega
        clear hin
        rcases hc4 with i1 | ⟨i1, i2⟩ | ⟨i1, i2, i3⟩ | ⟨i1, i2, i3, i4⟩
        all_goals
          go_wp2_with fail
          go_quiet (fail)
          go_wp2
          go_roundw
          case rel => exact ⟨k + 1, hlt, by go_num, by (repeat' (first | (with_reducible exact Below.refl _ _) | (with_reducible assumption) | (with_reducible refine belowThru ?_ (by assumption)) | (with_reducible refine belowAlloc ?_) | (with_reducible refine Below.setCell ?_ (by first | omega | (simp; done) | (simp; omega)) _) | (with_reducible refine Below.drew ?_) | (with_reducible refine below_drewN ?_ _)))⟩
          case measure => simp [intOf]; omega
    · go_wp2
      go_ret
      exact ⟨rfl, by (repeat' (first | (with_reducible exact Below.refl _ _) | (with_reducible assumption) | (with_reducible refine belowThru ?_ (by assumption)) | (with_reducible refine belowAlloc ?_) | (with_reducible refine Below.setCell ?_ (by first | omega | (simp; done) | (simp; omega)) _) | (with_reducible refine Below.drew ?_) | (with_reducible refine below_drewN ?_ _)))⟩
theorem moved_true (W H dx dy fill : Int) (a : Option Addr) (n c : Nat) (zs : List Int) (hn : n ≤ maxLen) (w : World) (hR : Row w a n (iv zs)) :
    Calls Try.prog 13 #[.agg #[.int .i64 W, .int .i64 H, .slice a n c], .int .i64 dx, .int .i64 dy, .int .i64 fill] w fun e w' => e = .returned (.bool true) ∧ Below w.heap.size w w' := by
  by_cases hI : okI W H zs
  · by_cases hx : (-65536 ≤ dx ∧ dx ≤ 65536) ∧ (-65536 ≤ dy ∧ dy ≤ 65536) ∧ okV fill
    · exact moved_in W H dx dy fill a n c zs hn w hR hI hx.1 hx.2.1 hx.2.2
    · exact moved_out W H dx dy fill a n c zs hn w hR hI hx
  · exact moved_no W H dx dy fill a n c zs hn w hR hI
end Go.Proofs.Ytghmjdmiaajbnaa
