/-
  Layer 2: pixels by their places; the source of a pixel in a warp.
-/
import Derived.Test.YtihefdlolfpbnaaIQuot
import Derived.Test.YtihefdlolfpbnaaIRow
import Derived.Test.YtihefdlolfpbnaaICheck
namespace Go.Proofs.Ytihefdlolfpbnaa
open Go.RowKit
set_option linter.unusedVariables false
set_option linter.unusedSimpArgs false

/-- The value of a pixel. -/
def pixAt (W : Int) (zs : List Int) (x y : Int) : Int := zs[(y * W + x).toNat]?.getD 0
theorem inP_at {W H x y : Int} (hW : okS W) (hH : okS H) (h : inP W H x y) : ∃ p : Nat, y * W + x = (p : Int) ∧ (p : Int) < W * H ∧ 0 ≤ y * W ∧ y * W ≤ 256 := by
  obtain ⟨⟨x0, x1⟩, y0, y1⟩ := h
  obtain ⟨w0, w1⟩ := hW
  obtain ⟨h0, h1⟩ := hH
  have a := Int.mul_nonneg y0 (show 0 ≤ W by omega)
  have b := Int.mul_le_mul_of_nonneg_right (show y + 1 ≤ H by omega) (show 0 ≤ W by omega)
  have c := Int.mul_le_mul (show y ≤ 16 by omega) w1 (by omega) (by omega)
  have e : (y + 1) * W = y * W + W := by rw [Int.add_mul, Int.one_mul]
  have f : H * W = W * H := Int.mul_comm _ _
  exact ⟨(y * W + x).toNat, by omega, by omega, a, by omega⟩
set_option maxHeartbeats 1000000 in
/-- The value of a pixel of a valid image. -/
theorem at_z (W H x y : Int) (a : Option Addr) (n c : Nat) (zs : List Int) (hI : okI W H zs) (hp : inP W H x y) (w : World) (hR : Row w a n (iv zs)) :
    Calls Try.prog 58 #[.agg #[.int .i64 W, .int .i64 H, .slice a n c], .agg #[.int .i64 x, .int .i64 y]] w fun e w' => e = .returned (.int .i64 (pixAt W zs x y)) ∧ Below w.heap.size w w' := by
  obtain ⟨⟨hW, hH⟩, hL, -⟩ := hI
  obtain ⟨p, e, hlt, -, -⟩ := inP_at hW hH hp
  have hn : zs.length = n := by have := hR.1; rwa [iv_length] at this
  obtain ⟨b, off, z, rfl, -, hz, hc⟩ := hR.int (show p < n by omega)
  have hv : pixAt W zs x y = z := by unfold pixAt; rw [e, Int.toNat_natCast, hz]; rfl
  rw [hv]
  obtain ⟨⟨x0, x1⟩, y0, y1⟩ := hp
  obtain ⟨w0, w1⟩ := hW
  obtain ⟨h0, h1⟩ := hH
  exact at_any W H x y p b off n c z (Lib.hid e) y0 (by omega) (by omega) (by omega) x0 (by omega) (by omega) w hc
set_option maxHeartbeats 1000000 in
theorem rat_z (W H x y : Int) (a : Option Addr) (n c : Nat) (zs : List Int) (hI : okI W H zs) (hp : inP W H x y) (w : World) (hR : Row w a n (iv zs)) :
    Calls Try.prog 117 #[.agg #[.int .i64 W, .int .i64 H, .slice a n c], .int .i64 x, .int .i64 y] w fun e w' => e = .returned (.int .i64 (pixAt W zs x y)) ∧ Below w.heap.size w w' := by
  obtain ⟨⟨hW, hH⟩, hL, -⟩ := hI
  obtain ⟨p, e, hlt, m0, m1⟩ := inP_at hW hH hp
  have hn : zs.length = n := by have := hR.1; rwa [iv_length] at this
  obtain ⟨b, off, z, rfl, -, hz, hc⟩ := hR.int (show p < n by omega)
  have hv : pixAt W zs x y = z := by unfold pixAt; rw [e, Int.toNat_natCast, hz]; rfl
  rw [hv]
  clear hv hz hR
  have hc := cell_alloc (o := .cells #[.int .i64 W, .int .i64 H, .slice (some ⟨b, off, none⟩) n c] 24) hc
  have p0 : (0 : Int) ≤ (p : Int) := by omega
  have p1 : (p : Int) < (n : Int) := by omega
  obtain ⟨⟨x0, x1⟩, y0, y1⟩ := hp
  obtain ⟨w0, w1⟩ := hW
  obtain ⟨h0, h1⟩ := hH
  have ew : IntKind.i64.wrap (y * W + x) = (p : Int) := by rw [e]; exact IntWalk.i64_in _ (by omega)
  have ex : y * W = (p : Int) - x := by omega
  clear hL hlt hn e
  go_enter Try.func117, Try.ntmps117
  go_wp2
  go_ret
  exact ⟨rfl, by (repeat' (first | (with_reducible exact Below.refl _ _) | (with_reducible assumption) | (with_reducible refine belowThru ?_ (by assumption)) | (with_reducible refine belowAlloc ?_) | (with_reducible refine Below.setCell ?_ (by first | omega | (simp; done) | (simp; omega)) _) | (with_reducible refine Below.drew ?_) | (with_reducible refine below_drewN ?_ _)))⟩
set_option maxHeartbeats 1000000 in
theorem inside_any (W H x y : Int) (hW : okS W) (hH : okS H) (a : Option Addr) (n c : Nat) (w : World) :
    Calls Try.prog 120 #[.agg #[.int .i64 W, .int .i64 H, .slice a n c], .int .i64 x, .int .i64 y] w fun e w' => e = .returned (.bool (decide (inP W H x y))) ∧ Below w.heap.size w w' := by
  obtain ⟨w0, w1⟩ := hW
  obtain ⟨h0, h1⟩ := hH
  by_cases hx : 0 ≤ x ∧ x < W
  · have H1 := Lib.hid (rwithin_any x 0 (W - 1) true (by simp; omega))
    by_cases hy : 0 ≤ y ∧ y < H
    · have H2 := Lib.hid (rwithin_any y 0 (H - 1) true (by simp; omega))
      rw [decide_eq_true (show inP W H x y from ⟨hx, hy⟩)]
      clear hx hy
      go_enter Try.func120, Try.ntmps120
      go_wp2_with (first
        | (go_at_call 96; (with_reducible refine (H1.out _).mono ?_); rintro e w1 ⟨rfl, rfl⟩)
        | (go_at_call 96; (with_reducible refine (H2.out _).mono ?_); rintro e w1 ⟨rfl, rfl⟩))
      go_ret
      exact ⟨rfl, by (repeat' (first | (with_reducible exact Below.refl _ _) | (with_reducible assumption) | (with_reducible refine belowThru ?_ (by assumption)) | (with_reducible refine belowAlloc ?_) | (with_reducible refine Below.setCell ?_ (by first | omega | (simp; done) | (simp; omega)) _) | (with_reducible refine Below.drew ?_) | (with_reducible refine below_drewN ?_ _)))⟩
    · have H2 := Lib.hid (rwithin_any y 0 (H - 1) false (by simp; omega))
      rw [decide_eq_false (fun h : inP W H x y => hy h.2)]
      clear hx hy
      go_enter Try.func120, Try.ntmps120
      go_wp2_with (first
        | (go_at_call 96; (with_reducible refine (H1.out _).mono ?_); rintro e w1 ⟨rfl, rfl⟩)
        | (go_at_call 96; (with_reducible refine (H2.out _).mono ?_); rintro e w1 ⟨rfl, rfl⟩))
      go_ret
      exact ⟨rfl, by (repeat' (first | (with_reducible exact Below.refl _ _) | (with_reducible assumption) | (with_reducible refine belowThru ?_ (by assumption)) | (with_reducible refine belowAlloc ?_) | (with_reducible refine Below.setCell ?_ (by first | omega | (simp; done) | (simp; omega)) _) | (with_reducible refine Below.drew ?_) | (with_reducible refine below_drewN ?_ _)))⟩
  · have H1 := Lib.hid (rwithin_any x 0 (W - 1) false (by simp; omega))
    rw [decide_eq_false (fun h : inP W H x y => hx h.1)]
    clear hx
    go_enter Try.func120, Try.ntmps120
    go_wp2_with (go_at_call 96; (with_reducible refine (H1.out _).mono ?_); rintro e w1 ⟨rfl, rfl⟩)
    go_ret
    exact ⟨rfl, by (repeat' (first | (with_reducible exact Below.refl _ _) | (with_reducible assumption) | (with_reducible refine belowThru ?_ (by assumption)) | (with_reducible refine belowAlloc ?_) | (with_reducible refine Below.setCell ?_ (by first | omega | (simp; done) | (simp; omega)) _) | (with_reducible refine Below.drew ?_) | (with_reducible refine below_drewN ?_ _)))⟩

/-! ### The source of a pixel -/
/-- A number that may be a factor. -/
def okFa (n : Int) : Prop := -65536 ≤ n ∧ n ≤ 65536
instance (n : Int) : Decidable (okFa n) := inferInstanceAs (Decidable (_ ∧ _))
theorem fac_mul {t x : Int} (ht : okFa t) (h0 : 0 ≤ x) (h1 : x ≤ 64) : -4194304 ≤ t * x ∧ t * x ≤ 4194304 := by
  obtain ⟨a, b⟩ := ht
  have c := Int.mul_le_mul_of_nonneg_right b h0
  have d := Int.mul_le_mul_of_nonneg_right a h0
  have e := Int.mul_le_mul_of_nonneg_left h1 (show (0 : Int) ≤ 65536 by omega)
  omega
theorem alloc3 (w : World) (c0 : Array Value) (t0 : TypeId) (c1 : Array Value) (t1 : TypeId) (c2 : Array Value) (t2 : TypeId) :
    ∃ W0, ((w.alloc (.cells c0 t0)).alloc (.cells c1 t1)).alloc (.cells c2 t2) = W0 ∧ Blk W0 w.heap.size c0 t0 ∧ Blk W0 (w.heap.size + 1) c1 t1 ∧ Blk W0 (w.heap.size + 1 + 1) c2 t2 ∧ Below w.heap.size w W0 :=
  ⟨_, rfl, Blk.alloc (Blk.alloc (Blk.new rfl)), Blk.alloc (Blk.new (by simp)), Blk.new (by simp), by (repeat' (first | (with_reducible exact Below.refl _ _) | (with_reducible assumption) | (with_reducible refine belowThru ?_ (by assumption)) | (with_reducible refine belowAlloc ?_) | (with_reducible refine Below.setCell ?_ (by first | omega | (simp; done) | (simp; omega)) _) | (with_reducible refine Below.drew ?_) | (with_reducible refine below_drewN ?_ _)))⟩
set_option maxRecDepth 100000 in
set_option maxHeartbeats 2000000 in
theorem source_any (tA tB tC tD tE tF tG x y : Int) (hA : okFa tA) (hB : okFa tB) (hC : okFa tC) (hD : okFa tD) (hE : okFa tE) (hF : okFa tF) (g0 : 1 ≤ tG) (g1 : tG ≤ 65536) (x0 : 0 ≤ x) (x1 : x ≤ 64) (y0 : 0 ≤ y) (y1 : y ≤ 64) (w : World) :
    Calls Try.prog 83 #[.agg #[.int .i64 tA, .int .i64 tB, .int .i64 tC, .int .i64 tD, .int .i64 tE, .int .i64 tF, .int .i64 tG], .agg #[.int .i64 x, .int .i64 y]] w fun e w' => e = .returned (.agg #[.int .i64 (rnd (tA * x + tB * y + tC) tG), .int .i64 (rnd (tD * x + tE * y + tF) tG)]) ∧ Below w.heap.size w w' := by
  have a1 := fac_mul hA x0 x1; have b1 := fac_mul hB y0 y1; have d1 := fac_mul hD x0 x1; have e1 := fac_mul hE y0 y1
  obtain ⟨c1, c2⟩ := hC
  obtain ⟨f1, f2⟩ := hF
  have H1 := Lib.hid (rounded_any (tA * x + tB * y + tC) tG g0 (by omega) (by omega) (by omega))
  have H2 := Lib.hid (rounded_any (tD * x + tE * y + tF) tG g0 (by omega) (by omega) (by omega))
  have v1 : IntKind.i64.wrap (tA * x) = tA * x := IntWalk.i64_in _ (by omega)
  have v2 : IntKind.i64.wrap (tB * y) = tB * y := IntWalk.i64_in _ (by omega)
  have v3 : IntKind.i64.wrap (tA * x + tB * y) = tA * x + tB * y := IntWalk.i64_in _ (by omega)
  have v4 : IntKind.i64.wrap (tA * x + tB * y + tC) = tA * x + tB * y + tC := IntWalk.i64_in _ (by omega)
  have v5 : IntKind.i64.wrap (tD * x) = tD * x := IntWalk.i64_in _ (by omega)
  have v6 : IntKind.i64.wrap (tE * y) = tE * y := IntWalk.i64_in _ (by omega)
  have v7 : IntKind.i64.wrap (tD * x + tE * y) = tD * x + tE * y := IntWalk.i64_in _ (by omega)
  have v8 : IntKind.i64.wrap (tD * x + tE * y + tF) = tD * x + tE * y + tF := IntWalk.i64_in _ (by omega)
  clear hA hB hD hE
  go_enter Try.func83, Try.ntmps83
  go_wp2
  obtain ⟨W0, hW0, k0, k1, k2, hB⟩ := alloc3 w #[.int .i64 tA, .int .i64 tB, .int .i64 tC, .int .i64 tD, .int .i64 tE, .int .i64 tF, .int .i64 tG] 52 #[.int .i64 x, .int .i64 y] 86 #[.int .i64 0, .int .i64 0] 86
  rw [hW0]
  clear hW0
  obtain ⟨a0, b0⟩ := k0.read; obtain ⟨a1, b1⟩ := k1.read; obtain ⟨a2, b2⟩ := k2.read
  refine wp_region_still_tail 35 (by kernel_rfl) (by kernel_rfl) ?_
  simp only [List.take_succ_cons, List.take_zero, List.drop_succ_cons, List.drop_zero]
  repeat still_step
  still_call ((H1.out _).mono fun e w1 h => ⟨h.1, h.2.symm⟩)
  repeat still_step
  still_call ((H2.out _).mono fun e w1 h => ⟨h.1, h.2.symm⟩)
  repeat still_step
  refine wpStill_nil ?_
  go_wp2
  have k2' : Blk ((W0.drew.setCell ⟨w.heap.size + 1 + 1, 0, none⟩ (.int .i64 (rnd (tA * x + tB * y + tC) tG))).setCell ⟨w.heap.size + 1 + 1, 1, none⟩ (.int .i64 (rnd (tD * x + tE * y + tF) tG))) (w.heap.size + 1 + 1) #[.int .i64 (rnd (tA * x + tB * y + tC) tG), .int .i64 (rnd (tD * x + tE * y + tF) tG)] 86 := Blk.set (Blk.set k2.drew)
  have q2 := k2'.cells
  exact bodyPost_ret (v := .agg #[.int .i64 (rnd (tA * x + tB * y + tC) tG), .int .i64 (rnd (tD * x + tE * y + tF) tG)]) (by simp only [results, Try.results83]; go_simp) rfl ⟨rfl, by (repeat' (first | (with_reducible exact Below.refl _ _) | (with_reducible assumption) | (with_reducible refine belowThru ?_ (by assumption)) | (with_reducible refine belowAlloc ?_) | (with_reducible refine Below.setCell ?_ (by first | omega | (simp; done) | (simp; omega)) _) | (with_reducible refine Below.drew ?_) | (with_reducible refine below_drewN ?_ _)))⟩
end Go.Proofs.Ytihefdlolfpbnaa
