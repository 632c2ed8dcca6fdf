/-
  Layer 2: the document's own source of a pixel in a warp.
-/
import Derived.Test.YtefphhhmibnjiaaIRefW
namespace Go.Proofs.Ytefphhhmibnjiaa
open Go.RowKit
set_option linter.unusedVariables false
set_option linter.unusedSimpArgs false

set_option maxRecDepth 100000 in
set_option maxHeartbeats 2000000 in
theorem rsource_any (tA tB tC tD tE tF tG x y : Int) (hA : okFa tA) (hB : okFa tB) (hC : okFa tC) (hD : okFa tD) (hE : okFa tE) (hF : okFa tF) (g0 : 1 ≤ tG) (g1 : tG ≤ 65536) (x0 : 0 ≤ x) (x1 : x ≤ 64) (y0 : 0 ≤ y) (y1 : y ≤ 64) (w : World) :
    Calls Try.prog 116 #[.agg #[.int .i64 tA, .int .i64 tB, .int .i64 tC, .int .i64 tD, .int .i64 tE, .int .i64 tF, .int .i64 tG], .int .i64 x, .int .i64 y] w fun e w' => e = .returned (.tuple #[.int .i64 (rnd (tA * x + tB * y + tC) tG), .int .i64 (rnd (tD * x + tE * y + tF) tG)]) ∧ Below w.heap.size w w' := by
  have a1 := fac_mul hA x0 x1; have b1 := fac_mul hB y0 y1; have d1 := fac_mul hD x0 x1; have e1 := fac_mul hE y0 y1
  obtain ⟨c1, c2⟩ := hC
  obtain ⟨f1, f2⟩ := hF
  have H1 : Hid (∀ w, Calls Try.prog 138 #[.int .i64 (2 * (tA * x + tB * y + tC) + tG), .int .i64 (2 * tG)] w fun e w' => e = .returned (.int .i64 (rnd (tA * x + tB * y + tC) tG)) ∧ w = w') := down_any _ _ (by omega) (by omega) (by omega) (by omega)
  have H2 : Hid (∀ w, Calls Try.prog 138 #[.int .i64 (2 * (tD * x + tE * y + tF) + tG), .int .i64 (2 * tG)] w fun e w' => e = .returned (.int .i64 (rnd (tD * x + tE * y + tF) tG)) ∧ w = w') := down_any _ _ (by omega) (by omega) (by omega) (by omega)
  have v1 : IntKind.i64.wrap (tA * x) = tA * x := IntWalk.i64_in _ (by omega)
  have v2 : IntKind.i64.wrap (tB * y) = tB * y := IntWalk.i64_in _ (by omega)
  have v3 : IntKind.i64.wrap (tA * x + tB * y) = tA * x + tB * y := IntWalk.i64_in _ (by omega)
  have v4 : IntKind.i64.wrap (tA * x + tB * y + tC) = tA * x + tB * y + tC := IntWalk.i64_in _ (by omega)
  have v5 : IntKind.i64.wrap (tD * x) = tD * x := IntWalk.i64_in _ (by omega)
  have v6 : IntKind.i64.wrap (tE * y) = tE * y := IntWalk.i64_in _ (by omega)
  have v7 : IntKind.i64.wrap (tD * x + tE * y) = tD * x + tE * y := IntWalk.i64_in _ (by omega)
  have v8 : IntKind.i64.wrap (tD * x + tE * y + tF) = tD * x + tE * y + tF := IntWalk.i64_in _ (by omega)
  have u1 : IntKind.i64.wrap (2 * (tA * x + tB * y + tC)) = 2 * (tA * x + tB * y + tC) := IntWalk.i64_in _ (by omega)
  have u2 : IntKind.i64.wrap (2 * (tA * x + tB * y + tC) + tG) = 2 * (tA * x + tB * y + tC) + tG := IntWalk.i64_in _ (by omega)
  have u3 : IntKind.i64.wrap (2 * (tD * x + tE * y + tF)) = 2 * (tD * x + tE * y + tF) := IntWalk.i64_in _ (by omega)
  have u4 : IntKind.i64.wrap (2 * (tD * x + tE * y + tF) + tG) = 2 * (tD * x + tE * y + tF) + tG := IntWalk.i64_in _ (by omega)
  have u5 : IntKind.i64.wrap (2 * tG) = 2 * tG := IntWalk.i64_in _ (by omega)
  clear hA hB hD hE
  have hmx : Try.prog.follows .mixedOrders = true := by kernel_rfl
  go_enter Try.func116, Try.ntmps116
  go_wp2
  have k0 : Blk (w.alloc (.cells #[.int .i64 tA, .int .i64 tB, .int .i64 tC, .int .i64 tD, .int .i64 tE, .int .i64 tF, .int .i64 tG] 52)) w.heap.size #[.int .i64 tA, .int .i64 tB, .int .i64 tC, .int .i64 tD, .int .i64 tE, .int .i64 tF, .int .i64 tG] 52 := Blk.new rfl
  have hB : Below w.heap.size w (w.alloc (.cells #[.int .i64 tA, .int .i64 tB, .int .i64 tC, .int .i64 tD, .int .i64 tE, .int .i64 tF, .int .i64 tG] 52)) := by (repeat' (first | (with_reducible exact Below.refl _ _) | (with_reducible assumption) | (with_reducible refine belowThru ?_ (by assumption)) | (with_reducible refine belowAlloc ?_) | (with_reducible refine Below.setCell ?_ (by first | omega | (simp; done) | (simp; omega)) _) | (with_reducible refine Below.drew ?_) | (with_reducible refine below_drewN ?_ _)))
  obtain ⟨W0, hW0⟩ : ∃ W0, w.alloc (.cells #[.int .i64 tA, .int .i64 tB, .int .i64 tC, .int .i64 tD, .int .i64 tE, .int .i64 tF, .int .i64 tG] 52) = W0 := ⟨_, rfl⟩
  rw [hW0] at k0 hB ⊢
  clear hW0
  obtain ⟨a0, b0⟩ := k0.read
  refine wp_region_still_lit hmx (by kernel_rfl) ?_
  repeat still_step
  still_call ((H1.out _).mono fun e w1 h => ⟨h.1, h.2.symm⟩)
  repeat still_step
  still_call ((H2.out _).mono fun e w1 h => ⟨h.1, h.2.symm⟩)
  repeat still_step
  refine wpStill_nil ?_
  go_wp2
  go_ret2
  exact ⟨rfl, hB.drew⟩
end Go.Proofs.Ytefphhhmibnjiaa
