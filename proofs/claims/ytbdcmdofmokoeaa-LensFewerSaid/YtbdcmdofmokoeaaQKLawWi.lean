/-
  Layer 4: one span within another one, by the statements' own code.
-/
import Derived.Test.YtbdcmdofmokoeaaQKLawTiM
import Derived.Test.YtbdcmdofmokoeaaQKLawAdd3
namespace Go.Proofs.Ytbdcmdofmokoeaa
open Go.RowKit Go.Shelf
set_option linter.unusedVariables false
set_option linter.unusedSimpArgs false

set_option maxRecDepth 100000 in
set_option maxHeartbeats 16000000 in
theorem within_walk (l1 l2 l3 l4 m1 m2 m3 m4 : Int) (w : World) (HM : Hid (∀ W : World, Calls Try.prog 46 #[.agg #[.int .i64 l1, .int .i64 l2, .int .i64 l3, .int .i64 l4], .agg #[.int .i64 m1, .int .i64 m2, .int .i64 m3, .int .i64 m4]] W fun e W' => e = .returned (.tuple #[.agg #[.int .i64 l1, .int .i64 l2, .int .i64 l3, .int .i64 l4], .int .i64 0]) ∧ Below W.heap.size W W')) :
    Calls Try.prog 47 #[.agg #[.int .i64 l1, .int .i64 l2, .int .i64 l3, .int .i64 l4], .agg #[.int .i64 m1, .int .i64 m2, .int .i64 m3, .int .i64 m4]] w fun e w' => e = .returned (.bool true) ∧ Below w.heap.size w w' := by
  go_enter Try.func47, Try.ntmps47
  go_wp2_with fail
  refine (HM.out _).mono ?_
  rintro e w1 ⟨rfl, hb⟩
  have kn0 : Blk w1 (w.heap.size) #[.int .i64 l1, .int .i64 l2, .int .i64 l3, .int .i64 l4] 35 := Blk.later hb (by (repeat' (first | (with_reducible assumption) | (with_reducible refine Blk.set2 ?_) | ((with_reducible refine Blk.new ?_); first | rfl | (simp; done)) | (with_reducible refine Blk.later (by assumption) ?_) | (with_reducible refine Blk.alloc ?_) | (with_reducible refine Blk.drewN ?_) | (with_reducible refine Blk.drew ?_) | (with_reducible refine Blk.other ?_ (by first | omega | (simp; done) | (simp; omega))))))
  have kn1 : Blk w1 (w.heap.size + 1) #[.int .i64 m1, .int .i64 m2, .int .i64 m3, .int .i64 m4] 35 := Blk.later hb (by (repeat' (first | (with_reducible assumption) | (with_reducible refine Blk.set2 ?_) | ((with_reducible refine Blk.new ?_); first | rfl | (simp; done)) | (with_reducible refine Blk.later (by assumption) ?_) | (with_reducible refine Blk.alloc ?_) | (with_reducible refine Blk.drewN ?_) | (with_reducible refine Blk.drew ?_) | (with_reducible refine Blk.other ?_ (by first | omega | (simp; done) | (simp; omega))))))
  have k0 := kn0; clear kn0; obtain ⟨a0, b0⟩ := k0.read; have y0 := k0.lt
  have k1 := kn1; clear kn1; obtain ⟨a1, b1⟩ := k1.read; have y1 := k1.lt
  have hBw : Below w.heap.size w w1 := by (repeat' (first | (with_reducible exact Below.refl _ _) | (with_reducible assumption) | (with_reducible refine belowThru ?_ (by assumption)) | (with_reducible refine belowAlloc ?_) | (with_reducible refine Below.setCell ?_ (by first | omega | (simp; done) | (simp; omega)) _) | (with_reducible refine Below.drew ?_) | (with_reducible refine below_drewN ?_ _)))
  have hzw1 := hBw.size
  clear hb
  go_wp2_with fail
  go_ret
  exact ⟨rfl, by (repeat' (first | (with_reducible exact Below.refl _ _) | (with_reducible assumption) | (with_reducible refine belowThru ?_ (by assumption)) | (with_reducible refine belowAlloc ?_) | (with_reducible refine Below.setCell ?_ (by first | omega | (simp; done) | (simp; omega)) _) | (with_reducible refine Below.drew ?_) | (with_reducible refine below_drewN ?_ _)))⟩
theorem within_yes {p q : Rat × Rat} (f1 : fits p.1) (f2 : fits p.2) (f3 : fits q.1) (f4 : fits q.2) (h1 : p.1 ≤ p.2) (h2 : q.1 ≤ p.1) (h3 : p.2 ≤ q.2) (w : World) :
    Calls Try.prog 47 #[.agg (spC p), .agg (spC q)] w fun e w' => e = .returned (.bool true) ∧ Below w.heap.size w w' := by
  obtain ⟨M1, M2, M3, M4, E, HM, hm⟩ := meet_q p.1 p.2 q.1 q.2 f1 f2 f3 f4 h1 (Rat.le_trans h2 (Rat.le_trans h1 h3))
  have e1 : hiQ p.1 [q.1] = p.1 := Rat.le_antisymm ((hi1 _ _ _).2 ⟨Rat.le_refl, h2⟩) ((hi1 _ _ _).1 Rat.le_refl).1
  have e2 : loQ p.2 [q.2] = p.2 := Rat.le_antisymm ((lo1 _ _ _).1 Rat.le_refl).1 ((lo1 _ _ _).2 ⟨Rat.le_refl, h3⟩)
  rw [e1, e2] at hm
  rcases hm with ⟨-, h⟩ | ⟨rfl, -, rfl, rfl, rfl, rfl⟩
  · exact absurd h1 h
  · exact within_walk _ _ _ _ _ _ _ _ w (Lib.hid HM)
end Go.Proofs.Ytbdcmdofmokoeaa
