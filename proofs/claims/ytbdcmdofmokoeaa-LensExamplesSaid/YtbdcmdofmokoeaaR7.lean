/-
  The texts that the laws of this seat share, merged: part 7.
-/
import Derived.BigQuiet
import Derived.Deep.CutBlock
import Derived.Deep.CutRange
import Derived.Deep.DeepCutAuto
import Derived.Deep.Draws
import Derived.Deep.LoopGhost
import Derived.Deep.QuietTactic
import Derived.Deep.RegionHeld3
import Derived.IntWalk
import Derived.Laws.AppendOwn
import Derived.Laws.Bits64b
import Derived.Laws.BitsAll
import Derived.Laws.BitsAllLaws
import Derived.Lib.Hide
import Derived.Lib.ItoaNum
import Derived.LoopIn
import Derived.LoopNIn
import Derived.LoopTactic
import Derived.OneCell
import Derived.Orders
import Derived.OwnWalkIn
import Derived.RangeFuncBound
import Derived.RangeFuncCalls
import Derived.RangeFuncLeaves
import Derived.RangeFuncNested
import Derived.Shelf.Abstract
import Derived.Shelf.AbstractIn
import Derived.Shelf.Bits.Mul64
import Derived.Shelf.RegionOpen
import Derived.Shelf.Small.Bits
import Derived.Shelf.Spec.BitsCarry
import Derived.Shelf.Strconv.Itoa0
import Derived.StillTailTactics
import Derived.TacticsInMore
import Derived.Test.YtbdcmdofmokoeaaProg
import Derived.WalkKit
import Derived.WalkLawsBesides
import Derived.WalkSmall
import Derived.WalkSpells
import Derived.Test.YtbdcmdofmokoeaaR1
import Derived.Test.YtbdcmdofmokoeaaR6
/-
  Layer 4: the focal length, the place of a target, the camera, the range, by the code: the walks.
-/
namespace Go.Proofs.Ytbdcmdofmokoeaa
open Go.RowKit Go.Shelf
set_option linter.unusedVariables false
set_option linter.unusedSimpArgs false

theorem rules_calls (a : Option Addr) (n c g : Nat) (cap : Array Value) (w : World) :
    Calls Try.prog 88 #[.slice a n c, .func (.func g) #[] cap] w fun e w' => (∃ Bl Br : Nat, e = .returned (.func (.func 113) #[] #[.pointer (some ⟨Bl, 0, none⟩), .pointer (some ⟨Br, 0, none⟩)]) ∧ w'.cell? ⟨Bl, 0, none⟩ = some (.slice a n c) ∧ w'.cell? ⟨Br, 0, none⟩ = some (.func (.func g) #[] cap)) ∧ Below w.heap.size w w' := by
  refine (rules_any a n c g cap w).mono ?_
  rintro e w' ⟨rfl, rfl⟩
  exact ⟨⟨_, _, rfl, by simp [go_sem], by simp [go_sem]⟩, by (repeat' (first | (with_reducible exact Below.refl _ _) | (with_reducible assumption) | (with_reducible refine belowThru ?_ (by assumption)) | (with_reducible refine belowAlloc ?_) | (with_reducible refine Below.setCell ?_ (by first | omega | (simp; done) | (simp; omega)) _) | (with_reducible refine Below.drew ?_) | (with_reducible refine below_drewN ?_ _)))⟩
theorem Blk.set8 {w : World} {b : Nat} {x0 x1 x2 x3 x4 x5 x6 x7 v0 v1 v2 v3 v4 v5 v6 v7 : Value} {t : TypeId} (h : Blk w b #[x0, x1, x2, x3, x4, x5, x6, x7] t) :
    Blk ((((((((w.setCell ⟨b, 0, none⟩ v0).setCell ⟨b, 1, none⟩ v1).setCell ⟨b, 2, none⟩ v2).setCell ⟨b, 3, none⟩ v3).setCell ⟨b, 4, none⟩ v4).setCell ⟨b, 5, none⟩ v5).setCell ⟨b, 6, none⟩ v6).setCell ⟨b, 7, none⟩ v7) b #[v0, v1, v2, v3, v4, v5, v6, v7] t := by
  have k := Blk.set (i := 7) (v := v7) (Blk.set (i := 6) (v := v6) (Blk.set (i := 5) (v := v5) (Blk.set (i := 4) (v := v4) (Blk.set (i := 3) (v := v3) (Blk.set (i := 2) (v := v2) (Blk.set (i := 1) (v := v1) (Blk.set (i := 0) (v := v0) h)))))))
  simpa using k
theorem ret_one {P : Program} {fn : Func} {R : Ending → World → Prop} {a : Act} {W : World} {v : Value} {b2 : Nat} {c2 : Array Value} {t : TypeId} (k2 : Blk W b2 c2 t)
    (h : (∀ i : Nat, W.cell? ⟨b2, i, none⟩ = c2[i]?) → (results fn a.tmps).run P W = .ok v W) (hd : a.defers = []) (hR : R (.returned v) W) : bodyPost P fn R .ret a W :=
  bodyPost_ret (h k2.cells) hd hR
set_option maxRecDepth 100000 in
set_option maxHeartbeats 16000000 in
theorem focal_6 (a : Option Addr) (n c : Nat) (p1 p2 p3 p4 q1 q2 q3 q4 E : Int) (w : World) (HS : Hid (∀ (Bl Br : Nat) (W : World), W.cell? ⟨Bl, 0, none⟩ = some (.slice a n c) → W.cell? ⟨Br, 0, none⟩ = some (.func (.func 89) #[] #[]) → Below w.heap.size w W → Calls Try.prog 87 #[.func (.func 113) #[] #[.pointer (some ⟨Bl, 0, none⟩), .pointer (some ⟨Br, 0, none⟩)]] W fun e W' => e = .returned (.tuple #[.agg #[.int .i64 p1, .int .i64 p2, .int .i64 p3, .int .i64 p4], .int .i64 6]) ∧ Below W.heap.size W W')) :
    Calls Try.prog 59 #[.slice a n c] w fun e w' => e = .returned (.tuple #[.agg #[.int .i64 p1, .int .i64 p2, .int .i64 p3, .int .i64 p4], .int .i64 6]) ∧ Below w.heap.size w w' := by
  have HE := Lib.hid everything_any
  go_enter Try.func59, Try.ntmps59
  go_wp2_with fail
  refine (rules_calls _ _ _ _ _ _).mono ?_
  rintro e w1 ⟨⟨Bl, Br, rfl, hbl, hbr⟩, hb⟩
  have kn0 : Blk w1 (w.heap.size) #[.int .i64 0, .int .i64 0, .int .i64 0, .int .i64 0] 35 := Blk.later hb (by (repeat' (first | (with_reducible assumption) | (with_reducible refine Blk.set2 ?_) | ((with_reducible refine Blk.new ?_); first | rfl | (simp; done)) | (with_reducible refine Blk.later (by assumption) ?_) | (with_reducible refine Blk.alloc ?_) | (with_reducible refine Blk.drewN ?_) | (with_reducible refine Blk.drew ?_) | (with_reducible refine Blk.other ?_ (by first | omega | (simp; done) | (simp; omega))))))
  have k0 := kn0; clear kn0; obtain ⟨a0, b0⟩ := k0.read; have y0 := k0.lt
  have hBw : Below w.heap.size w w1 := by (repeat' (first | (with_reducible exact Below.refl _ _) | (with_reducible assumption) | (with_reducible refine belowThru ?_ (by assumption)) | (with_reducible refine belowAlloc ?_) | (with_reducible refine Below.setCell ?_ (by first | omega | (simp; done) | (simp; omega)) _) | (with_reducible refine Below.drew ?_) | (with_reducible refine below_drewN ?_ _)))
  have hzw1 := hBw.size
  clear hb
  go_wp2_with fail
  refine (HS.out _ _ _ hbl hbr hBw).mono ?_
  rintro e w2 ⟨rfl, hb⟩
  have kn0 : Blk w2 (w.heap.size) #[.int .i64 0, .int .i64 0, .int .i64 0, .int .i64 0] 35 := Blk.later hb (by (repeat' (first | (with_reducible assumption) | (with_reducible refine Blk.set2 ?_) | ((with_reducible refine Blk.new ?_); first | rfl | (simp; done)) | (with_reducible refine Blk.later (by assumption) ?_) | (with_reducible refine Blk.alloc ?_) | (with_reducible refine Blk.drewN ?_) | (with_reducible refine Blk.drew ?_) | (with_reducible refine Blk.other ?_ (by first | omega | (simp; done) | (simp; omega))))))
  clear k0 a0 b0 y0
  have k0 := kn0; clear kn0; obtain ⟨a0, b0⟩ := k0.read; have y0 := k0.lt
  replace hBw : Below w.heap.size w w2 := belowThru (by (repeat' (first | (with_reducible exact Below.refl _ _) | (with_reducible assumption) | (with_reducible refine belowThru ?_ (by assumption)) | (with_reducible refine belowAlloc ?_) | (with_reducible refine Below.setCell ?_ (by first | omega | (simp; done) | (simp; omega)) _) | (with_reducible refine Below.drew ?_) | (with_reducible refine below_drewN ?_ _)))) hb
  have hzw2 := hBw.size
  clear hb
  go_wp2_with fail
  obtain ⟨Wp, hWp⟩ : ∃ Wp, (w2.alloc (.cells #[.int .i64 p1, .int .i64 p2, .int .i64 p3, .int .i64 p4] 35)) = Wp := ⟨_, rfl⟩
  have kn0 : Blk Wp (w.heap.size) #[.int .i64 0, .int .i64 0, .int .i64 0, .int .i64 0] 35 := by rw [← hWp]; (repeat' (first | (with_reducible assumption) | ((with_reducible refine Blk.new ?_); first | rfl | (simp; done)) | (with_reducible refine Blk.later (by assumption) ?_) | (with_reducible refine Blk.alloc ?_) | (with_reducible refine Blk.drewN ?_) | (with_reducible refine Blk.drew ?_) | (with_reducible refine Blk.other ?_ (by first | omega | (simp; done) | (simp; omega)))))
  have kn1 : Blk Wp (w2.heap.size) #[.int .i64 p1, .int .i64 p2, .int .i64 p3, .int .i64 p4] 35 := by rw [← hWp]; (repeat' (first | (with_reducible assumption) | ((with_reducible refine Blk.new ?_); first | rfl | (simp; done)) | (with_reducible refine Blk.later (by assumption) ?_) | (with_reducible refine Blk.alloc ?_) | (with_reducible refine Blk.drewN ?_) | (with_reducible refine Blk.drew ?_) | (with_reducible refine Blk.other ?_ (by first | omega | (simp; done) | (simp; omega)))))
  replace hBw : Below w.heap.size w Wp := by rw [← hWp]; (repeat' (first | (with_reducible exact Below.refl _ _) | (with_reducible assumption) | (with_reducible refine belowThru ?_ (by assumption)) | (with_reducible refine belowAlloc ?_) | (with_reducible refine Below.setCell ?_ (by first | omega | (simp; done) | (simp; omega)) _) | (with_reducible refine Below.drew ?_) | (with_reducible refine below_drewN ?_ _)))
  clear k0 a0 b0 y0
  rw [hWp]
  clear hWp
  have k0 := kn0; clear kn0; have y0 := k0.lt
  have k1 := kn1; clear kn1; have y1 := k1.lt
  go_quiet (fail)
  obtain ⟨a0, b0⟩ := k0.read; obtain ⟨a1, b1⟩ := k1.read
  go_wp2_with fail
  exact bodyPost_ret (v := .tuple #[.agg #[.int .i64 p1, .int .i64 p2, .int .i64 p3, .int .i64 p4], .int .i64 6]) (by simp only [results, Try.results59]; go_simp) rfl ⟨rfl, by (repeat' (first | (with_reducible exact Below.refl _ _) | (with_reducible assumption) | (with_reducible refine belowThru ?_ (by assumption)) | (with_reducible refine belowAlloc ?_) | (with_reducible refine Below.setCell ?_ (by first | omega | (simp; done) | (simp; omega)) _) | (with_reducible refine Below.drew ?_) | (with_reducible refine below_drewN ?_ _)))⟩
set_option maxRecDepth 100000 in
set_option maxHeartbeats 16000000 in
theorem focal_43 (a : Option Addr) (n c : Nat) (p1 p2 p3 p4 q1 q2 q3 q4 E : Int) (w : World) (HS : Hid (∀ (Bl Br : Nat) (W : World), W.cell? ⟨Bl, 0, none⟩ = some (.slice a n c) → W.cell? ⟨Br, 0, none⟩ = some (.func (.func 89) #[] #[]) → Below w.heap.size w W → Calls Try.prog 87 #[.func (.func 113) #[] #[.pointer (some ⟨Bl, 0, none⟩), .pointer (some ⟨Br, 0, none⟩)]] W fun e W' => e = .returned (.tuple #[.agg #[.int .i64 (-4611686018427387903), .int .i64 1, .int .i64 4611686018427387903, .int .i64 1], .int .i64 0]) ∧ Below W.heap.size W W')) :
    Calls Try.prog 59 #[.slice a n c] w fun e w' => e = .returned (.tuple #[.agg #[.int .i64 0, .int .i64 0, .int .i64 0, .int .i64 0], .int .i64 43]) ∧ Below w.heap.size w w' := by
  have HE := Lib.hid everything_any
  go_enter Try.func59, Try.ntmps59
  go_wp2_with fail
  refine (rules_calls _ _ _ _ _ _).mono ?_
  rintro e w1 ⟨⟨Bl, Br, rfl, hbl, hbr⟩, hb⟩
  have kn0 : Blk w1 (w.heap.size) #[.int .i64 0, .int .i64 0, .int .i64 0, .int .i64 0] 35 := Blk.later hb (by (repeat' (first | (with_reducible assumption) | (with_reducible refine Blk.set2 ?_) | ((with_reducible refine Blk.new ?_); first | rfl | (simp; done)) | (with_reducible refine Blk.later (by assumption) ?_) | (with_reducible refine Blk.alloc ?_) | (with_reducible refine Blk.drewN ?_) | (with_reducible refine Blk.drew ?_) | (with_reducible refine Blk.other ?_ (by first | omega | (simp; done) | (simp; omega))))))
  have k0 := kn0; clear kn0; obtain ⟨a0, b0⟩ := k0.read; have y0 := k0.lt
  have hBw : Below w.heap.size w w1 := by (repeat' (first | (with_reducible exact Below.refl _ _) | (with_reducible assumption) | (with_reducible refine belowThru ?_ (by assumption)) | (with_reducible refine belowAlloc ?_) | (with_reducible refine Below.setCell ?_ (by first | omega | (simp; done) | (simp; omega)) _) | (with_reducible refine Below.drew ?_) | (with_reducible refine below_drewN ?_ _)))
  have hzw1 := hBw.size
  clear hb
  go_wp2_with fail
  refine (HS.out _ _ _ hbl hbr hBw).mono ?_
  rintro e w2 ⟨rfl, hb⟩
  have kn0 : Blk w2 (w.heap.size) #[.int .i64 0, .int .i64 0, .int .i64 0, .int .i64 0] 35 := Blk.later hb (by (repeat' (first | (with_reducible assumption) | (with_reducible refine Blk.set2 ?_) | ((with_reducible refine Blk.new ?_); first | rfl | (simp; done)) | (with_reducible refine Blk.later (by assumption) ?_) | (with_reducible refine Blk.alloc ?_) | (with_reducible refine Blk.drewN ?_) | (with_reducible refine Blk.drew ?_) | (with_reducible refine Blk.other ?_ (by first | omega | (simp; done) | (simp; omega))))))
  clear k0 a0 b0 y0
  have k0 := kn0; clear kn0; obtain ⟨a0, b0⟩ := k0.read; have y0 := k0.lt
  replace hBw : Below w.heap.size w w2 := belowThru (by (repeat' (first | (with_reducible exact Below.refl _ _) | (with_reducible assumption) | (with_reducible refine belowThru ?_ (by assumption)) | (with_reducible refine belowAlloc ?_) | (with_reducible refine Below.setCell ?_ (by first | omega | (simp; done) | (simp; omega)) _) | (with_reducible refine Below.drew ?_) | (with_reducible refine below_drewN ?_ _)))) hb
  have hzw2 := hBw.size
  clear hb
  go_wp2_with fail
  obtain ⟨Wp, hWp⟩ : ∃ Wp, (w2.alloc (.cells #[.int .i64 (-4611686018427387903), .int .i64 1, .int .i64 4611686018427387903, .int .i64 1] 35)) = Wp := ⟨_, rfl⟩
  have kn0 : Blk Wp (w.heap.size) #[.int .i64 0, .int .i64 0, .int .i64 0, .int .i64 0] 35 := by rw [← hWp]; (repeat' (first | (with_reducible assumption) | ((with_reducible refine Blk.new ?_); first | rfl | (simp; done)) | (with_reducible refine Blk.later (by assumption) ?_) | (with_reducible refine Blk.alloc ?_) | (with_reducible refine Blk.drewN ?_) | (with_reducible refine Blk.drew ?_) | (with_reducible refine Blk.other ?_ (by first | omega | (simp; done) | (simp; omega)))))
  have kn1 : Blk Wp (w2.heap.size) #[.int .i64 (-4611686018427387903), .int .i64 1, .int .i64 4611686018427387903, .int .i64 1] 35 := by rw [← hWp]; (repeat' (first | (with_reducible assumption) | ((with_reducible refine Blk.new ?_); first | rfl | (simp; done)) | (with_reducible refine Blk.later (by assumption) ?_) | (with_reducible refine Blk.alloc ?_) | (with_reducible refine Blk.drewN ?_) | (with_reducible refine Blk.drew ?_) | (with_reducible refine Blk.other ?_ (by first | omega | (simp; done) | (simp; omega)))))
  replace hBw : Below w.heap.size w Wp := by rw [← hWp]; (repeat' (first | (with_reducible exact Below.refl _ _) | (with_reducible assumption) | (with_reducible refine belowThru ?_ (by assumption)) | (with_reducible refine belowAlloc ?_) | (with_reducible refine Below.setCell ?_ (by first | omega | (simp; done) | (simp; omega)) _) | (with_reducible refine Below.drew ?_) | (with_reducible refine below_drewN ?_ _)))
  clear k0 a0 b0 y0
  rw [hWp]
  clear hWp
  have k0 := kn0; clear kn0; have y0 := k0.lt
  have k1 := kn1; clear kn1; have y1 := k1.lt
  go_cut [18] (fun s18 wx => s18 = .bool true ∧ Below Wp.heap.size Wp wx)
  case first =>
    go_region_held3 (fun w' => (Blk w' (w2.heap.size) #[.int .i64 (-4611686018427387903), .int .i64 1, .int .i64 4611686018427387903, .int .i64 1] 35 ∧ (∀ i : Nat, w'.cell? ⟨w2.heap.size, i, none⟩ = (#[.int .i64 (-4611686018427387903), .int .i64 1, .int .i64 4611686018427387903, .int .i64 1] : Array Value)[i]?)) ∧ Below Wp.heap.size Wp w')
      (((first | (apply hold1; (focus assumption); intro p0 pB) | skip); refine ⟨Blk.full ?_, ?_⟩; all_goals (first | ((repeat' (first | (with_reducible assumption) | ((with_reducible refine Blk.new ?_); first | rfl | (simp; done)) | (with_reducible refine Blk.later (by assumption) ?_) | (with_reducible refine Blk.alloc ?_) | (with_reducible refine Blk.drewN ?_) | (with_reducible refine Blk.drew ?_) | (with_reducible refine Blk.other ?_ (by first | omega | (simp; done) | (simp; omega))))); done) | ((repeat' (first | (with_reducible exact Below.refl _ _) | (with_reducible assumption) | (with_reducible refine belowThru ?_ (by assumption)) | (with_reducible refine belowAlloc ?_) | (with_reducible refine Below.setCell ?_ (by first | omega | (simp; done) | (simp; omega)) _) | (with_reducible refine Below.drew ?_) | (with_reducible refine below_drewN ?_ _))); done) | exact Below.refl _ _)))
      (first
      | (go_at_call 90; (with_reducible refine (HE.out _).mono ?_); rintro e w1 ⟨rfl, hb⟩))
    all_goals
      apply hold1; (focus assumption); intro p0 pB
      go_wp2_with fail
      go_meet
      exact ⟨rfl, pB⟩
  case rest =>
    obtain ⟨rfl, hb⟩ := hcut
    obtain ⟨w3, rfl⟩ : ∃ z, z = wc := ⟨_, rfl⟩
    replace k0 := Blk.later hb k0; clear y0; obtain ⟨a0, b0⟩ := k0.read; have y0 := k0.lt
    replace k1 := Blk.later hb k1; clear y1; obtain ⟨a1, b1⟩ := k1.read; have y1 := k1.lt
    replace hBw : Below w.heap.size w w3 := belowThru hBw hb
    have hzw3 := hBw.size
    clear hb
    go_wp2_with fail
    exact bodyPost_ret (v := .tuple #[.agg #[.int .i64 0, .int .i64 0, .int .i64 0, .int .i64 0], .int .i64 43]) (by simp only [results, Try.results59]; go_simp) rfl ⟨rfl, by (repeat' (first | (with_reducible exact Below.refl _ _) | (with_reducible assumption) | (with_reducible refine belowThru ?_ (by assumption)) | (with_reducible refine belowAlloc ?_) | (with_reducible refine Below.setCell ?_ (by first | omega | (simp; done) | (simp; omega)) _) | (with_reducible refine Below.drew ?_) | (with_reducible refine below_drewN ?_ _)))⟩
set_option maxRecDepth 100000 in
set_option maxHeartbeats 16000000 in
theorem focal_00 (a : Option Addr) (n c : Nat) (p1 p2 p3 p4 q1 q2 q3 q4 E : Int) (w : World) (hne : (p1 == (-4611686018427387903)) = false) (HS : Hid (∀ (Bl Br : Nat) (W : World), W.cell? ⟨Bl, 0, none⟩ = some (.slice a n c) → W.cell? ⟨Br, 0, none⟩ = some (.func (.func 89) #[] #[]) → Below w.heap.size w W → Calls Try.prog 87 #[.func (.func 113) #[] #[.pointer (some ⟨Bl, 0, none⟩), .pointer (some ⟨Br, 0, none⟩)]] W fun e W' => e = .returned (.tuple #[.agg #[.int .i64 p1, .int .i64 p2, .int .i64 p3, .int .i64 p4], .int .i64 0]) ∧ Below W.heap.size W W')) :
    Calls Try.prog 59 #[.slice a n c] w fun e w' => e = .returned (.tuple #[.agg #[.int .i64 p1, .int .i64 p2, .int .i64 p3, .int .i64 p4], .int .i64 0]) ∧ Below w.heap.size w w' := by
  have HE := Lib.hid everything_any
  go_enter Try.func59, Try.ntmps59
  go_wp2_with fail
  refine (rules_calls _ _ _ _ _ _).mono ?_
  rintro e w1 ⟨⟨Bl, Br, rfl, hbl, hbr⟩, hb⟩
  have kn0 : Blk w1 (w.heap.size) #[.int .i64 0, .int .i64 0, .int .i64 0, .int .i64 0] 35 := Blk.later hb (by (repeat' (first | (with_reducible assumption) | (with_reducible refine Blk.set2 ?_) | ((with_reducible refine Blk.new ?_); first | rfl | (simp; done)) | (with_reducible refine Blk.later (by assumption) ?_) | (with_reducible refine Blk.alloc ?_) | (with_reducible refine Blk.drewN ?_) | (with_reducible refine Blk.drew ?_) | (with_reducible refine Blk.other ?_ (by first | omega | (simp; done) | (simp; omega))))))
  have k0 := kn0; clear kn0; obtain ⟨a0, b0⟩ := k0.read; have y0 := k0.lt
  have hBw : Below w.heap.size w w1 := by (repeat' (first | (with_reducible exact Below.refl _ _) | (with_reducible assumption) | (with_reducible refine belowThru ?_ (by assumption)) | (with_reducible refine belowAlloc ?_) | (with_reducible refine Below.setCell ?_ (by first | omega | (simp; done) | (simp; omega)) _) | (with_reducible refine Below.drew ?_) | (with_reducible refine below_drewN ?_ _)))
  have hzw1 := hBw.size
  clear hb
  go_wp2_with fail
  refine (HS.out _ _ _ hbl hbr hBw).mono ?_
  rintro e w2 ⟨rfl, hb⟩
  have kn0 : Blk w2 (w.heap.size) #[.int .i64 0, .int .i64 0, .int .i64 0, .int .i64 0] 35 := Blk.later hb (by (repeat' (first | (with_reducible assumption) | (with_reducible refine Blk.set2 ?_) | ((with_reducible refine Blk.new ?_); first | rfl | (simp; done)) | (with_reducible refine Blk.later (by assumption) ?_) | (with_reducible refine Blk.alloc ?_) | (with_reducible refine Blk.drewN ?_) | (with_reducible refine Blk.drew ?_) | (with_reducible refine Blk.other ?_ (by first | omega | (simp; done) | (simp; omega))))))
  clear k0 a0 b0 y0
  have k0 := kn0; clear kn0; obtain ⟨a0, b0⟩ := k0.read; have y0 := k0.lt
  replace hBw : Below w.heap.size w w2 := belowThru (by (repeat' (first | (with_reducible exact Below.refl _ _) | (with_reducible assumption) | (with_reducible refine belowThru ?_ (by assumption)) | (with_reducible refine belowAlloc ?_) | (with_reducible refine Below.setCell ?_ (by first | omega | (simp; done) | (simp; omega)) _) | (with_reducible refine Below.drew ?_) | (with_reducible refine below_drewN ?_ _)))) hb
  have hzw2 := hBw.size
  clear hb
  go_wp2_with fail
  obtain ⟨Wp, hWp⟩ : ∃ Wp, (w2.alloc (.cells #[.int .i64 p1, .int .i64 p2, .int .i64 p3, .int .i64 p4] 35)) = Wp := ⟨_, rfl⟩
  have kn0 : Blk Wp (w.heap.size) #[.int .i64 0, .int .i64 0, .int .i64 0, .int .i64 0] 35 := by rw [← hWp]; (repeat' (first | (with_reducible assumption) | ((with_reducible refine Blk.new ?_); first | rfl | (simp; done)) | (with_reducible refine Blk.later (by assumption) ?_) | (with_reducible refine Blk.alloc ?_) | (with_reducible refine Blk.drewN ?_) | (with_reducible refine Blk.drew ?_) | (with_reducible refine Blk.other ?_ (by first | omega | (simp; done) | (simp; omega)))))
  have kn1 : Blk Wp (w2.heap.size) #[.int .i64 p1, .int .i64 p2, .int .i64 p3, .int .i64 p4] 35 := by rw [← hWp]; (repeat' (first | (with_reducible assumption) | ((with_reducible refine Blk.new ?_); first | rfl | (simp; done)) | (with_reducible refine Blk.later (by assumption) ?_) | (with_reducible refine Blk.alloc ?_) | (with_reducible refine Blk.drewN ?_) | (with_reducible refine Blk.drew ?_) | (with_reducible refine Blk.other ?_ (by first | omega | (simp; done) | (simp; omega)))))
  replace hBw : Below w.heap.size w Wp := by rw [← hWp]; (repeat' (first | (with_reducible exact Below.refl _ _) | (with_reducible assumption) | (with_reducible refine belowThru ?_ (by assumption)) | (with_reducible refine belowAlloc ?_) | (with_reducible refine Below.setCell ?_ (by first | omega | (simp; done) | (simp; omega)) _) | (with_reducible refine Below.drew ?_) | (with_reducible refine below_drewN ?_ _)))
  clear k0 a0 b0 y0
  rw [hWp]
  clear hWp
  have k0 := kn0; clear kn0; have y0 := k0.lt
  have k1 := kn1; clear kn1; have y1 := k1.lt
  go_cut [18] (fun s18 wx => s18 = .bool false ∧ Below Wp.heap.size Wp wx)
  case first =>
    go_region_held3 (fun w' => (Blk w' (w2.heap.size) #[.int .i64 p1, .int .i64 p2, .int .i64 p3, .int .i64 p4] 35 ∧ (∀ i : Nat, w'.cell? ⟨w2.heap.size, i, none⟩ = (#[.int .i64 p1, .int .i64 p2, .int .i64 p3, .int .i64 p4] : Array Value)[i]?)) ∧ Below Wp.heap.size Wp w')
      (((first | (apply hold1; (focus assumption); intro p0 pB) | skip); refine ⟨Blk.full ?_, ?_⟩; all_goals (first | ((repeat' (first | (with_reducible assumption) | ((with_reducible refine Blk.new ?_); first | rfl | (simp; done)) | (with_reducible refine Blk.later (by assumption) ?_) | (with_reducible refine Blk.alloc ?_) | (with_reducible refine Blk.drewN ?_) | (with_reducible refine Blk.drew ?_) | (with_reducible refine Blk.other ?_ (by first | omega | (simp; done) | (simp; omega))))); done) | ((repeat' (first | (with_reducible exact Below.refl _ _) | (with_reducible assumption) | (with_reducible refine belowThru ?_ (by assumption)) | (with_reducible refine belowAlloc ?_) | (with_reducible refine Below.setCell ?_ (by first | omega | (simp; done) | (simp; omega)) _) | (with_reducible refine Below.drew ?_) | (with_reducible refine below_drewN ?_ _))); done) | exact Below.refl _ _)))
      (first
      | (go_at_call 90; (with_reducible refine (HE.out _).mono ?_); rintro e w1 ⟨rfl, hb⟩))
    all_goals
      apply hold1; (focus assumption); intro p0 pB
      go_wp2_with fail
      go_meet
      exact ⟨rfl, pB⟩
  case rest =>
    obtain ⟨rfl, hb⟩ := hcut
    obtain ⟨w3, rfl⟩ : ∃ z, z = wc := ⟨_, rfl⟩
    replace k0 := Blk.later hb k0; clear y0; obtain ⟨a0, b0⟩ := k0.read; have y0 := k0.lt
    replace k1 := Blk.later hb k1; clear y1; obtain ⟨a1, b1⟩ := k1.read; have y1 := k1.lt
    replace hBw : Below w.heap.size w w3 := belowThru hBw hb
    have hzw3 := hBw.size
    clear hb
    go_wp2_with fail
    exact bodyPost_ret (v := .tuple #[.agg #[.int .i64 p1, .int .i64 p2, .int .i64 p3, .int .i64 p4], .int .i64 0]) (by simp only [results, Try.results59]; go_simp) rfl ⟨rfl, by (repeat' (first | (with_reducible exact Below.refl _ _) | (with_reducible assumption) | (with_reducible refine belowThru ?_ (by assumption)) | (with_reducible refine belowAlloc ?_) | (with_reducible refine Below.setCell ?_ (by first | omega | (simp; done) | (simp; omega)) _) | (with_reducible refine Below.drew ?_) | (with_reducible refine below_drewN ?_ _)))⟩
set_option maxRecDepth 100000 in
set_option maxHeartbeats 16000000 in
theorem focal_01 (a : Option Addr) (n c : Nat) (p1 p2 p3 p4 q1 q2 q3 q4 E : Int) (w : World) (hne : (p2 == 1) = false) (HS : Hid (∀ (Bl Br : Nat) (W : World), W.cell? ⟨Bl, 0, none⟩ = some (.slice a n c) → W.cell? ⟨Br, 0, none⟩ = some (.func (.func 89) #[] #[]) → Below w.heap.size w W → Calls Try.prog 87 #[.func (.func 113) #[] #[.pointer (some ⟨Bl, 0, none⟩), .pointer (some ⟨Br, 0, none⟩)]] W fun e W' => e = .returned (.tuple #[.agg #[.int .i64 (-4611686018427387903), .int .i64 p2, .int .i64 p3, .int .i64 p4], .int .i64 0]) ∧ Below W.heap.size W W')) :
    Calls Try.prog 59 #[.slice a n c] w fun e w' => e = .returned (.tuple #[.agg #[.int .i64 (-4611686018427387903), .int .i64 p2, .int .i64 p3, .int .i64 p4], .int .i64 0]) ∧ Below w.heap.size w w' := by
  have HE := Lib.hid everything_any
  go_enter Try.func59, Try.ntmps59
  go_wp2_with fail
  refine (rules_calls _ _ _ _ _ _).mono ?_
  rintro e w1 ⟨⟨Bl, Br, rfl, hbl, hbr⟩, hb⟩
  have kn0 : Blk w1 (w.heap.size) #[.int .i64 0, .int .i64 0, .int .i64 0, .int .i64 0] 35 := Blk.later hb (by (repeat' (first | (with_reducible assumption) | (with_reducible refine Blk.set2 ?_) | ((with_reducible refine Blk.new ?_); first | rfl | (simp; done)) | (with_reducible refine Blk.later (by assumption) ?_) | (with_reducible refine Blk.alloc ?_) | (with_reducible refine Blk.drewN ?_) | (with_reducible refine Blk.drew ?_) | (with_reducible refine Blk.other ?_ (by first | omega | (simp; done) | (simp; omega))))))
  have k0 := kn0; clear kn0; obtain ⟨a0, b0⟩ := k0.read; have y0 := k0.lt
  have hBw : Below w.heap.size w w1 := by (repeat' (first | (with_reducible exact Below.refl _ _) | (with_reducible assumption) | (with_reducible refine belowThru ?_ (by assumption)) | (with_reducible refine belowAlloc ?_) | (with_reducible refine Below.setCell ?_ (by first | omega | (simp; done) | (simp; omega)) _) | (with_reducible refine Below.drew ?_) | (with_reducible refine below_drewN ?_ _)))
  have hzw1 := hBw.size
  clear hb
  go_wp2_with fail
  refine (HS.out _ _ _ hbl hbr hBw).mono ?_
  rintro e w2 ⟨rfl, hb⟩
  have kn0 : Blk w2 (w.heap.size) #[.int .i64 0, .int .i64 0, .int .i64 0, .int .i64 0] 35 := Blk.later hb (by (repeat' (first | (with_reducible assumption) | (with_reducible refine Blk.set2 ?_) | ((with_reducible refine Blk.new ?_); first | rfl | (simp; done)) | (with_reducible refine Blk.later (by assumption) ?_) | (with_reducible refine Blk.alloc ?_) | (with_reducible refine Blk.drewN ?_) | (with_reducible refine Blk.drew ?_) | (with_reducible refine Blk.other ?_ (by first | omega | (simp; done) | (simp; omega))))))
  clear k0 a0 b0 y0
  have k0 := kn0; clear kn0; obtain ⟨a0, b0⟩ := k0.read; have y0 := k0.lt
  replace hBw : Below w.heap.size w w2 := belowThru (by (repeat' (first | (with_reducible exact Below.refl _ _) | (with_reducible assumption) | (with_reducible refine belowThru ?_ (by assumption)) | (with_reducible refine belowAlloc ?_) | (with_reducible refine Below.setCell ?_ (by first | omega | (simp; done) | (simp; omega)) _) | (with_reducible refine Below.drew ?_) | (with_reducible refine below_drewN ?_ _)))) hb
  have hzw2 := hBw.size
  clear hb
  go_wp2_with fail
  obtain ⟨Wp, hWp⟩ : ∃ Wp, (w2.alloc (.cells #[.int .i64 (-4611686018427387903), .int .i64 p2, .int .i64 p3, .int .i64 p4] 35)) = Wp := ⟨_, rfl⟩
  have kn0 : Blk Wp (w.heap.size) #[.int .i64 0, .int .i64 0, .int .i64 0, .int .i64 0] 35 := by rw [← hWp]; (repeat' (first | (with_reducible assumption) | ((with_reducible refine Blk.new ?_); first | rfl | (simp; done)) | (with_reducible refine Blk.later (by assumption) ?_) | (with_reducible refine Blk.alloc ?_) | (with_reducible refine Blk.drewN ?_) | (with_reducible refine Blk.drew ?_) | (with_reducible refine Blk.other ?_ (by first | omega | (simp; done) | (simp; omega)))))
  have kn1 : Blk Wp (w2.heap.size) #[.int .i64 (-4611686018427387903), .int .i64 p2, .int .i64 p3, .int .i64 p4] 35 := by rw [← hWp]; (repeat' (first | (with_reducible assumption) | ((with_reducible refine Blk.new ?_); first | rfl | (simp; done)) | (with_reducible refine Blk.later (by assumption) ?_) | (with_reducible refine Blk.alloc ?_) | (with_reducible refine Blk.drewN ?_) | (with_reducible refine Blk.drew ?_) | (with_reducible refine Blk.other ?_ (by first | omega | (simp; done) | (simp; omega)))))
  replace hBw : Below w.heap.size w Wp := by rw [← hWp]; (repeat' (first | (with_reducible exact Below.refl _ _) | (with_reducible assumption) | (with_reducible refine belowThru ?_ (by assumption)) | (with_reducible refine belowAlloc ?_) | (with_reducible refine Below.setCell ?_ (by first | omega | (simp; done) | (simp; omega)) _) | (with_reducible refine Below.drew ?_) | (with_reducible refine below_drewN ?_ _)))
  clear k0 a0 b0 y0
  rw [hWp]
  clear hWp
  have k0 := kn0; clear kn0; have y0 := k0.lt
  have k1 := kn1; clear kn1; have y1 := k1.lt
  go_cut [18] (fun s18 wx => s18 = .bool false ∧ Below Wp.heap.size Wp wx)
  case first =>
    go_region_held3 (fun w' => (Blk w' (w2.heap.size) #[.int .i64 (-4611686018427387903), .int .i64 p2, .int .i64 p3, .int .i64 p4] 35 ∧ (∀ i : Nat, w'.cell? ⟨w2.heap.size, i, none⟩ = (#[.int .i64 (-4611686018427387903), .int .i64 p2, .int .i64 p3, .int .i64 p4] : Array Value)[i]?)) ∧ Below Wp.heap.size Wp w')
      (((first | (apply hold1; (focus assumption); intro p0 pB) | skip); refine ⟨Blk.full ?_, ?_⟩; all_goals (first | ((repeat' (first | (with_reducible assumption) | ((with_reducible refine Blk.new ?_); first | rfl | (simp; done)) | (with_reducible refine Blk.later (by assumption) ?_) | (with_reducible refine Blk.alloc ?_) | (with_reducible refine Blk.drewN ?_) | (with_reducible refine Blk.drew ?_) | (with_reducible refine Blk.other ?_ (by first | omega | (simp; done) | (simp; omega))))); done) | ((repeat' (first | (with_reducible exact Below.refl _ _) | (with_reducible assumption) | (with_reducible refine belowThru ?_ (by assumption)) | (with_reducible refine belowAlloc ?_) | (with_reducible refine Below.setCell ?_ (by first | omega | (simp; done) | (simp; omega)) _) | (with_reducible refine Below.drew ?_) | (with_reducible refine below_drewN ?_ _))); done) | exact Below.refl _ _)))
      (first
      | (go_at_call 90; (with_reducible refine (HE.out _).mono ?_); rintro e w1 ⟨rfl, hb⟩))
    all_goals
      apply hold1; (focus assumption); intro p0 pB
      go_wp2_with fail
      go_meet
      exact ⟨rfl, pB⟩
  case rest =>
    obtain ⟨rfl, hb⟩ := hcut
    obtain ⟨w3, rfl⟩ : ∃ z, z = wc := ⟨_, rfl⟩
    replace k0 := Blk.later hb k0; clear y0; obtain ⟨a0, b0⟩ := k0.read; have y0 := k0.lt
    replace k1 := Blk.later hb k1; clear y1; obtain ⟨a1, b1⟩ := k1.read; have y1 := k1.lt
    replace hBw : Below w.heap.size w w3 := belowThru hBw hb
    have hzw3 := hBw.size
    clear hb
    go_wp2_with fail
    exact bodyPost_ret (v := .tuple #[.agg #[.int .i64 (-4611686018427387903), .int .i64 p2, .int .i64 p3, .int .i64 p4], .int .i64 0]) (by simp only [results, Try.results59]; go_simp) rfl ⟨rfl, by (repeat' (first | (with_reducible exact Below.refl _ _) | (with_reducible assumption) | (with_reducible refine belowThru ?_ (by assumption)) | (with_reducible refine belowAlloc ?_) | (with_reducible refine Below.setCell ?_ (by first | omega | (simp; done) | (simp; omega)) _) | (with_reducible refine Below.drew ?_) | (with_reducible refine below_drewN ?_ _)))⟩
set_option maxRecDepth 100000 in
set_option maxHeartbeats 16000000 in
theorem focal_02 (a : Option Addr) (n c : Nat) (p1 p2 p3 p4 q1 q2 q3 q4 E : Int) (w : World) (hne : (p3 == 4611686018427387903) = false) (HS : Hid (∀ (Bl Br : Nat) (W : World), W.cell? ⟨Bl, 0, none⟩ = some (.slice a n c) → W.cell? ⟨Br, 0, none⟩ = some (.func (.func 89) #[] #[]) → Below w.heap.size w W → Calls Try.prog 87 #[.func (.func 113) #[] #[.pointer (some ⟨Bl, 0, none⟩), .pointer (some ⟨Br, 0, none⟩)]] W fun e W' => e = .returned (.tuple #[.agg #[.int .i64 (-4611686018427387903), .int .i64 1, .int .i64 p3, .int .i64 p4], .int .i64 0]) ∧ Below W.heap.size W W')) :
    Calls Try.prog 59 #[.slice a n c] w fun e w' => e = .returned (.tuple #[.agg #[.int .i64 (-4611686018427387903), .int .i64 1, .int .i64 p3, .int .i64 p4], .int .i64 0]) ∧ Below w.heap.size w w' := by
  have HE := Lib.hid everything_any
  go_enter Try.func59, Try.ntmps59
  go_wp2_with fail
  refine (rules_calls _ _ _ _ _ _).mono ?_
  rintro e w1 ⟨⟨Bl, Br, rfl, hbl, hbr⟩, hb⟩
  have kn0 : Blk w1 (w.heap.size) #[.int .i64 0, .int .i64 0, .int .i64 0, .int .i64 0] 35 := Blk.later hb (by (repeat' (first | (with_reducible assumption) | (with_reducible refine Blk.set2 ?_) | ((with_reducible refine Blk.new ?_); first | rfl | (simp; done)) | (with_reducible refine Blk.later (by assumption) ?_) | (with_reducible refine Blk.alloc ?_) | (with_reducible refine Blk.drewN ?_) | (with_reducible refine Blk.drew ?_) | (with_reducible refine Blk.other ?_ (by first | omega | (simp; done) | (simp; omega))))))
  have k0 := kn0; clear kn0; obtain ⟨a0, b0⟩ := k0.read; have y0 := k0.lt
  have hBw : Below w.heap.size w w1 := by (repeat' (first | (with_reducible exact Below.refl _ _) | (with_reducible assumption) | (with_reducible refine belowThru ?_ (by assumption)) | (with_reducible refine belowAlloc ?_) | (with_reducible refine Below.setCell ?_ (by first | omega | (simp; done) | (simp; omega)) _) | (with_reducible refine Below.drew ?_) | (with_reducible refine below_drewN ?_ _)))
  have hzw1 := hBw.size
  clear hb
  go_wp2_with fail
  refine (HS.out _ _ _ hbl hbr hBw).mono ?_
  rintro e w2 ⟨rfl, hb⟩
  have kn0 : Blk w2 (w.heap.size) #[.int .i64 0, .int .i64 0, .int .i64 0, .int .i64 0] 35 := Blk.later hb (by (repeat' (first | (with_reducible assumption) | (with_reducible refine Blk.set2 ?_) | ((with_reducible refine Blk.new ?_); first | rfl | (simp; done)) | (with_reducible refine Blk.later (by assumption) ?_) | (with_reducible refine Blk.alloc ?_) | (with_reducible refine Blk.drewN ?_) | (with_reducible refine Blk.drew ?_) | (with_reducible refine Blk.other ?_ (by first | omega | (simp; done) | (simp; omega))))))
  clear k0 a0 b0 y0
  have k0 := kn0; clear kn0; obtain ⟨a0, b0⟩ := k0.read; have y0 := k0.lt
  replace hBw : Below w.heap.size w w2 := belowThru (by (repeat' (first | (with_reducible exact Below.refl _ _) | (with_reducible assumption) | (with_reducible refine belowThru ?_ (by assumption)) | (with_reducible refine belowAlloc ?_) | (with_reducible refine Below.setCell ?_ (by first | omega | (simp; done) | (simp; omega)) _) | (with_reducible refine Below.drew ?_) | (with_reducible refine below_drewN ?_ _)))) hb
  have hzw2 := hBw.size
  clear hb
  go_wp2_with fail
  obtain ⟨Wp, hWp⟩ : ∃ Wp, (w2.alloc (.cells #[.int .i64 (-4611686018427387903), .int .i64 1, .int .i64 p3, .int .i64 p4] 35)) = Wp := ⟨_, rfl⟩
  have kn0 : Blk Wp (w.heap.size) #[.int .i64 0, .int .i64 0, .int .i64 0, .int .i64 0] 35 := by rw [← hWp]; (repeat' (first | (with_reducible assumption) | ((with_reducible refine Blk.new ?_); first | rfl | (simp; done)) | (with_reducible refine Blk.later (by assumption) ?_) | (with_reducible refine Blk.alloc ?_) | (with_reducible refine Blk.drewN ?_) | (with_reducible refine Blk.drew ?_) | (with_reducible refine Blk.other ?_ (by first | omega | (simp; done) | (simp; omega)))))
  have kn1 : Blk Wp (w2.heap.size) #[.int .i64 (-4611686018427387903), .int .i64 1, .int .i64 p3, .int .i64 p4] 35 := by rw [← hWp]; (repeat' (first | (with_reducible assumption) | ((with_reducible refine Blk.new ?_); first | rfl | (simp; done)) | (with_reducible refine Blk.later (by assumption) ?_) | (with_reducible refine Blk.alloc ?_) | (with_reducible refine Blk.drewN ?_) | (with_reducible refine Blk.drew ?_) | (with_reducible refine Blk.other ?_ (by first | omega | (simp; done) | (simp; omega)))))
  replace hBw : Below w.heap.size w Wp := by rw [← hWp]; (repeat' (first | (with_reducible exact Below.refl _ _) | (with_reducible assumption) | (with_reducible refine belowThru ?_ (by assumption)) | (with_reducible refine belowAlloc ?_) | (with_reducible refine Below.setCell ?_ (by first | omega | (simp; done) | (simp; omega)) _) | (with_reducible refine Below.drew ?_) | (with_reducible refine below_drewN ?_ _)))
  clear k0 a0 b0 y0
  rw [hWp]
  clear hWp
  have k0 := kn0; clear kn0; have y0 := k0.lt
  have k1 := kn1; clear kn1; have y1 := k1.lt
  go_cut [18] (fun s18 wx => s18 = .bool false ∧ Below Wp.heap.size Wp wx)
  case first =>
    go_region_held3 (fun w' => (Blk w' (w2.heap.size) #[.int .i64 (-4611686018427387903), .int .i64 1, .int .i64 p3, .int .i64 p4] 35 ∧ (∀ i : Nat, w'.cell? ⟨w2.heap.size, i, none⟩ = (#[.int .i64 (-4611686018427387903), .int .i64 1, .int .i64 p3, .int .i64 p4] : Array Value)[i]?)) ∧ Below Wp.heap.size Wp w')
      (((first | (apply hold1; (focus assumption); intro p0 pB) | skip); refine ⟨Blk.full ?_, ?_⟩; all_goals (first | ((repeat' (first | (with_reducible assumption) | ((with_reducible refine Blk.new ?_); first | rfl | (simp; done)) | (with_reducible refine Blk.later (by assumption) ?_) | (with_reducible refine Blk.alloc ?_) | (with_reducible refine Blk.drewN ?_) | (with_reducible refine Blk.drew ?_) | (with_reducible refine Blk.other ?_ (by first | omega | (simp; done) | (simp; omega))))); done) | ((repeat' (first | (with_reducible exact Below.refl _ _) | (with_reducible assumption) | (with_reducible refine belowThru ?_ (by assumption)) | (with_reducible refine belowAlloc ?_) | (with_reducible refine Below.setCell ?_ (by first | omega | (simp; done) | (simp; omega)) _) | (with_reducible refine Below.drew ?_) | (with_reducible refine below_drewN ?_ _))); done) | exact Below.refl _ _)))
      (first
      | (go_at_call 90; (with_reducible refine (HE.out _).mono ?_); rintro e w1 ⟨rfl, hb⟩))
    all_goals
      apply hold1; (focus assumption); intro p0 pB
      go_wp2_with fail
      go_meet
      exact ⟨rfl, pB⟩
  case rest =>
    obtain ⟨rfl, hb⟩ := hcut
    obtain ⟨w3, rfl⟩ : ∃ z, z = wc := ⟨_, rfl⟩
    replace k0 := Blk.later hb k0; clear y0; obtain ⟨a0, b0⟩ := k0.read; have y0 := k0.lt
    replace k1 := Blk.later hb k1; clear y1; obtain ⟨a1, b1⟩ := k1.read; have y1 := k1.lt
    replace hBw : Below w.heap.size w w3 := belowThru hBw hb
    have hzw3 := hBw.size
    clear hb
    go_wp2_with fail
    exact bodyPost_ret (v := .tuple #[.agg #[.int .i64 (-4611686018427387903), .int .i64 1, .int .i64 p3, .int .i64 p4], .int .i64 0]) (by simp only [results, Try.results59]; go_simp) rfl ⟨rfl, by (repeat' (first | (with_reducible exact Below.refl _ _) | (with_reducible assumption) | (with_reducible refine belowThru ?_ (by assumption)) | (with_reducible refine belowAlloc ?_) | (with_reducible refine Below.setCell ?_ (by first | omega | (simp; done) | (simp; omega)) _) | (with_reducible refine Below.drew ?_) | (with_reducible refine below_drewN ?_ _)))⟩
set_option maxRecDepth 100000 in
set_option maxHeartbeats 16000000 in
theorem focal_03 (a : Option Addr) (n c : Nat) (p1 p2 p3 p4 q1 q2 q3 q4 E : Int) (w : World) (hne : (p4 == 1) = false) (HS : Hid (∀ (Bl Br : Nat) (W : World), W.cell? ⟨Bl, 0, none⟩ = some (.slice a n c) → W.cell? ⟨Br, 0, none⟩ = some (.func (.func 89) #[] #[]) → Below w.heap.size w W → Calls Try.prog 87 #[.func (.func 113) #[] #[.pointer (some ⟨Bl, 0, none⟩), .pointer (some ⟨Br, 0, none⟩)]] W fun e W' => e = .returned (.tuple #[.agg #[.int .i64 (-4611686018427387903), .int .i64 1, .int .i64 4611686018427387903, .int .i64 p4], .int .i64 0]) ∧ Below W.heap.size W W')) :
    Calls Try.prog 59 #[.slice a n c] w fun e w' => e = .returned (.tuple #[.agg #[.int .i64 (-4611686018427387903), .int .i64 1, .int .i64 4611686018427387903, .int .i64 p4], .int .i64 0]) ∧ Below w.heap.size w w' := by
  have HE := Lib.hid everything_any
  go_enter Try.func59, Try.ntmps59
  go_wp2_with fail
  refine (rules_calls _ _ _ _ _ _).mono ?_
  rintro e w1 ⟨⟨Bl, Br, rfl, hbl, hbr⟩, hb⟩
  have kn0 : Blk w1 (w.heap.size) #[.int .i64 0, .int .i64 0, .int .i64 0, .int .i64 0] 35 := Blk.later hb (by (repeat' (first | (with_reducible assumption) | (with_reducible refine Blk.set2 ?_) | ((with_reducible refine Blk.new ?_); first | rfl | (simp; done)) | (with_reducible refine Blk.later (by assumption) ?_) | (with_reducible refine Blk.alloc ?_) | (with_reducible refine Blk.drewN ?_) | (with_reducible refine Blk.drew ?_) | (with_reducible refine Blk.other ?_ (by first | omega | (simp; done) | (simp; omega))))))
  have k0 := kn0; clear kn0; obtain ⟨a0, b0⟩ := k0.read; have y0 := k0.lt
  have hBw : Below w.heap.size w w1 := by (repeat' (first | (with_reducible exact Below.refl _ _) | (with_reducible assumption) | (with_reducible refine belowThru ?_ (by assumption)) | (with_reducible refine belowAlloc ?_) | (with_reducible refine Below.setCell ?_ (by first | omega | (simp; done) | (simp; omega)) _) | (with_reducible refine Below.drew ?_) | (with_reducible refine below_drewN ?_ _)))
  have hzw1 := hBw.size
  clear hb
  go_wp2_with fail
  refine (HS.out _ _ _ hbl hbr hBw).mono ?_
  rintro e w2 ⟨rfl, hb⟩
  have kn0 : Blk w2 (w.heap.size) #[.int .i64 0, .int .i64 0, .int .i64 0, .int .i64 0] 35 := Blk.later hb (by (repeat' (first | (with_reducible assumption) | (with_reducible refine Blk.set2 ?_) | ((with_reducible refine Blk.new ?_); first | rfl | (simp; done)) | (with_reducible refine Blk.later (by assumption) ?_) | (with_reducible refine Blk.alloc ?_) | (with_reducible refine Blk.drewN ?_) | (with_reducible refine Blk.drew ?_) | (with_reducible refine Blk.other ?_ (by first | omega | (simp; done) | (simp; omega))))))
  clear k0 a0 b0 y0
  have k0 := kn0; clear kn0; obtain ⟨a0, b0⟩ := k0.read; have y0 := k0.lt
  replace hBw : Below w.heap.size w w2 := belowThru (by (repeat' (first | (with_reducible exact Below.refl _ _) | (with_reducible assumption) | (with_reducible refine belowThru ?_ (by assumption)) | (with_reducible refine belowAlloc ?_) | (with_reducible refine Below.setCell ?_ (by first | omega | (simp; done) | (simp; omega)) _) | (with_reducible refine Below.drew ?_) | (with_reducible refine below_drewN ?_ _)))) hb
  have hzw2 := hBw.size
  clear hb
  go_wp2_with fail
  obtain ⟨Wp, hWp⟩ : ∃ Wp, (w2.alloc (.cells #[.int .i64 (-4611686018427387903), .int .i64 1, .int .i64 4611686018427387903, .int .i64 p4] 35)) = Wp := ⟨_, rfl⟩
  have kn0 : Blk Wp (w.heap.size) #[.int .i64 0, .int .i64 0, .int .i64 0, .int .i64 0] 35 := by rw [← hWp]; (repeat' (first | (with_reducible assumption) | ((with_reducible refine Blk.new ?_); first | rfl | (simp; done)) | (with_reducible refine Blk.later (by assumption) ?_) | (with_reducible refine Blk.alloc ?_) | (with_reducible refine Blk.drewN ?_) | (with_reducible refine Blk.drew ?_) | (with_reducible refine Blk.other ?_ (by first | omega | (simp; done) | (simp; omega)))))
  have kn1 : Blk Wp (w2.heap.size) #[.int .i64 (-4611686018427387903), .int .i64 1, .int .i64 4611686018427387903, .int .i64 p4] 35 := by rw [← hWp]; (repeat' (first | (with_reducible assumption) | ((with_reducible refine Blk.new ?_); first | rfl | (simp; done)) | (with_reducible refine Blk.later (by assumption) ?_) | (with_reducible refine Blk.alloc ?_) | (with_reducible refine Blk.drewN ?_) | (with_reducible refine Blk.drew ?_) | (with_reducible refine Blk.other ?_ (by first | omega | (simp; done) | (simp; omega)))))
  replace hBw : Below w.heap.size w Wp := by rw [← hWp]; (repeat' (first | (with_reducible exact Below.refl _ _) | (with_reducible assumption) | (with_reducible refine belowThru ?_ (by assumption)) | (with_reducible refine belowAlloc ?_) | (with_reducible refine Below.setCell ?_ (by first | omega | (simp; done) | (simp; omega)) _) | (with_reducible refine Below.drew ?_) | (with_reducible refine below_drewN ?_ _)))
  clear k0 a0 b0 y0
  rw [hWp]
  clear hWp
  have k0 := kn0; clear kn0; have y0 := k0.lt
  have k1 := kn1; clear kn1; have y1 := k1.lt
  go_cut [18] (fun s18 wx => s18 = .bool false ∧ Below Wp.heap.size Wp wx)
  case first =>
    go_region_held3 (fun w' => (Blk w' (w2.heap.size) #[.int .i64 (-4611686018427387903), .int .i64 1, .int .i64 4611686018427387903, .int .i64 p4] 35 ∧ (∀ i : Nat, w'.cell? ⟨w2.heap.size, i, none⟩ = (#[.int .i64 (-4611686018427387903), .int .i64 1, .int .i64 4611686018427387903, .int .i64 p4] : Array Value)[i]?)) ∧ Below Wp.heap.size Wp w')
      (((first | (apply hold1; (focus assumption); intro p0 pB) | skip); refine ⟨Blk.full ?_, ?_⟩; all_goals (first | ((repeat' (first | (with_reducible assumption) | ((with_reducible refine Blk.new ?_); first | rfl | (simp; done)) | (with_reducible refine Blk.later (by assumption) ?_) | (with_reducible refine Blk.alloc ?_) | (with_reducible refine Blk.drewN ?_) | (with_reducible refine Blk.drew ?_) | (with_reducible refine Blk.other ?_ (by first | omega | (simp; done) | (simp; omega))))); done) | ((repeat' (first | (with_reducible exact Below.refl _ _) | (with_reducible assumption) | (with_reducible refine belowThru ?_ (by assumption)) | (with_reducible refine belowAlloc ?_) | (with_reducible refine Below.setCell ?_ (by first | omega | (simp; done) | (simp; omega)) _) | (with_reducible refine Below.drew ?_) | (with_reducible refine below_drewN ?_ _))); done) | exact Below.refl _ _)))
      (first
      | (go_at_call 90; (with_reducible refine (HE.out _).mono ?_); rintro e w1 ⟨rfl, hb⟩))
    all_goals
      apply hold1; (focus assumption); intro p0 pB
      go_wp2_with fail
      go_meet
      exact ⟨rfl, pB⟩
  case rest =>
    obtain ⟨rfl, hb⟩ := hcut
    obtain ⟨w3, rfl⟩ : ∃ z, z = wc := ⟨_, rfl⟩
    replace k0 := Blk.later hb k0; clear y0; obtain ⟨a0, b0⟩ := k0.read; have y0 := k0.lt
    replace k1 := Blk.later hb k1; clear y1; obtain ⟨a1, b1⟩ := k1.read; have y1 := k1.lt
    replace hBw : Below w.heap.size w w3 := belowThru hBw hb
    have hzw3 := hBw.size
    clear hb
    go_wp2_with fail
    exact bodyPost_ret (v := .tuple #[.agg #[.int .i64 (-4611686018427387903), .int .i64 1, .int .i64 4611686018427387903, .int .i64 p4], .int .i64 0]) (by simp only [results, Try.results59]; go_simp) rfl ⟨rfl, by (repeat' (first | (with_reducible exact Below.refl _ _) | (with_reducible assumption) | (with_reducible refine belowThru ?_ (by assumption)) | (with_reducible refine belowAlloc ?_) | (with_reducible refine Below.setCell ?_ (by first | omega | (simp; done) | (simp; omega)) _) | (with_reducible refine Below.drew ?_) | (with_reducible refine below_drewN ?_ _)))⟩
set_option maxRecDepth 100000 in
set_option maxHeartbeats 16000000 in
theorem place_walk (a : Option Addr) (n c : Nat) (x z p1 p2 p3 p4 E : Int) (w : World) (HS : Hid (∀ (Bl Br : Nat) (W : World), W.cell? ⟨Bl, 0, none⟩ = some (.slice a n c) → W.cell? ⟨Br, 0, none⟩ = some (.func (.func 91) #[] #[.pointer (some ⟨w.heap.size + 1, 0, none⟩), .pointer (some ⟨w.heap.size, 0, none⟩)]) → Below w.heap.size w W → W.cell? ⟨w.heap.size + 1, 0, none⟩ = some (.int .i64 z) → W.cell? ⟨w.heap.size, 0, none⟩ = some (.int .i64 x) → Calls Try.prog 87 #[.func (.func 113) #[] #[.pointer (some ⟨Bl, 0, none⟩), .pointer (some ⟨Br, 0, none⟩)]] W fun e W' => e = .returned (.tuple #[.agg #[.int .i64 p1, .int .i64 p2, .int .i64 p3, .int .i64 p4], .int .i64 E]) ∧ Below W.heap.size W W')) :
    Calls Try.prog 60 #[.slice a n c, .int .i64 x, .int .i64 z] w fun e w' => e = .returned (.agg #[.int .i64 p1, .int .i64 p2, .int .i64 p3, .int .i64 p4]) ∧ Below w.heap.size w w' := by
  go_enter Try.func60, Try.ntmps60
  go_wp2_with fail
  refine (rules_calls _ _ _ _ _ _).mono ?_
  rintro e w1 ⟨⟨Bl, Br, rfl, hbl, hbr⟩, hb⟩
  have kn0 : Blk w1 (w.heap.size) #[.int .i64 x] 3 := Blk.later hb (by (repeat' (first | (with_reducible assumption) | (with_reducible refine Blk.set2 ?_) | ((with_reducible refine Blk.new ?_); first | rfl | (simp; done)) | (with_reducible refine Blk.later (by assumption) ?_) | (with_reducible refine Blk.alloc ?_) | (with_reducible refine Blk.drewN ?_) | (with_reducible refine Blk.drew ?_) | (with_reducible refine Blk.other ?_ (by first | omega | (simp; done) | (simp; omega))))))
  have kn1 : Blk w1 (w.heap.size + 1) #[.int .i64 z] 3 := Blk.later hb (by (repeat' (first | (with_reducible assumption) | (with_reducible refine Blk.set2 ?_) | ((with_reducible refine Blk.new ?_); first | rfl | (simp; done)) | (with_reducible refine Blk.later (by assumption) ?_) | (with_reducible refine Blk.alloc ?_) | (with_reducible refine Blk.drewN ?_) | (with_reducible refine Blk.drew ?_) | (with_reducible refine Blk.other ?_ (by first | omega | (simp; done) | (simp; omega))))))
  have kn2 : Blk w1 (w.heap.size + 1 + 1) #[.int .i64 0, .int .i64 0, .int .i64 0, .int .i64 0] 35 := Blk.later hb (by (repeat' (first | (with_reducible assumption) | (with_reducible refine Blk.set2 ?_) | ((with_reducible refine Blk.new ?_); first | rfl | (simp; done)) | (with_reducible refine Blk.later (by assumption) ?_) | (with_reducible refine Blk.alloc ?_) | (with_reducible refine Blk.drewN ?_) | (with_reducible refine Blk.drew ?_) | (with_reducible refine Blk.other ?_ (by first | omega | (simp; done) | (simp; omega))))))
  have k0 := kn0; clear kn0; obtain ⟨a0, b0⟩ := k0.read; have y0 := k0.lt
  have k1 := kn1; clear kn1; obtain ⟨a1, b1⟩ := k1.read; have y1 := k1.lt
  have k2 := kn2; clear kn2; obtain ⟨a2, b2⟩ := k2.read; have y2 := k2.lt
  have hBw : Below w.heap.size w w1 := by (repeat' (first | (with_reducible exact Below.refl _ _) | (with_reducible assumption) | (with_reducible refine belowThru ?_ (by assumption)) | (with_reducible refine belowAlloc ?_) | (with_reducible refine Below.setCell ?_ (by first | omega | (simp; done) | (simp; omega)) _) | (with_reducible refine Below.drew ?_) | (with_reducible refine below_drewN ?_ _)))
  have hzw1 := hBw.size
  clear hb
  go_wp2_with fail
  refine (HS.out _ _ _ hbl hbr hBw (k1.cells 0) (k0.cells 0)).mono ?_
  rintro e w2 ⟨rfl, hb⟩
  have kn0 : Blk w2 (w.heap.size) #[.int .i64 x] 3 := Blk.later hb (by (repeat' (first | (with_reducible assumption) | (with_reducible refine Blk.set2 ?_) | ((with_reducible refine Blk.new ?_); first | rfl | (simp; done)) | (with_reducible refine Blk.later (by assumption) ?_) | (with_reducible refine Blk.alloc ?_) | (with_reducible refine Blk.drewN ?_) | (with_reducible refine Blk.drew ?_) | (with_reducible refine Blk.other ?_ (by first | omega | (simp; done) | (simp; omega))))))
  have kn1 : Blk w2 (w.heap.size + 1) #[.int .i64 z] 3 := Blk.later hb (by (repeat' (first | (with_reducible assumption) | (with_reducible refine Blk.set2 ?_) | ((with_reducible refine Blk.new ?_); first | rfl | (simp; done)) | (with_reducible refine Blk.later (by assumption) ?_) | (with_reducible refine Blk.alloc ?_) | (with_reducible refine Blk.drewN ?_) | (with_reducible refine Blk.drew ?_) | (with_reducible refine Blk.other ?_ (by first | omega | (simp; done) | (simp; omega))))))
  have kn2 : Blk w2 (w.heap.size + 1 + 1) #[.int .i64 0, .int .i64 0, .int .i64 0, .int .i64 0] 35 := Blk.later hb (by (repeat' (first | (with_reducible assumption) | (with_reducible refine Blk.set2 ?_) | ((with_reducible refine Blk.new ?_); first | rfl | (simp; done)) | (with_reducible refine Blk.later (by assumption) ?_) | (with_reducible refine Blk.alloc ?_) | (with_reducible refine Blk.drewN ?_) | (with_reducible refine Blk.drew ?_) | (with_reducible refine Blk.other ?_ (by first | omega | (simp; done) | (simp; omega))))))
  clear k0 a0 b0 y0
  clear k1 a1 b1 y1
  clear k2 a2 b2 y2
  have k0 := kn0; clear kn0; obtain ⟨a0, b0⟩ := k0.read; have y0 := k0.lt
  have k1 := kn1; clear kn1; obtain ⟨a1, b1⟩ := k1.read; have y1 := k1.lt
  have k2 := kn2; clear kn2; obtain ⟨a2, b2⟩ := k2.read; have y2 := k2.lt
  replace hBw : Below w.heap.size w w2 := belowThru (by (repeat' (first | (with_reducible exact Below.refl _ _) | (with_reducible assumption) | (with_reducible refine belowThru ?_ (by assumption)) | (with_reducible refine belowAlloc ?_) | (with_reducible refine Below.setCell ?_ (by first | omega | (simp; done) | (simp; omega)) _) | (with_reducible refine Below.drew ?_) | (with_reducible refine below_drewN ?_ _)))) hb
  have hzw2 := hBw.size
  clear hb
  go_wp2_with fail
  exact bodyPost_ret (v := .agg #[.int .i64 p1, .int .i64 p2, .int .i64 p3, .int .i64 p4]) (by simp only [results, Try.results60]; go_simp) rfl ⟨rfl, by (repeat' (first | (with_reducible exact Below.refl _ _) | (with_reducible assumption) | (with_reducible refine belowThru ?_ (by assumption)) | (with_reducible refine belowAlloc ?_) | (with_reducible refine Below.setCell ?_ (by first | omega | (simp; done) | (simp; omega)) _) | (with_reducible refine Below.drew ?_) | (with_reducible refine below_drewN ?_ _)))⟩
set_option maxRecDepth 100000 in
set_option maxHeartbeats 16000000 in
theorem calib_1 (a : Option Addr) (n c : Nat) (p1 p2 p3 p4 q1 q2 q3 q4 E : Int) (w : World) (hE : (E != 0) = true) (HC : Hid (∀ W : World, Below w.heap.size w W → Calls Try.prog 30 #[.slice a n c] W fun e W' => e = .returned (.int .i64 E) ∧ Below W.heap.size W W')) :
    Calls Try.prog 21 #[.slice a n c] w fun e w' => e = .returned (.tuple #[.agg #[.int .i64 0, .int .i64 0, .int .i64 0, .int .i64 0, .int .i64 0, .int .i64 0, .int .i64 0, .int .i64 0], .int .i64 E]) ∧ Below w.heap.size w w' := by
  have hmx : Try.prog.follows .mixedOrders = true := by kernel_rfl
  go_enter Try.func21, Try.ntmps21
  go_wp2_with fail
  refine (HC.out _ (by (repeat' (first | (with_reducible exact Below.refl _ _) | (with_reducible assumption) | (with_reducible refine belowThru ?_ (by assumption)) | (with_reducible refine belowAlloc ?_) | (with_reducible refine Below.setCell ?_ (by first | omega | (simp; done) | (simp; omega)) _) | (with_reducible refine Below.drew ?_) | (with_reducible refine below_drewN ?_ _))))).mono ?_
  rintro e w1 ⟨rfl, hb⟩
  have kn0 : Blk w1 (w.heap.size) #[.int .i64 0, .int .i64 0, .int .i64 0, .int .i64 0, .int .i64 0, .int .i64 0, .int .i64 0, .int .i64 0] 41 := Blk.later hb (by (repeat' (first | (with_reducible assumption) | (with_reducible refine Blk.set2 ?_) | ((with_reducible refine Blk.new ?_); first | rfl | (simp; done)) | (with_reducible refine Blk.later (by assumption) ?_) | (with_reducible refine Blk.alloc ?_) | (with_reducible refine Blk.drewN ?_) | (with_reducible refine Blk.drew ?_) | (with_reducible refine Blk.other ?_ (by first | omega | (simp; done) | (simp; omega))))))
  have k0 := kn0; clear kn0; obtain ⟨a0, b0⟩ := k0.read; have y0 := k0.lt
  have hBw : Below w.heap.size w w1 := by (repeat' (first | (with_reducible exact Below.refl _ _) | (with_reducible assumption) | (with_reducible refine belowThru ?_ (by assumption)) | (with_reducible refine belowAlloc ?_) | (with_reducible refine Below.setCell ?_ (by first | omega | (simp; done) | (simp; omega)) _) | (with_reducible refine Below.drew ?_) | (with_reducible refine below_drewN ?_ _)))
  have hzw1 := hBw.size
  clear hb
  go_wp2_with fail
  exact bodyPost_ret (v := .tuple #[.agg #[.int .i64 0, .int .i64 0, .int .i64 0, .int .i64 0, .int .i64 0, .int .i64 0, .int .i64 0, .int .i64 0], .int .i64 E]) (by simp only [results, Try.results21]; go_simp) rfl ⟨rfl, by (repeat' (first | (with_reducible exact Below.refl _ _) | (with_reducible assumption) | (with_reducible refine belowThru ?_ (by assumption)) | (with_reducible refine belowAlloc ?_) | (with_reducible refine Below.setCell ?_ (by first | omega | (simp; done) | (simp; omega)) _) | (with_reducible refine Below.drew ?_) | (with_reducible refine below_drewN ?_ _)))⟩
set_option maxRecDepth 100000 in
set_option maxHeartbeats 16000000 in
theorem calib_2 (a : Option Addr) (n c : Nat) (p1 p2 p3 p4 q1 q2 q3 q4 E : Int) (w : World) (hE : (E != 0) = true) (HC : Hid (∀ W : World, Below w.heap.size w W → Calls Try.prog 30 #[.slice a n c] W fun e W' => e = .returned (.int .i64 0) ∧ Below W.heap.size W W')) (HF : Hid (∀ W : World, Below w.heap.size w W → Calls Try.prog 59 #[.slice a n c] W fun e W' => e = .returned (.tuple #[.agg #[.int .i64 p1, .int .i64 p2, .int .i64 p3, .int .i64 p4], .int .i64 E]) ∧ Below W.heap.size W W')) :
    Calls Try.prog 21 #[.slice a n c] w fun e w' => e = .returned (.tuple #[.agg #[.int .i64 0, .int .i64 0, .int .i64 0, .int .i64 0, .int .i64 0, .int .i64 0, .int .i64 0, .int .i64 0], .int .i64 E]) ∧ Below w.heap.size w w' := by
  have hmx : Try.prog.follows .mixedOrders = true := by kernel_rfl
  go_enter Try.func21, Try.ntmps21
  go_wp2_with fail
  refine (HC.out _ (by (repeat' (first | (with_reducible exact Below.refl _ _) | (with_reducible assumption) | (with_reducible refine belowThru ?_ (by assumption)) | (with_reducible refine belowAlloc ?_) | (with_reducible refine Below.setCell ?_ (by first | omega | (simp; done) | (simp; omega)) _) | (with_reducible refine Below.drew ?_) | (with_reducible refine below_drewN ?_ _))))).mono ?_
  rintro e w1 ⟨rfl, hb⟩
  have kn0 : Blk w1 (w.heap.size) #[.int .i64 0, .int .i64 0, .int .i64 0, .int .i64 0, .int .i64 0, .int .i64 0, .int .i64 0, .int .i64 0] 41 := Blk.later hb (by (repeat' (first | (with_reducible assumption) | (with_reducible refine Blk.set2 ?_) | ((with_reducible refine Blk.new ?_); first | rfl | (simp; done)) | (with_reducible refine Blk.later (by assumption) ?_) | (with_reducible refine Blk.alloc ?_) | (with_reducible refine Blk.drewN ?_) | (with_reducible refine Blk.drew ?_) | (with_reducible refine Blk.other ?_ (by first | omega | (simp; done) | (simp; omega))))))
  have k0 := kn0; clear kn0; obtain ⟨a0, b0⟩ := k0.read; have y0 := k0.lt
  have hBw : Below w.heap.size w w1 := by (repeat' (first | (with_reducible exact Below.refl _ _) | (with_reducible assumption) | (with_reducible refine belowThru ?_ (by assumption)) | (with_reducible refine belowAlloc ?_) | (with_reducible refine Below.setCell ?_ (by first | omega | (simp; done) | (simp; omega)) _) | (with_reducible refine Below.drew ?_) | (with_reducible refine below_drewN ?_ _)))
  have hzw1 := hBw.size
  clear hb
  go_wp2_with fail
  refine (HF.out _ hBw).mono ?_
  rintro e w2 ⟨rfl, hb⟩
  have kn0 : Blk w2 (w.heap.size) #[.int .i64 0, .int .i64 0, .int .i64 0, .int .i64 0, .int .i64 0, .int .i64 0, .int .i64 0, .int .i64 0] 41 := Blk.later hb (by (repeat' (first | (with_reducible assumption) | (with_reducible refine Blk.set2 ?_) | ((with_reducible refine Blk.new ?_); first | rfl | (simp; done)) | (with_reducible refine Blk.later (by assumption) ?_) | (with_reducible refine Blk.alloc ?_) | (with_reducible refine Blk.drewN ?_) | (with_reducible refine Blk.drew ?_) | (with_reducible refine Blk.other ?_ (by first | omega | (simp; done) | (simp; omega))))))
  clear k0 a0 b0 y0
  have k0 := kn0; clear kn0; obtain ⟨a0, b0⟩ := k0.read; have y0 := k0.lt
  replace hBw : Below w.heap.size w w2 := belowThru (by (repeat' (first | (with_reducible exact Below.refl _ _) | (with_reducible assumption) | (with_reducible refine belowThru ?_ (by assumption)) | (with_reducible refine belowAlloc ?_) | (with_reducible refine Below.setCell ?_ (by first | omega | (simp; done) | (simp; omega)) _) | (with_reducible refine Below.drew ?_) | (with_reducible refine below_drewN ?_ _)))) hb
  have hzw2 := hBw.size
  clear hb
  go_wp2_with fail
  exact bodyPost_ret (v := .tuple #[.agg #[.int .i64 0, .int .i64 0, .int .i64 0, .int .i64 0, .int .i64 0, .int .i64 0, .int .i64 0, .int .i64 0], .int .i64 E]) (by simp only [results, Try.results21]; go_simp) rfl ⟨rfl, by (repeat' (first | (with_reducible exact Below.refl _ _) | (with_reducible assumption) | (with_reducible refine belowThru ?_ (by assumption)) | (with_reducible refine belowAlloc ?_) | (with_reducible refine Below.setCell ?_ (by first | omega | (simp; done) | (simp; omega)) _) | (with_reducible refine Below.drew ?_) | (with_reducible refine below_drewN ?_ _)))⟩
set_option maxRecDepth 100000 in
set_option maxHeartbeats 16000000 in
theorem calib_3 (a : Option Addr) (n c : Nat) (p1 p2 p3 p4 q1 q2 q3 q4 E : Int) (w : World)  (HC : Hid (∀ W : World, Below w.heap.size w W → Calls Try.prog 30 #[.slice a n c] W fun e W' => e = .returned (.int .i64 0) ∧ Below W.heap.size W W')) (HF : Hid (∀ W : World, Below w.heap.size w W → Calls Try.prog 59 #[.slice a n c] W fun e W' => e = .returned (.tuple #[.agg #[.int .i64 p1, .int .i64 p2, .int .i64 p3, .int .i64 p4], .int .i64 0]) ∧ Below W.heap.size W W')) (HP : Hid (∀ W : World, Below w.heap.size w W → Calls Try.prog 60 #[.slice a n c, .int .i64 0, .int .i64 1] W fun e W' => e = .returned (.agg #[.int .i64 q1, .int .i64 q2, .int .i64 q3, .int .i64 q4]) ∧ Below W.heap.size W W')) :
    Calls Try.prog 21 #[.slice a n c] w fun e w' => e = .returned (.tuple #[.agg #[.int .i64 p1, .int .i64 p2, .int .i64 p3, .int .i64 p4, .int .i64 q1, .int .i64 q2, .int .i64 q3, .int .i64 q4], .int .i64 0]) ∧ Below w.heap.size w w' := by
  have hmx : Try.prog.follows .mixedOrders = true := by kernel_rfl
  go_enter Try.func21, Try.ntmps21
  go_wp2_with fail
  refine (HC.out _ (by (repeat' (first | (with_reducible exact Below.refl _ _) | (with_reducible assumption) | (with_reducible refine belowThru ?_ (by assumption)) | (with_reducible refine belowAlloc ?_) | (with_reducible refine Below.setCell ?_ (by first | omega | (simp; done) | (simp; omega)) _) | (with_reducible refine Below.drew ?_) | (with_reducible refine below_drewN ?_ _))))).mono ?_
  rintro e w1 ⟨rfl, hb⟩
  have kn0 : Blk w1 (w.heap.size) #[.int .i64 0, .int .i64 0, .int .i64 0, .int .i64 0, .int .i64 0, .int .i64 0, .int .i64 0, .int .i64 0] 41 := Blk.later hb (by (repeat' (first | (with_reducible assumption) | (with_reducible refine Blk.set2 ?_) | ((with_reducible refine Blk.new ?_); first | rfl | (simp; done)) | (with_reducible refine Blk.later (by assumption) ?_) | (with_reducible refine Blk.alloc ?_) | (with_reducible refine Blk.drewN ?_) | (with_reducible refine Blk.drew ?_) | (with_reducible refine Blk.other ?_ (by first | omega | (simp; done) | (simp; omega))))))
  have k0 := kn0; clear kn0; obtain ⟨a0, b0⟩ := k0.read; have y0 := k0.lt
  have hBw : Below w.heap.size w w1 := by (repeat' (first | (with_reducible exact Below.refl _ _) | (with_reducible assumption) | (with_reducible refine belowThru ?_ (by assumption)) | (with_reducible refine belowAlloc ?_) | (with_reducible refine Below.setCell ?_ (by first | omega | (simp; done) | (simp; omega)) _) | (with_reducible refine Below.drew ?_) | (with_reducible refine below_drewN ?_ _)))
  have hzw1 := hBw.size
  clear hb
  go_wp2_with fail
  refine (HF.out _ hBw).mono ?_
  rintro e w2 ⟨rfl, hb⟩
  have kn0 : Blk w2 (w.heap.size) #[.int .i64 0, .int .i64 0, .int .i64 0, .int .i64 0, .int .i64 0, .int .i64 0, .int .i64 0, .int .i64 0] 41 := Blk.later hb (by (repeat' (first | (with_reducible assumption) | (with_reducible refine Blk.set2 ?_) | ((with_reducible refine Blk.new ?_); first | rfl | (simp; done)) | (with_reducible refine Blk.later (by assumption) ?_) | (with_reducible refine Blk.alloc ?_) | (with_reducible refine Blk.drewN ?_) | (with_reducible refine Blk.drew ?_) | (with_reducible refine Blk.other ?_ (by first | omega | (simp; done) | (simp; omega))))))
  clear k0 a0 b0 y0
  have k0 := kn0; clear kn0; obtain ⟨a0, b0⟩ := k0.read; have y0 := k0.lt
  replace hBw : Below w.heap.size w w2 := belowThru (by (repeat' (first | (with_reducible exact Below.refl _ _) | (with_reducible assumption) | (with_reducible refine belowThru ?_ (by assumption)) | (with_reducible refine belowAlloc ?_) | (with_reducible refine Below.setCell ?_ (by first | omega | (simp; done) | (simp; omega)) _) | (with_reducible refine Below.drew ?_) | (with_reducible refine below_drewN ?_ _)))) hb
  have hzw2 := hBw.size
  clear hb
  have hq2 : w.heap.size < w2.heap.size := y0
  go_wp2_with fail
  obtain ⟨Wp, hWp⟩ : ∃ Wp, (w2.alloc (.cells #[.int .i64 p1, .int .i64 p2, .int .i64 p3, .int .i64 p4] 35)) = Wp := ⟨_, rfl⟩
  have kn0 : Blk Wp (w.heap.size) #[.int .i64 0, .int .i64 0, .int .i64 0, .int .i64 0, .int .i64 0, .int .i64 0, .int .i64 0, .int .i64 0] 41 := by rw [← hWp]; (repeat' (first | (with_reducible assumption) | ((with_reducible refine Blk.new ?_); first | rfl | (simp; done)) | (with_reducible refine Blk.later (by assumption) ?_) | (with_reducible refine Blk.alloc ?_) | (with_reducible refine Blk.drewN ?_) | (with_reducible refine Blk.drew ?_) | (with_reducible refine Blk.other ?_ (by first | omega | (simp; done) | (simp; omega)))))
  have kn1 : Blk Wp (w2.heap.size) #[.int .i64 p1, .int .i64 p2, .int .i64 p3, .int .i64 p4] 35 := by rw [← hWp]; (repeat' (first | (with_reducible assumption) | ((with_reducible refine Blk.new ?_); first | rfl | (simp; done)) | (with_reducible refine Blk.later (by assumption) ?_) | (with_reducible refine Blk.alloc ?_) | (with_reducible refine Blk.drewN ?_) | (with_reducible refine Blk.drew ?_) | (with_reducible refine Blk.other ?_ (by first | omega | (simp; done) | (simp; omega)))))
  replace hBw : Below w.heap.size w Wp := by rw [← hWp]; (repeat' (first | (with_reducible exact Below.refl _ _) | (with_reducible assumption) | (with_reducible refine belowThru ?_ (by assumption)) | (with_reducible refine belowAlloc ?_) | (with_reducible refine Below.setCell ?_ (by first | omega | (simp; done) | (simp; omega)) _) | (with_reducible refine Below.drew ?_) | (with_reducible refine below_drewN ?_ _)))
  clear k0 a0 b0 y0
  rw [hWp]
  clear hWp
  have k0 := kn0; clear kn0; have y0 := k0.lt
  have k1 := kn1; clear kn1; have y1 := k1.lt
  refine wp_region_held_drew (S := fun w' => (Blk w' (w2.heap.size) #[.int .i64 p1, .int .i64 p2, .int .i64 p3, .int .i64 p4] 35 ∧ (∀ i : Nat, w'.cell? ⟨w2.heap.size, i, none⟩ = (#[.int .i64 p1, .int .i64 p2, .int .i64 p3, .int .i64 p4] : Array Value)[i]?)) ∧ Below w.heap.size w w') hmx ⟨k1.drew.full, hBw.drew⟩ (fun hHeld => ?_)
  obtain ⟨Wd, hWd⟩ : ∃ Wd, Wp.drew = Wd := ⟨_, rfl⟩
  have q0 : Blk Wd (w.heap.size) #[.int .i64 0, .int .i64 0, .int .i64 0, .int .i64 0, .int .i64 0, .int .i64 0, .int .i64 0, .int .i64 0] 41 := by rw [← hWd]; exact k0.drew
  have q1 : Blk Wd (w2.heap.size) #[.int .i64 p1, .int .i64 p2, .int .i64 p3, .int .i64 p4] 35 := by rw [← hWd]; exact k1.drew
  have hBd : Below w.heap.size w Wd := by rw [← hWd]; exact hBw.drew
  rw [hWd] at hHeld ⊢
  clear hWd k0 k1 y0 y1 hBw
  refine wpAnyH_take (i := 0) (v := ?_) rfl (by kernel_rfl) (by kernel_rfl) (by kernel_rfl) (fun _ _ _ h => h) (Or.inl ⟨by rfl, ?hT0⟩) (by assumption) ?_
  case hT0 => ((intro w hSw; (try dsimp only at hSw); go_simp); try (with_reducible rfl))
  try simp only [Act.put, List.setIfInBounds_toArray, List.set_cons_zero, List.set_cons_succ]
  refine wpAnyH_take (i := 1) (v := ?_) rfl (by kernel_rfl) (by kernel_rfl) (by kernel_rfl) (fun _ _ _ h => h) (Or.inl ⟨by rfl, ?hT1⟩) (by assumption) ?_
  case hT1 => ((intro w hSw; (try dsimp only at hSw); go_simp); try (with_reducible rfl))
  try simp only [Act.put, List.setIfInBounds_toArray, List.set_cons_zero, List.set_cons_succ]
  refine wpAnyH_ready (rs := [2]) (by kernel_rfl) (by simp) ?_
  refine AllReadyH.cons rfl (fun K hK => ?_) AllReadyH.nil
  go_simp
  refine (HP.out _ hBd).mono ?_
  rintro e w9 ⟨rfl, hb⟩
  have k0 := Blk.later hb q0; have k1 := Blk.later hb q1; have hBw : Below w.heap.size w w9 := belowThru hBd hb
  clear q0 q1 hBd hb
  try go_simp
  refine hK.out _ _ ?_ (fun hHeldN => ?_)
  · (try dsimp only); exact ⟨k1.full, hBw⟩
  clear hK K hHeld
  have hHeld := hHeldN
  clear hHeldN
  try simp only [Act.put, List.setIfInBounds_toArray, List.set_cons_zero, List.set_cons_succ]
  refine wpAnyH_take (i := 3) (v := ?_) rfl (by kernel_rfl) (by kernel_rfl) (by kernel_rfl) (fun _ _ _ h => h) (Or.inl ⟨by rfl, ?hT2⟩) (by assumption) ?_
  case hT2 => ((intro w hSw; (try dsimp only at hSw); go_simp); try (with_reducible rfl))
  try simp only [Act.put, List.setIfInBounds_toArray, List.set_cons_zero, List.set_cons_succ]
  obtain ⟨a0, b0⟩ := k0.read; have y0 := k0.lt; have y1 := k1.lt
  refine wpAnyH_ready (rs := [4]) (by kernel_rfl) (by simp) ?_
  refine AllReadyH.cons rfl (fun K hK => ?_) AllReadyH.nil
  go_simp
  have k0s := Blk.set8 (v0 := .int .i64 p1) (v1 := .int .i64 p2) (v2 := .int .i64 p3) (v3 := .int .i64 p4) (v4 := .int .i64 q1) (v5 := .int .i64 q2) (v6 := .int .i64 q3) (v7 := .int .i64 q4) k0
  have hBs : Below w.heap.size w ((((((((w9.setCell ⟨w.heap.size, 0, none⟩ (.int .i64 p1)).setCell ⟨w.heap.size, 1, none⟩ (.int .i64 p2)).setCell ⟨w.heap.size, 2, none⟩ (.int .i64 p3)).setCell ⟨w.heap.size, 3, none⟩ (.int .i64 p4)).setCell ⟨w.heap.size, 4, none⟩ (.int .i64 q1)).setCell ⟨w.heap.size, 5, none⟩ (.int .i64 q2)).setCell ⟨w.heap.size, 6, none⟩ (.int .i64 q3)).setCell ⟨w.heap.size, 7, none⟩ (.int .i64 q4)) := by (repeat' (first | (with_reducible exact Below.refl _ _) | (with_reducible assumption) | (with_reducible refine belowThru ?_ (by assumption)) | (with_reducible refine belowAlloc ?_) | (with_reducible refine Below.setCell ?_ (by first | omega | (simp; done) | (simp; omega)) _) | (with_reducible refine Below.drew ?_) | (with_reducible refine below_drewN ?_ _)))
  refine hK.out _ _ ?_ (fun hHeldN => ?_)
  · (try dsimp only); exact ⟨Blk.full (Blk.other (Blk.other (Blk.other (Blk.other (Blk.other (Blk.other (Blk.other (Blk.other k1 (by first | omega | (simp; done) | (simp; omega))) (by first | omega | (simp; done) | (simp; omega))) (by first | omega | (simp; done) | (simp; omega))) (by first | omega | (simp; done) | (simp; omega))) (by first | omega | (simp; done) | (simp; omega))) (by first | omega | (simp; done) | (simp; omega))) (by first | omega | (simp; done) | (simp; omega))) (by first | omega | (simp; done) | (simp; omega))), hBs⟩
  clear hK K hHeld
  have hHeld := hHeldN
  clear hHeldN
  try simp only [Act.put, List.setIfInBounds_toArray, List.set_cons_zero, List.set_cons_succ]
  refine wpAnyH_ready (rs := [5]) (by kernel_rfl) (by simp) ?_
  refine AllReadyH.cons rfl (fun K hK => ?_) AllReadyH.nil
  go_simp
  refine hK.out _ _ ?_ (fun hHeldN => ?_)
  · (try dsimp only); exact hHeld
  clear hK K hHeld
  have hHeld := hHeldN
  clear hHeldN
  try simp only [Act.put, List.setIfInBounds_toArray, List.set_cons_zero, List.set_cons_succ]
  refine wpAnyH_done (by kernel_rfl) ?_ _
  go_wp2_with fail
  exact ret_one (v := .tuple #[.agg #[.int .i64 p1, .int .i64 p2, .int .i64 p3, .int .i64 p4, .int .i64 q1, .int .i64 q2, .int .i64 q3, .int .i64 q4], .int .i64 0]) k0s (fun ra => by clear a0 b0; simp only [results, Try.results21]; go_simp) rfl ⟨rfl, hBs⟩
set_option maxRecDepth 100000 in
set_option maxHeartbeats 16000000 in
theorem range_1 (a : Option Addr) (n c : Nat) (x z p1 p2 p3 p4 q1 q2 q3 q4 E : Int) (w : World) (hE : (E != 0) = true) (HC : Hid (∀ W : World, Below w.heap.size w W → Calls Try.prog 30 #[.slice a n c] W fun e W' => e = .returned (.int .i64 E) ∧ Below W.heap.size W W')) :
    Calls Try.prog 19 #[.slice a n c, .int .i64 x, .int .i64 z] w fun e w' => e = .returned (.tuple #[.agg #[.int .i64 0, .int .i64 0, .int .i64 0, .int .i64 0], .int .i64 E]) ∧ Below w.heap.size w w' := by
  go_enter Try.func19, Try.ntmps19
  go_wp2_with fail
  refine (HC.out _ (by (repeat' (first | (with_reducible exact Below.refl _ _) | (with_reducible assumption) | (with_reducible refine belowThru ?_ (by assumption)) | (with_reducible refine belowAlloc ?_) | (with_reducible refine Below.setCell ?_ (by first | omega | (simp; done) | (simp; omega)) _) | (with_reducible refine Below.drew ?_) | (with_reducible refine below_drewN ?_ _))))).mono ?_
  rintro e w1 ⟨rfl, hb⟩
  have kn0 : Blk w1 (w.heap.size) #[.int .i64 0, .int .i64 0, .int .i64 0, .int .i64 0] 35 := Blk.later hb (by (repeat' (first | (with_reducible assumption) | (with_reducible refine Blk.set2 ?_) | ((with_reducible refine Blk.new ?_); first | rfl | (simp; done)) | (with_reducible refine Blk.later (by assumption) ?_) | (with_reducible refine Blk.alloc ?_) | (with_reducible refine Blk.drewN ?_) | (with_reducible refine Blk.drew ?_) | (with_reducible refine Blk.other ?_ (by first | omega | (simp; done) | (simp; omega))))))
  have k0 := kn0; clear kn0; obtain ⟨a0, b0⟩ := k0.read; have y0 := k0.lt
  have hBw : Below w.heap.size w w1 := by (repeat' (first | (with_reducible exact Below.refl _ _) | (with_reducible assumption) | (with_reducible refine belowThru ?_ (by assumption)) | (with_reducible refine belowAlloc ?_) | (with_reducible refine Below.setCell ?_ (by first | omega | (simp; done) | (simp; omega)) _) | (with_reducible refine Below.drew ?_) | (with_reducible refine below_drewN ?_ _)))
  have hzw1 := hBw.size
  clear hb
  go_wp2_with fail
  exact bodyPost_ret (v := .tuple #[.agg #[.int .i64 0, .int .i64 0, .int .i64 0, .int .i64 0], .int .i64 E]) (by simp only [results, Try.results19]; go_simp) rfl ⟨rfl, by (repeat' (first | (with_reducible exact Below.refl _ _) | (with_reducible assumption) | (with_reducible refine belowThru ?_ (by assumption)) | (with_reducible refine belowAlloc ?_) | (with_reducible refine Below.setCell ?_ (by first | omega | (simp; done) | (simp; omega)) _) | (with_reducible refine Below.drew ?_) | (with_reducible refine below_drewN ?_ _)))⟩
set_option maxRecDepth 100000 in
set_option maxHeartbeats 16000000 in
theorem range_2 (a : Option Addr) (n c : Nat) (x z p1 p2 p3 p4 q1 q2 q3 q4 E : Int) (w : World)  (HC : Hid (∀ W : World, Below w.heap.size w W → Calls Try.prog 30 #[.slice a n c] W fun e W' => e = .returned (.int .i64 0) ∧ Below W.heap.size W W')) (HT : Hid (∀ W : World, Below w.heap.size w W → Calls Try.prog 58 #[.int .i64 x, .int .i64 z] W fun e W' => e = .returned (.bool false) ∧ Below W.heap.size W W')) :
    Calls Try.prog 19 #[.slice a n c, .int .i64 x, .int .i64 z] w fun e w' => e = .returned (.tuple #[.agg #[.int .i64 0, .int .i64 0, .int .i64 0, .int .i64 0], .int .i64 2]) ∧ Below w.heap.size w w' := by
  go_enter Try.func19, Try.ntmps19
  go_wp2_with fail
  refine (HC.out _ (by (repeat' (first | (with_reducible exact Below.refl _ _) | (with_reducible assumption) | (with_reducible refine belowThru ?_ (by assumption)) | (with_reducible refine belowAlloc ?_) | (with_reducible refine Below.setCell ?_ (by first | omega | (simp; done) | (simp; omega)) _) | (with_reducible refine Below.drew ?_) | (with_reducible refine below_drewN ?_ _))))).mono ?_
  rintro e w1 ⟨rfl, hb⟩
  have kn0 : Blk w1 (w.heap.size) #[.int .i64 0, .int .i64 0, .int .i64 0, .int .i64 0] 35 := Blk.later hb (by (repeat' (first | (with_reducible assumption) | (with_reducible refine Blk.set2 ?_) | ((with_reducible refine Blk.new ?_); first | rfl | (simp; done)) | (with_reducible refine Blk.later (by assumption) ?_) | (with_reducible refine Blk.alloc ?_) | (with_reducible refine Blk.drewN ?_) | (with_reducible refine Blk.drew ?_) | (with_reducible refine Blk.other ?_ (by first | omega | (simp; done) | (simp; omega))))))
  have k0 := kn0; clear kn0; obtain ⟨a0, b0⟩ := k0.read; have y0 := k0.lt
  have hBw : Below w.heap.size w w1 := by (repeat' (first | (with_reducible exact Below.refl _ _) | (with_reducible assumption) | (with_reducible refine belowThru ?_ (by assumption)) | (with_reducible refine belowAlloc ?_) | (with_reducible refine Below.setCell ?_ (by first | omega | (simp; done) | (simp; omega)) _) | (with_reducible refine Below.drew ?_) | (with_reducible refine below_drewN ?_ _)))
  have hzw1 := hBw.size
  clear hb
  go_wp2_with fail
  refine (HT.out _ hBw).mono ?_
  rintro e w2 ⟨rfl, hb⟩
  have kn0 : Blk w2 (w.heap.size) #[.int .i64 0, .int .i64 0, .int .i64 0, .int .i64 0] 35 := Blk.later hb (by (repeat' (first | (with_reducible assumption) | (with_reducible refine Blk.set2 ?_) | ((with_reducible refine Blk.new ?_); first | rfl | (simp; done)) | (with_reducible refine Blk.later (by assumption) ?_) | (with_reducible refine Blk.alloc ?_) | (with_reducible refine Blk.drewN ?_) | (with_reducible refine Blk.drew ?_) | (with_reducible refine Blk.other ?_ (by first | omega | (simp; done) | (simp; omega))))))
  clear k0 a0 b0 y0
  have k0 := kn0; clear kn0; obtain ⟨a0, b0⟩ := k0.read; have y0 := k0.lt
  replace hBw : Below w.heap.size w w2 := belowThru (by (repeat' (first | (with_reducible exact Below.refl _ _) | (with_reducible assumption) | (with_reducible refine belowThru ?_ (by assumption)) | (with_reducible refine belowAlloc ?_) | (with_reducible refine Below.setCell ?_ (by first | omega | (simp; done) | (simp; omega)) _) | (with_reducible refine Below.drew ?_) | (with_reducible refine below_drewN ?_ _)))) hb
  have hzw2 := hBw.size
  clear hb
  go_wp2_with fail
  exact bodyPost_ret (v := .tuple #[.agg #[.int .i64 0, .int .i64 0, .int .i64 0, .int .i64 0], .int .i64 2]) (by simp only [results, Try.results19]; go_simp) rfl ⟨rfl, by (repeat' (first | (with_reducible exact Below.refl _ _) | (with_reducible assumption) | (with_reducible refine belowThru ?_ (by assumption)) | (with_reducible refine belowAlloc ?_) | (with_reducible refine Below.setCell ?_ (by first | omega | (simp; done) | (simp; omega)) _) | (with_reducible refine Below.drew ?_) | (with_reducible refine below_drewN ?_ _)))⟩
set_option maxRecDepth 100000 in
set_option maxHeartbeats 16000000 in
theorem range_3 (a : Option Addr) (n c : Nat) (x z p1 p2 p3 p4 q1 q2 q3 q4 E : Int) (w : World) (hE : (E != 0) = true) (HC : Hid (∀ W : World, Below w.heap.size w W → Calls Try.prog 30 #[.slice a n c] W fun e W' => e = .returned (.int .i64 0) ∧ Below W.heap.size W W')) (HT : Hid (∀ W : World, Below w.heap.size w W → Calls Try.prog 58 #[.int .i64 x, .int .i64 z] W fun e W' => e = .returned (.bool true) ∧ Below W.heap.size W W')) (HF : Hid (∀ W : World, Below w.heap.size w W → Calls Try.prog 59 #[.slice a n c] W fun e W' => e = .returned (.tuple #[.agg #[.int .i64 p1, .int .i64 p2, .int .i64 p3, .int .i64 p4], .int .i64 E]) ∧ Below W.heap.size W W')) :
    Calls Try.prog 19 #[.slice a n c, .int .i64 x, .int .i64 z] w fun e w' => e = .returned (.tuple #[.agg #[.int .i64 0, .int .i64 0, .int .i64 0, .int .i64 0], .int .i64 E]) ∧ Below w.heap.size w w' := by
  go_enter Try.func19, Try.ntmps19
  go_wp2_with fail
  refine (HC.out _ (by (repeat' (first | (with_reducible exact Below.refl _ _) | (with_reducible assumption) | (with_reducible refine belowThru ?_ (by assumption)) | (with_reducible refine belowAlloc ?_) | (with_reducible refine Below.setCell ?_ (by first | omega | (simp; done) | (simp; omega)) _) | (with_reducible refine Below.drew ?_) | (with_reducible refine below_drewN ?_ _))))).mono ?_
  rintro e w1 ⟨rfl, hb⟩
  have kn0 : Blk w1 (w.heap.size) #[.int .i64 0, .int .i64 0, .int .i64 0, .int .i64 0] 35 := Blk.later hb (by (repeat' (first | (with_reducible assumption) | (with_reducible refine Blk.set2 ?_) | ((with_reducible refine Blk.new ?_); first | rfl | (simp; done)) | (with_reducible refine Blk.later (by assumption) ?_) | (with_reducible refine Blk.alloc ?_) | (with_reducible refine Blk.drewN ?_) | (with_reducible refine Blk.drew ?_) | (with_reducible refine Blk.other ?_ (by first | omega | (simp; done) | (simp; omega))))))
  have k0 := kn0; clear kn0; obtain ⟨a0, b0⟩ := k0.read; have y0 := k0.lt
  have hBw : Below w.heap.size w w1 := by (repeat' (first | (with_reducible exact Below.refl _ _) | (with_reducible assumption) | (with_reducible refine belowThru ?_ (by assumption)) | (with_reducible refine belowAlloc ?_) | (with_reducible refine Below.setCell ?_ (by first | omega | (simp; done) | (simp; omega)) _) | (with_reducible refine Below.drew ?_) | (with_reducible refine below_drewN ?_ _)))
  have hzw1 := hBw.size
  clear hb
  go_wp2_with fail
  refine (HT.out _ hBw).mono ?_
  rintro e w2 ⟨rfl, hb⟩
  have kn0 : Blk w2 (w.heap.size) #[.int .i64 0, .int .i64 0, .int .i64 0, .int .i64 0] 35 := Blk.later hb (by (repeat' (first | (with_reducible assumption) | (with_reducible refine Blk.set2 ?_) | ((with_reducible refine Blk.new ?_); first | rfl | (simp; done)) | (with_reducible refine Blk.later (by assumption) ?_) | (with_reducible refine Blk.alloc ?_) | (with_reducible refine Blk.drewN ?_) | (with_reducible refine Blk.drew ?_) | (with_reducible refine Blk.other ?_ (by first | omega | (simp; done) | (simp; omega))))))
  clear k0 a0 b0 y0
  have k0 := kn0; clear kn0; obtain ⟨a0, b0⟩ := k0.read; have y0 := k0.lt
  replace hBw : Below w.heap.size w w2 := belowThru (by (repeat' (first | (with_reducible exact Below.refl _ _) | (with_reducible assumption) | (with_reducible refine belowThru ?_ (by assumption)) | (with_reducible refine belowAlloc ?_) | (with_reducible refine Below.setCell ?_ (by first | omega | (simp; done) | (simp; omega)) _) | (with_reducible refine Below.drew ?_) | (with_reducible refine below_drewN ?_ _)))) hb
  have hzw2 := hBw.size
  clear hb
  go_wp2_with fail
  refine (HF.out _ hBw).mono ?_
  rintro e w3 ⟨rfl, hb⟩
  have kn0 : Blk w3 (w.heap.size) #[.int .i64 0, .int .i64 0, .int .i64 0, .int .i64 0] 35 := Blk.later hb (by (repeat' (first | (with_reducible assumption) | (with_reducible refine Blk.set2 ?_) | ((with_reducible refine Blk.new ?_); first | rfl | (simp; done)) | (with_reducible refine Blk.later (by assumption) ?_) | (with_reducible refine Blk.alloc ?_) | (with_reducible refine Blk.drewN ?_) | (with_reducible refine Blk.drew ?_) | (with_reducible refine Blk.other ?_ (by first | omega | (simp; done) | (simp; omega))))))
  clear k0 a0 b0 y0
  have k0 := kn0; clear kn0; obtain ⟨a0, b0⟩ := k0.read; have y0 := k0.lt
  replace hBw : Below w.heap.size w w3 := belowThru (by (repeat' (first | (with_reducible exact Below.refl _ _) | (with_reducible assumption) | (with_reducible refine belowThru ?_ (by assumption)) | (with_reducible refine belowAlloc ?_) | (with_reducible refine Below.setCell ?_ (by first | omega | (simp; done) | (simp; omega)) _) | (with_reducible refine Below.drew ?_) | (with_reducible refine below_drewN ?_ _)))) hb
  have hzw3 := hBw.size
  clear hb
  go_wp2_with fail
  exact bodyPost_ret (v := .tuple #[.agg #[.int .i64 0, .int .i64 0, .int .i64 0, .int .i64 0], .int .i64 E]) (by simp only [results, Try.results19]; go_simp) rfl ⟨rfl, by (repeat' (first | (with_reducible exact Below.refl _ _) | (with_reducible assumption) | (with_reducible refine belowThru ?_ (by assumption)) | (with_reducible refine belowAlloc ?_) | (with_reducible refine Below.setCell ?_ (by first | omega | (simp; done) | (simp; omega)) _) | (with_reducible refine Below.drew ?_) | (with_reducible refine below_drewN ?_ _)))⟩
set_option maxRecDepth 100000 in
set_option maxHeartbeats 16000000 in
theorem range_4 (a : Option Addr) (n c : Nat) (x z p1 p2 p3 p4 q1 q2 q3 q4 E : Int) (w : World)  (HC : Hid (∀ W : World, Below w.heap.size w W → Calls Try.prog 30 #[.slice a n c] W fun e W' => e = .returned (.int .i64 0) ∧ Below W.heap.size W W')) (HT : Hid (∀ W : World, Below w.heap.size w W → Calls Try.prog 58 #[.int .i64 x, .int .i64 z] W fun e W' => e = .returned (.bool true) ∧ Below W.heap.size W W')) (HF : Hid (∀ W : World, Below w.heap.size w W → Calls Try.prog 59 #[.slice a n c] W fun e W' => e = .returned (.tuple #[.agg #[.int .i64 p1, .int .i64 p2, .int .i64 p3, .int .i64 p4], .int .i64 0]) ∧ Below W.heap.size W W')) (HP : Hid (∀ W : World, Below w.heap.size w W → Calls Try.prog 60 #[.slice a n c, .int .i64 x, .int .i64 z] W fun e W' => e = .returned (.agg #[.int .i64 q1, .int .i64 q2, .int .i64 q3, .int .i64 q4]) ∧ Below W.heap.size W W')) :
    Calls Try.prog 19 #[.slice a n c, .int .i64 x, .int .i64 z] w fun e w' => e = .returned (.tuple #[.agg #[.int .i64 q1, .int .i64 q2, .int .i64 q3, .int .i64 q4], .int .i64 0]) ∧ Below w.heap.size w w' := by
  go_enter Try.func19, Try.ntmps19
  go_wp2_with fail
  refine (HC.out _ (by (repeat' (first | (with_reducible exact Below.refl _ _) | (with_reducible assumption) | (with_reducible refine belowThru ?_ (by assumption)) | (with_reducible refine belowAlloc ?_) | (with_reducible refine Below.setCell ?_ (by first | omega | (simp; done) | (simp; omega)) _) | (with_reducible refine Below.drew ?_) | (with_reducible refine below_drewN ?_ _))))).mono ?_
  rintro e w1 ⟨rfl, hb⟩
  have kn0 : Blk w1 (w.heap.size) #[.int .i64 0, .int .i64 0, .int .i64 0, .int .i64 0] 35 := Blk.later hb (by (repeat' (first | (with_reducible assumption) | (with_reducible refine Blk.set2 ?_) | ((with_reducible refine Blk.new ?_); first | rfl | (simp; done)) | (with_reducible refine Blk.later (by assumption) ?_) | (with_reducible refine Blk.alloc ?_) | (with_reducible refine Blk.drewN ?_) | (with_reducible refine Blk.drew ?_) | (with_reducible refine Blk.other ?_ (by first | omega | (simp; done) | (simp; omega))))))
  have k0 := kn0; clear kn0; obtain ⟨a0, b0⟩ := k0.read; have y0 := k0.lt
  have hBw : Below w.heap.size w w1 := by (repeat' (first | (with_reducible exact Below.refl _ _) | (with_reducible assumption) | (with_reducible refine belowThru ?_ (by assumption)) | (with_reducible refine belowAlloc ?_) | (with_reducible refine Below.setCell ?_ (by first | omega | (simp; done) | (simp; omega)) _) | (with_reducible refine Below.drew ?_) | (with_reducible refine below_drewN ?_ _)))
  have hzw1 := hBw.size
  clear hb
  go_wp2_with fail
  refine (HT.out _ hBw).mono ?_
  rintro e w2 ⟨rfl, hb⟩
  have kn0 : Blk w2 (w.heap.size) #[.int .i64 0, .int .i64 0, .int .i64 0, .int .i64 0] 35 := Blk.later hb (by (repeat' (first | (with_reducible assumption) | (with_reducible refine Blk.set2 ?_) | ((with_reducible refine Blk.new ?_); first | rfl | (simp; done)) | (with_reducible refine Blk.later (by assumption) ?_) | (with_reducible refine Blk.alloc ?_) | (with_reducible refine Blk.drewN ?_) | (with_reducible refine Blk.drew ?_) | (with_reducible refine Blk.other ?_ (by first | omega | (simp; done) | (simp; omega))))))
  clear k0 a0 b0 y0
  have k0 := kn0; clear kn0; obtain ⟨a0, b0⟩ := k0.read; have y0 := k0.lt
  replace hBw : Below w.heap.size w w2 := belowThru (by (repeat' (first | (with_reducible exact Below.refl _ _) | (with_reducible assumption) | (with_reducible refine belowThru ?_ (by assumption)) | (with_reducible refine belowAlloc ?_) | (with_reducible refine Below.setCell ?_ (by first | omega | (simp; done) | (simp; omega)) _) | (with_reducible refine Below.drew ?_) | (with_reducible refine below_drewN ?_ _)))) hb
  have hzw2 := hBw.size
  clear hb
  go_wp2_with fail
  refine (HF.out _ hBw).mono ?_
  rintro e w3 ⟨rfl, hb⟩
  have kn0 : Blk w3 (w.heap.size) #[.int .i64 0, .int .i64 0, .int .i64 0, .int .i64 0] 35 := Blk.later hb (by (repeat' (first | (with_reducible assumption) | (with_reducible refine Blk.set2 ?_) | ((with_reducible refine Blk.new ?_); first | rfl | (simp; done)) | (with_reducible refine Blk.later (by assumption) ?_) | (with_reducible refine Blk.alloc ?_) | (with_reducible refine Blk.drewN ?_) | (with_reducible refine Blk.drew ?_) | (with_reducible refine Blk.other ?_ (by first | omega | (simp; done) | (simp; omega))))))
  clear k0 a0 b0 y0
  have k0 := kn0; clear kn0; obtain ⟨a0, b0⟩ := k0.read; have y0 := k0.lt
  replace hBw : Below w.heap.size w w3 := belowThru (by (repeat' (first | (with_reducible exact Below.refl _ _) | (with_reducible assumption) | (with_reducible refine belowThru ?_ (by assumption)) | (with_reducible refine belowAlloc ?_) | (with_reducible refine Below.setCell ?_ (by first | omega | (simp; done) | (simp; omega)) _) | (with_reducible refine Below.drew ?_) | (with_reducible refine below_drewN ?_ _)))) hb
  have hzw3 := hBw.size
  clear hb
  go_wp2_with fail
  refine (HP.out _ (by (repeat' (first | (with_reducible exact Below.refl _ _) | (with_reducible assumption) | (with_reducible refine belowThru ?_ (by assumption)) | (with_reducible refine belowAlloc ?_) | (with_reducible refine Below.setCell ?_ (by first | omega | (simp; done) | (simp; omega)) _) | (with_reducible refine Below.drew ?_) | (with_reducible refine below_drewN ?_ _))))).mono ?_
  rintro e w4 ⟨rfl, hb⟩
  have kn0 : Blk w4 (w.heap.size) #[.int .i64 0, .int .i64 0, .int .i64 0, .int .i64 0] 35 := Blk.later hb (by (repeat' (first | (with_reducible assumption) | (with_reducible refine Blk.set2 ?_) | ((with_reducible refine Blk.new ?_); first | rfl | (simp; done)) | (with_reducible refine Blk.later (by assumption) ?_) | (with_reducible refine Blk.alloc ?_) | (with_reducible refine Blk.drewN ?_) | (with_reducible refine Blk.drew ?_) | (with_reducible refine Blk.other ?_ (by first | omega | (simp; done) | (simp; omega))))))
  have kn1 : Blk w4 (w3.heap.size) #[.int .i64 p1, .int .i64 p2, .int .i64 p3, .int .i64 p4] 35 := Blk.later hb (by (repeat' (first | (with_reducible assumption) | (with_reducible refine Blk.set2 ?_) | ((with_reducible refine Blk.new ?_); first | rfl | (simp; done)) | (with_reducible refine Blk.later (by assumption) ?_) | (with_reducible refine Blk.alloc ?_) | (with_reducible refine Blk.drewN ?_) | (with_reducible refine Blk.drew ?_) | (with_reducible refine Blk.other ?_ (by first | omega | (simp; done) | (simp; omega))))))
  clear k0 a0 b0 y0
  have k0 := kn0; clear kn0; obtain ⟨a0, b0⟩ := k0.read; have y0 := k0.lt
  have k1 := kn1; clear kn1; obtain ⟨a1, b1⟩ := k1.read; have y1 := k1.lt
  replace hBw : Below w.heap.size w w4 := belowThru (by (repeat' (first | (with_reducible exact Below.refl _ _) | (with_reducible assumption) | (with_reducible refine belowThru ?_ (by assumption)) | (with_reducible refine belowAlloc ?_) | (with_reducible refine Below.setCell ?_ (by first | omega | (simp; done) | (simp; omega)) _) | (with_reducible refine Below.drew ?_) | (with_reducible refine below_drewN ?_ _)))) hb
  have hzw4 := hBw.size
  clear hb
  go_wp2_with fail
  exact bodyPost_ret (v := .tuple #[.agg #[.int .i64 q1, .int .i64 q2, .int .i64 q3, .int .i64 q4], .int .i64 0]) (by simp only [results, Try.results19]; go_simp) rfl ⟨rfl, by (repeat' (first | (with_reducible exact Below.refl _ _) | (with_reducible assumption) | (with_reducible refine belowThru ?_ (by assumption)) | (with_reducible refine belowAlloc ?_) | (with_reducible refine Below.setCell ?_ (by first | omega | (simp; done) | (simp; omega)) _) | (with_reducible refine Below.drew ?_) | (with_reducible refine below_drewN ?_ _)))⟩
end Go.Proofs.Ytbdcmdofmokoeaa
/-
  Layer 4: sort.Search, handed a function that makes memory of its own alone.
-/
namespace Go.Proofs.Ytbdcmdofmokoeaa
open Go.RowKit
set_option linter.unusedVariables false
set_option linter.unusedSimpArgs false

set_option maxHeartbeats 2000000 in
theorem search_any (g : Nat) (cb : Array Value) (n k : Nat) (p : Nat → Bool) (w : World) (eg : ∀ args w, (callFunc g args).run Try.prog w = .ok (.enter g args) w) (hsz : n ≤ 1000000) (hkn : k ≤ n)
    (hf : ∀ (w1 : World) (i : Nat), Below w.heap.size w w1 → i < n → Calls Try.prog g (#[.int .i64 i] ++ cb) w1 fun e w' => e = .returned (.bool (p i)) ∧ Below w1.heap.size w1 w')
    (h1 : ∀ t, t < k → p t = false) (h2 : ∀ t, k ≤ t → t < n → p t = true) :
    Calls Try.prog 55 #[.int .i64 n, .func (.func g) #[] cb] w fun e w' => e = .returned (.int .i64 k) ∧ Below w.heap.size w w' := by
  have HF := Lib.hid hf; have H1 := Lib.hid h1; have H2 := Lib.hid h2
  clear hf h1 h2
  go_enter Try.func55, Try.ntmps55
  go_wp2
  go_loopg [5, 6] n (fun kx s5 s6 wr => ∃ lo hi : Nat, s5 = .int .i64 lo ∧ s6 = .int .i64 hi ∧ lo ≤ k ∧ k ≤ hi ∧ hi ≤ n ∧ hi - lo ≤ kx ∧ Below w.heap.size w wr)
  case atStart => exact ⟨0, n, rfl, rfl, Nat.zero_le _, hkn, Nat.le_refl _, by omega, Below.refl _ _⟩
  case round =>
    obtain ⟨lo, hi, rfl, rfl, q1, q2, q3, q4, hB⟩ := hrel
    by_cases hlt : lo < hi
    · have hc := HF.out wr ((lo + hi) / 2) hB (by omega)
      rw [show (((lo + hi) / 2 : Nat) : Int) = ((lo : Int) + (hi : Int)) / 2 by omega] at hc
      cases hp : p ((lo + hi) / 2) <;> rw [hp] at hc
      · have q5 : (lo + hi) / 2 < k := by
          by_cases h : (lo + hi) / 2 < k
          · exact h
          · have := H2.out ((lo + hi) / 2) (by omega) (by omega); rw [hp] at this; cases this
        clear hp
        go_wp2_with (go_at_fn g; refine hc.mono ?_; rintro e w' ⟨rfl, hb⟩)
        go_roundg (hi - ((lo + hi) / 2 + 1))
        case measure => omega
        case rel => exact ⟨(lo + hi) / 2 + 1, hi, by rw [show ((lo : Int) + (hi : Int)) / 2 + 1 = (((lo + hi) / 2 + 1 : Nat) : Int) by omega], rfl, by omega, q2, q3, Nat.le_refl _, by (repeat' (first | (with_reducible exact Below.refl _ _) | (with_reducible assumption) | (with_reducible refine belowThru ?_ (by assumption)) | (with_reducible refine belowAlloc ?_) | (with_reducible refine Below.setCell ?_ (by first | omega | (simp; done) | (simp; omega)) _) | (with_reducible refine Below.drew ?_) | (with_reducible refine below_drewN ?_ _)))⟩
      · have q5 : k ≤ (lo + hi) / 2 := by
          by_cases h : (lo + hi) / 2 < k
          · have := H1.out ((lo + hi) / 2) h; rw [hp] at this; cases this
          · omega
        clear hp
        go_wp2_with (go_at_fn g; refine hc.mono ?_; rintro e w' ⟨rfl, hb⟩)
        go_roundg ((lo + hi) / 2 - lo)
        case measure => omega
        case rel => exact ⟨lo, (lo + hi) / 2, rfl, by rw [show ((lo : Int) + (hi : Int)) / 2 = (((lo + hi) / 2 : Nat) : Int) by omega], q1, q5, by omega, Nat.le_refl _, by (repeat' (first | (with_reducible exact Below.refl _ _) | (with_reducible assumption) | (with_reducible refine belowThru ?_ (by assumption)) | (with_reducible refine belowAlloc ?_) | (with_reducible refine Below.setCell ?_ (by first | omega | (simp; done) | (simp; omega)) _) | (with_reducible refine Below.drew ?_) | (with_reducible refine below_drewN ?_ _)))⟩
    · obtain rfl : lo = k := by omega
      go_wp2
      go_ret
      exact ⟨rfl, by (repeat' (first | (with_reducible exact Below.refl _ _) | (with_reducible assumption) | (with_reducible refine belowThru ?_ (by assumption)) | (with_reducible refine belowAlloc ?_) | (with_reducible refine Below.setCell ?_ (by first | omega | (simp; done) | (simp; omega)) _) | (with_reducible refine Below.drew ?_) | (with_reducible refine below_drewN ?_ _)))⟩
end Go.Proofs.Ytbdcmdofmokoeaa
/-
  Layer 4: cameras, ranges and the first view that contradicts, by the code.
-/
namespace Go.Proofs.Ytbdcmdofmokoeaa
open Go.RowKit Go.Shelf
set_option linter.unusedVariables false
set_option linter.unusedSimpArgs false

abbrev allM : Rat × Rat := (-MX, MX)
instance : DecidableEq (Rat × Rat) := inferInstance
/-- What focal says: the span, and the error. -/
def foC (s : Option (Rat × Rat)) : Array Value := match s with
  | none => lz
  | some p => if p = allM then lz else spC p
def foE (s : Option (Rat × Rat)) : Int := match s with
  | none => 6
  | some p => if p = allM then 43 else 0
def plC (s : Option (Rat × Rat)) : Array Value := match s with
  | none => lz
  | some p => spC p
theorem rat_eq {q r : Rat} (h : fn q = fn r) (k : fd q = fd r) : q = r := by rw [← mkR_self q, ← mkR_self r, h, k]
theorem focal_any (a : Option Addr) (n c : Nat) (vs : List Vw) (hn : n ≤ 12) (hV : ∀ v ∈ vs, InV v) (w : World) (hR : VRow w a n vs) :
    Calls Try.prog 59 #[.slice a n c] w fun e w' => e = .returned (.tuple #[.agg (foC (focS vs)), .int .i64 (foE (focS vs))]) ∧ Below w.heap.size w w' := by
  have HS : ∀ (Bl Br : Nat) (W : World), W.cell? ⟨Bl, 0, none⟩ = some (.slice a n c) → W.cell? ⟨Br, 0, none⟩ = some (.func (.func 89) #[] #[]) → Below w.heap.size w W → Calls Try.prog 87 #[.func (.func 113) #[] #[.pointer (some ⟨Bl, 0, none⟩), .pointer (some ⟨Br, 0, none⟩)]] W fun e W' => e = .returned (soV (focS vs)) ∧ Below W.heap.size W W' := fun Bl Br W h1 h2 hb =>
    solve_views Bl Br n c 89 a #[] vs rdF (fun _ => True) W hn (enters_of Try.func89 (by kernel_rfl) rfl) (fun _ _ _ h => h) (fun _ _ _ h => h)
      (Lib.hid fun v W _ _ => focal1_any v.1 v.2.1 v.2.2.1 v.2.2.2 W) (fun v hv => rdF_bd (hV v hv)) ⟨h1, h2, hR.later hb, trivial⟩
  cases hs : focS vs with
  | none => rw [hs] at HS; exact focal_6 a n c 0 0 0 0 0 0 0 0 0 w (Lib.hid HS)
  | some p =>
    obtain ⟨L, H⟩ := p
    rw [hs] at HS
    obtain ⟨-, -, q1, q2, q3, q4⟩ := fits_MX
    simp only [soV, spC] at HS
    by_cases hp : ((L, H) : Rat × Rat) = allM
    · have e1 : foC (some (L, H)) = lz := if_pos hp
      have e2 : foE (some (L, H)) = 43 := if_pos hp
      rw [e1, e2]
      cases hp
      rw [q1, q2, q3, q4] at HS
      exact focal_43 a n c 0 0 0 0 0 0 0 0 0 w (Lib.hid HS)
    · have e1 : foC (some (L, H)) = spC (L, H) := if_neg hp
      have e2 : foE (some (L, H)) = 0 := if_neg hp
      rw [e1, e2]
      simp only [spC]
      by_cases c1 : fn L = -4611686018427387903
      · rw [c1] at HS ⊢
        by_cases c2 : fd L = 1
        · rw [c2] at HS ⊢
          by_cases c3 : fn H = 4611686018427387903
          · rw [c3] at HS ⊢
            by_cases c4 : fd H = 1
            · exact absurd (by rw [show L = -MX from rat_eq (c1.trans q3.symm) (c2.trans q4.symm), show H = MX from rat_eq (c3.trans q1.symm) (c4.trans q2.symm)]) hp
            · exact focal_03 a n c 0 0 0 (fd H) 0 0 0 0 0 w (beq_false_of_ne c4) (Lib.hid HS)
          · exact focal_02 a n c 0 0 (fn H) (fd H) 0 0 0 0 0 w (beq_false_of_ne c3) (Lib.hid HS)
        · exact focal_01 a n c 0 (fd L) (fn H) (fd H) 0 0 0 0 0 w (beq_false_of_ne c2) (Lib.hid HS)
      · exact focal_00 a n c (fn L) (fd L) (fn H) (fd H) 0 0 0 0 0 w (beq_false_of_ne c1) (Lib.hid HS)
theorem place_any (a : Option Addr) (n c : Nat) (vs : List Vw) (x z : Int) (hn : n ≤ 12) (hV : ∀ v ∈ vs, InV v) (hg : InG x z) (w : World) (hR : VRow w a n vs) :
    Calls Try.prog 60 #[.slice a n c, .int .i64 x, .int .i64 z] w fun e w' => e = .returned (.agg (plC (plaS x z vs))) ∧ Below w.heap.size w w' := by
  have HS : ∀ (Bl Br : Nat) (W : World), W.cell? ⟨Bl, 0, none⟩ = some (.slice a n c) → W.cell? ⟨Br, 0, none⟩ = some (.func (.func 91) #[] #[.pointer (some ⟨w.heap.size + 1, 0, none⟩), .pointer (some ⟨w.heap.size, 0, none⟩)]) → Below w.heap.size w W → W.cell? ⟨w.heap.size + 1, 0, none⟩ = some (.int .i64 z) → W.cell? ⟨w.heap.size, 0, none⟩ = some (.int .i64 x) → Calls Try.prog 87 #[.func (.func 113) #[] #[.pointer (some ⟨Bl, 0, none⟩), .pointer (some ⟨Br, 0, none⟩)]] W fun e W' => e = .returned (soV (plaS x z vs)) ∧ Below W.heap.size W W' := fun Bl Br W h1 h2 hb h3 h4 => by
    have y3 := lt_of_cell h3
    have y4 := lt_of_cell h4
    refine solve_views Bl Br n c 91 a #[.pointer (some ⟨w.heap.size + 1, 0, none⟩), .pointer (some ⟨w.heap.size, 0, none⟩)] vs (rdP x z) (fun A => A.cell? ⟨w.heap.size + 1, 0, none⟩ = some (.int .i64 z) ∧ A.cell? ⟨w.heap.size, 0, none⟩ = some (.int .i64 x)) W hn (enters_of Try.func91 (by kernel_rfl) rfl) (fun A C hb h => ⟨cell_later hb h.1, cell_later hb h.2⟩) (fun A C hb h => ⟨cell_firm hb y3 h.1, cell_firm hb y4 h.2⟩) ?_ (fun v hv => rdP_bd (hV v hv) hg) ⟨h1, h2, hR.later hb, h3, h4⟩
    refine Lib.hid fun v A hv hA => ?_
    obtain ⟨b1, b2, b3⟩ := rdP_parts (hV v hv) hg
    exact place1_any v.1 v.2.1 v.2.2.1 v.2.2.2 x z (v.1 * z - x * v.2.1) (v.2.1 * z) _ _ A hA.1 hA.2 (wr64 _ (by omega)) (wr64 _ (by omega)) (wr64 _ (by omega)) (wr64 _ (by omega))
  cases hs : plaS x z vs with
  | none => rw [hs] at HS; exact place_walk a n c x z 0 0 0 0 6 w (Lib.hid HS)
  | some p => rw [hs] at HS; exact place_walk a n c x z (fn p.1) (fd p.1) (fn p.2) (fd p.2) 0 w (Lib.hid HS)
theorem ckV_ok {vs : List Vw} (h : ckV vs = 0) : vs.length ≤ 12 ∧ ∀ v ∈ vs, InV v := by
  unfold ckV at h
  by_cases h1 : 12 < vs.length
  · rw [if_pos h1] at h; cases h
  · rw [if_neg h1] at h
    by_cases h2 : ∀ v ∈ vs, InV v
    · exact ⟨by omega, h2⟩
    · rw [if_neg h2] at h; cases h
def z8 : Array Value := #[.int .i64 0, .int .i64 0, .int .i64 0, .int .i64 0, .int .i64 0, .int .i64 0, .int .i64 0, .int .i64 0]
def cam (p q : Rat × Rat) : Array Value := #[.int .i64 (fn p.1), .int .i64 (fd p.1), .int .i64 (fn p.2), .int .i64 (fd p.2), .int .i64 (fn q.1), .int .i64 (fd q.1), .int .i64 (fn q.2), .int .i64 (fd q.2)]
/-- The error of views that should have a camera. -/
def caE (vs : List Vw) : Int := if ckV vs ≠ 0 then ckV vs else foE (focS vs)
/-- Views without that error have spans. -/
def caC (vs : List Vw) : Array Value := match focS vs, plaS 0 1 vs with
  | some p, some q => cam p q
  | _, _ => z8
end Go.Proofs.Ytbdcmdofmokoeaa
/-
  Layer 4: cameras and ranges, by the code: all answers.
-/
namespace Go.Proofs.Ytbdcmdofmokoeaa
open Go.RowKit Go.Shelf
set_option linter.unusedVariables false
set_option linter.unusedSimpArgs false

def caV (vs : List Vw) : Array Value := if caE vs = 0 then caC vs else z8
def raE (x z : Int) (vs : List Vw) : Int := if ckV vs ≠ 0 then ckV vs else if ¬ InG x z then 2 else foE (focS vs)
def raC (x z : Int) (vs : List Vw) : Array Value := if raE x z vs = 0 then plC (plaS x z vs) else lz
theorem ne0 {E : Int} (h : E ≠ 0) : (E != 0) = true := by simpa using h
theorem foE_zero {s : Option (Rat × Rat)} (h : foE s = 0) : ∃ L H, s = some (L, H) ∧ ¬ ((L, H) : Rat × Rat) = allM ∧ foC s = spC (L, H) := by
  cases s with
  | none => cases h
  | some p =>
    by_cases c : p = allM
    · have : foE (some p) = 43 := if_pos c
      rw [this] at h; cases h
    · exact ⟨p.1, p.2, rfl, c, if_neg c⟩
theorem foE_more {s : Option (Rat × Rat)} (h : foE s ≠ 0) : foC s = lz := by
  cases s with
  | none => rfl
  | some p =>
    by_cases c : p = allM
    · exact if_pos c
    · exact absurd (if_neg c : foE (some p) = 0) h
theorem calib_any (a : Option Addr) (n c : Nat) (vs : List Vw) (w : World) (hR : VRow w a n vs) :
    Calls Try.prog 21 #[.slice a n c] w fun e w' => e = .returned (.tuple #[.agg (caV vs), .int .i64 (caE vs)]) ∧ Below w.heap.size w w' := by
  have hl := hR.1
  have HC : ∀ W : World, Below w.heap.size w W → Calls Try.prog 30 #[.slice a n c] W fun e W' => e = .returned (.int .i64 (ckV vs)) ∧ Below W.heap.size W W' := fun W hb => views_any a n c vs W (hR.later hb)
  by_cases hk : ckV vs = 0
  · obtain ⟨h12, hV⟩ := ckV_ok hk
    have e1 : caE vs = foE (focS vs) := if_neg (by rw [hk]; decide)
    have HF : ∀ W : World, Below w.heap.size w W → Calls Try.prog 59 #[.slice a n c] W fun e W' => e = .returned (.tuple #[.agg (foC (focS vs)), .int .i64 (foE (focS vs))]) ∧ Below W.heap.size W W' := fun W hb => focal_any a n c vs (by omega) hV W (hR.later hb)
    rw [hk] at HC
    by_cases hf : foE (focS vs) = 0
    · obtain ⟨L, H, hs, hne, hfc⟩ := foE_zero hf
      obtain ⟨q, hq⟩ := pla_of_foc hV (show InG 0 1 by decide) hs
      have HP : ∀ W : World, Below w.heap.size w W → Calls Try.prog 60 #[.slice a n c, .int .i64 0, .int .i64 1] W fun e W' => e = .returned (.agg (plC (plaS 0 1 vs))) ∧ Below W.heap.size W W' := fun W hb => place_any a n c vs 0 1 (by omega) hV (by decide) W (hR.later hb)
      have e2 : caV vs = cam (L, H) q := by
        unfold caV; rw [e1, if_pos hf]; unfold caC; rw [hs, hq]
      rw [hfc, hf] at HF
      rw [hq] at HP
      rw [e2, e1, hf]
      exact calib_3 a n c _ _ _ _ _ _ _ _ 0 w (Lib.hid HC) (Lib.hid HF) (Lib.hid HP)
    · have e2 : caV vs = z8 := by unfold caV; rw [e1, if_neg hf]
      rw [foE_more hf] at HF
      rw [e2, e1]
      exact calib_2 a n c 0 0 0 0 0 0 0 0 _ w (ne0 hf) (Lib.hid HC) (Lib.hid HF)
  · have e1 : caE vs = ckV vs := if_pos hk
    have e2 : caV vs = z8 := by unfold caV; rw [e1, if_neg hk]
    rw [e2, e1]
    exact calib_1 a n c 0 0 0 0 0 0 0 0 _ w (ne0 hk) (Lib.hid HC)
theorem range_any (a : Option Addr) (n c : Nat) (x z : Int) (vs : List Vw) (w : World) (hR : VRow w a n vs) :
    Calls Try.prog 19 #[.slice a n c, .int .i64 x, .int .i64 z] w fun e w' => e = .returned (.tuple #[.agg (raC x z vs), .int .i64 (raE x z vs)]) ∧ Below w.heap.size w w' := by
  have hl := hR.1
  have HC : ∀ W : World, Below w.heap.size w W → Calls Try.prog 30 #[.slice a n c] W fun e W' => e = .returned (.int .i64 (ckV vs)) ∧ Below W.heap.size W W' := fun W hb => views_any a n c vs W (hR.later hb)
  have HT : ∀ W : World, Below w.heap.size w W → Calls Try.prog 58 #[.int .i64 x, .int .i64 z] W fun e W' => e = .returned (.bool (decide (InG x z))) ∧ Below W.heap.size W W' := fun W _ => target_any x z W
  by_cases hk : ckV vs = 0
  · obtain ⟨h12, hV⟩ := ckV_ok hk
    rw [hk] at HC
    by_cases hg : InG x z
    · rw [decide_eq_true hg] at HT
      have e1 : raE x z vs = foE (focS vs) := (if_neg (by rw [hk]; decide)).trans (if_neg (fun h => h hg))
      have HF : ∀ W : World, Below w.heap.size w W → Calls Try.prog 59 #[.slice a n c] W fun e W' => e = .returned (.tuple #[.agg (foC (focS vs)), .int .i64 (foE (focS vs))]) ∧ Below W.heap.size W W' := fun W hb => focal_any a n c vs (by omega) hV W (hR.later hb)
      by_cases hf : foE (focS vs) = 0
      · obtain ⟨L, H, hs, hne, hfc⟩ := foE_zero hf
        obtain ⟨q, hq⟩ := pla_of_foc hV hg hs
        have HP : ∀ W : World, Below w.heap.size w W → Calls Try.prog 60 #[.slice a n c, .int .i64 x, .int .i64 z] W fun e W' => e = .returned (.agg (plC (plaS x z vs))) ∧ Below W.heap.size W W' := fun W hb => place_any a n c vs x z (by omega) hV hg W (hR.later hb)
        have e2 : raC x z vs = spC q := by
          unfold raC; rw [e1, if_pos hf, hq]; rfl
        rw [hfc, hf] at HF
        rw [hq] at HP
        rw [e2, e1, hf]
        exact range_4 a n c x z _ _ _ _ _ _ _ _ 0 w (Lib.hid HC) (Lib.hid HT) (Lib.hid HF) (Lib.hid HP)
      · have e2 : raC x z vs = lz := by unfold raC; rw [e1, if_neg hf]
        rw [foE_more hf] at HF
        rw [e2, e1]
        exact range_3 a n c x z 0 0 0 0 0 0 0 0 _ w (ne0 hf) (Lib.hid HC) (Lib.hid HT) (Lib.hid HF)
    · rw [decide_eq_false hg] at HT
      have e1 : raE x z vs = 2 := (if_neg (by rw [hk]; decide)).trans (if_pos hg)
      have e2 : raC x z vs = lz := by unfold raC; rw [e1, if_neg (by decide)]
      rw [e2, e1]
      exact range_2 a n c x z 0 0 0 0 0 0 0 0 0 w (Lib.hid HC) (Lib.hid HT)
  · have e1 : raE x z vs = ckV vs := if_pos hk
    have e2 : raC x z vs = lz := by unfold raC; rw [e1, if_neg hk]
    rw [e2, e1]
    exact range_1 a n c x z 0 0 0 0 0 0 0 0 _ w (ne0 hk) (Lib.hid HC)
end Go.Proofs.Ytbdcmdofmokoeaa
/-
  Layer 4: the statements' own examples.
-/
namespace Go.Proofs.Ytbdcmdofmokoeaa
open Go.RowKit Go.Shelf
set_option linter.unusedVariables false
set_option linter.unusedSimpArgs false

def tab : List (Int × Int) := [(0, 0), (16, 32), (48, 40)]
def duo : List Vw := [(0, 10, 100, 104), (10, 10, 196, 200)]
set_option maxRecDepth 100000 in
set_option maxHeartbeats 16000000 in
theorem table_blk (w : World) : Calls Try.prog 16 #[] w fun e w' => (∃ b : Nat, e = .returned (.slice (some ⟨b, 0, none⟩) 3 3) ∧ Blk w' b #[.int .i64 0, .int .i64 0, .int .i64 16, .int .i64 32, .int .i64 48, .int .i64 40] 98) ∧ Below w.heap.size w w' := by
  go_enter Try.func16, Try.ntmps16
  go_wp2
  go_ret
  exact ⟨⟨w.heap.size, rfl, Blk.new rfl⟩, by (repeat' (first | (with_reducible exact Below.refl _ _) | (with_reducible assumption) | (with_reducible refine belowThru ?_ (by assumption)) | (with_reducible refine belowAlloc ?_) | (with_reducible refine Below.setCell ?_ (by first | omega | (simp; done) | (simp; omega)) _) | (with_reducible refine Below.drew ?_) | (with_reducible refine below_drewN ?_ _)))⟩
theorem table_any (w : World) : Calls Try.prog 16 #[] w fun e w' => (∃ b : Nat, e = .returned (.slice (some ⟨b, 0, none⟩) 3 3) ∧ KRow w' (some ⟨b, 0, none⟩) 3 tab) ∧ Below w.heap.size w w' := by
  refine (table_blk w).mono ?_
  rintro e w' ⟨⟨b, rfl, h⟩, hb⟩
  refine ⟨⟨b, rfl, rfl, fun _ => ⟨b, 0, rfl, h.lt, fun j hj => ?_⟩⟩, hb⟩
  obtain rfl | rfl | rfl : j = 0 ∨ j = 1 ∨ j = 2 := by omega
  all_goals (rw [h.cells, h.cells]; exact ⟨rfl, rfl⟩)
set_option maxRecDepth 100000 in
set_option maxHeartbeats 16000000 in
theorem two_any (w : World) : Calls Try.prog 20 #[] w fun e w' => (∃ b : Nat, e = .returned (.slice (some ⟨b, 0, none⟩) 2 2) ∧ w.heap.size ≤ b ∧ Blk w' b #[.int .i64 0, .int .i64 10, .int .i64 100, .int .i64 104, .int .i64 10, .int .i64 10, .int .i64 196, .int .i64 200] 45) ∧ Below w.heap.size w w' := by
  go_enter Try.func20, Try.ntmps20
  go_wp2
  go_ret
  exact ⟨⟨w.heap.size, rfl, Nat.le_refl _, Blk.new rfl⟩, by (repeat' (first | (with_reducible exact Below.refl _ _) | (with_reducible assumption) | (with_reducible refine belowThru ?_ (by assumption)) | (with_reducible refine belowAlloc ?_) | (with_reducible refine Below.setCell ?_ (by first | omega | (simp; done) | (simp; omega)) _) | (with_reducible refine Below.drew ?_) | (with_reducible refine below_drewN ?_ _)))⟩
theorem duo_row {w : World} {b : Nat} (h : Blk w b #[.int .i64 0, .int .i64 10, .int .i64 100, .int .i64 104, .int .i64 10, .int .i64 10, .int .i64 196, .int .i64 200] 45) : VRow w (some ⟨b, 0, none⟩) 2 duo :=
  ⟨rfl, fun _ => ⟨b, 0, rfl, h.lt, fun j v hv => by
    have hj : j < 2 := (List.getElem?_eq_some_iff.1 hv).1
    obtain rfl | rfl : j = 0 ∨ j = 1 := by omega
    all_goals (cases hv; rw [h.cells, h.cells, h.cells, h.cells]; exact ⟨rfl, rfl, rfl, rfl⟩)⟩⟩
set_option maxRecDepth 100000 in
set_option maxHeartbeats 16000000 in
theorem whole_any (n : Int) (w : World) : Calls Try.prog 17 #[.int .i64 n] w fun e w' => e = .returned (.agg #[.int .i64 n, .int .i64 1]) ∧ Below w.heap.size w w' := by
  go_enter Try.func17, Try.ntmps17
  go_wp2_with fail
  exact bodyPost_ret (v := .agg #[.int .i64 n, .int .i64 1]) (by simp only [results, Try.results17]; go_simp) rfl ⟨rfl, by (repeat' (first | (with_reducible exact Below.refl _ _) | (with_reducible assumption) | (with_reducible refine belowThru ?_ (by assumption)) | (with_reducible refine belowAlloc ?_) | (with_reducible refine Below.setCell ?_ (by first | omega | (simp; done) | (simp; omega)) _) | (with_reducible refine Below.drew ?_) | (with_reducible refine below_drewN ?_ _)))⟩
set_option maxRecDepth 100000 in
set_option maxHeartbeats 16000000 in
theorem span_any (n m : Int) (w : World) : Calls Try.prog 24 #[.int .i64 n, .int .i64 m] w fun e w' => e = .returned (.agg #[.int .i64 n, .int .i64 1, .int .i64 m, .int .i64 1]) ∧ Below w.heap.size w w' := by
  have HW := Lib.hid (whole_any n)
  have HV := Lib.hid (whole_any m)
  go_enter Try.func24, Try.ntmps24
  go_wp2_with fail
  refine (HW.out _).mono ?_
  rintro e w1 ⟨rfl, hb⟩
  have kn0 : Blk w1 (w.heap.size) #[.int .i64 0, .int .i64 0, .int .i64 0, .int .i64 0] 35 := Blk.later hb (by (repeat' (first | (with_reducible assumption) | (with_reducible refine Blk.set2 ?_) | ((with_reducible refine Blk.new ?_); first | rfl | (simp; done)) | (with_reducible refine Blk.later (by assumption) ?_) | (with_reducible refine Blk.alloc ?_) | (with_reducible refine Blk.drewN ?_) | (with_reducible refine Blk.drew ?_) | (with_reducible refine Blk.other ?_ (by first | omega | (simp; done) | (simp; omega))))))
  have k0 := kn0; clear kn0; obtain ⟨a0, b0⟩ := k0.read; have y0 := k0.lt
  have hBw : Below w.heap.size w w1 := by (repeat' (first | (with_reducible exact Below.refl _ _) | (with_reducible assumption) | (with_reducible refine belowThru ?_ (by assumption)) | (with_reducible refine belowAlloc ?_) | (with_reducible refine Below.setCell ?_ (by first | omega | (simp; done) | (simp; omega)) _) | (with_reducible refine Below.drew ?_) | (with_reducible refine below_drewN ?_ _)))
  have hzw1 := hBw.size
  clear hb
  go_wp2_with fail
  refine (HV.out _).mono ?_
  rintro e w2 ⟨rfl, hb⟩
  have kn0 : Blk w2 (w.heap.size) #[.int .i64 0, .int .i64 0, .int .i64 0, .int .i64 0] 35 := Blk.later hb (by (repeat' (first | (with_reducible assumption) | (with_reducible refine Blk.set2 ?_) | ((with_reducible refine Blk.new ?_); first | rfl | (simp; done)) | (with_reducible refine Blk.later (by assumption) ?_) | (with_reducible refine Blk.alloc ?_) | (with_reducible refine Blk.drewN ?_) | (with_reducible refine Blk.drew ?_) | (with_reducible refine Blk.other ?_ (by first | omega | (simp; done) | (simp; omega))))))
  clear k0 a0 b0 y0
  have k0 := kn0; clear kn0; obtain ⟨a0, b0⟩ := k0.read; have y0 := k0.lt
  replace hBw : Below w.heap.size w w2 := belowThru (by (repeat' (first | (with_reducible exact Below.refl _ _) | (with_reducible assumption) | (with_reducible refine belowThru ?_ (by assumption)) | (with_reducible refine belowAlloc ?_) | (with_reducible refine Below.setCell ?_ (by first | omega | (simp; done) | (simp; omega)) _) | (with_reducible refine Below.drew ?_) | (with_reducible refine below_drewN ?_ _)))) hb
  have hzw2 := hBw.size
  clear hb
  go_wp2_with fail
  exact bodyPost_ret (v := .agg #[.int .i64 n, .int .i64 1, .int .i64 m, .int .i64 1]) (by simp only [results, Try.results24]; go_simp) rfl ⟨rfl, by (repeat' (first | (with_reducible exact Below.refl _ _) | (with_reducible assumption) | (with_reducible refine belowThru ?_ (by assumption)) | (with_reducible refine belowAlloc ?_) | (with_reducible refine Below.setCell ?_ (by first | omega | (simp; done) | (simp; omega)) _) | (with_reducible refine Below.drew ?_) | (with_reducible refine below_drewN ?_ _)))⟩
end Go.Proofs.Ytbdcmdofmokoeaa
/-
  Layer 4: the first view that contradicts, by the code.
-/
namespace Go.Proofs.Ytbdcmdofmokoeaa
open Go.RowKit Go.Shelf
set_option linter.unusedVariables false
set_option linter.unusedSimpArgs false

/-- The first view that contradicts those before it; as many as there are, if none does. -/
def bdN (vs : List Vw) : Nat := (List.range vs.length).findIdx fun i => (focS (vs.take (i + 1))).isNone
def bdI (vs : List Vw) : Int := if bdN vs = vs.length then -1 else (bdN vs : Int)
theorem bdN_le (vs : List Vw) : bdN vs ≤ vs.length := by have := List.findIdx_le_length (xs := List.range vs.length) (p := fun i => (focS (vs.take (i + 1))).isNone); rwa [List.length_range] at this
theorem bdN_no {vs : List Vw} {t : Nat} (h : t < bdN vs) : (focS (vs.take (t + 1))).isNone = false := by
  have hl := bdN_le vs
  have h1 : t < (List.range vs.length).length := by rw [List.length_range]; omega
  have := List.not_of_lt_findIdx (xs := List.range vs.length) (p := fun i => (focS (vs.take (i + 1))).isNone) h
  rw [List.getElem_range] at this
  simpa using this
theorem bdN_yes {vs : List Vw} (hV : ∀ v ∈ vs, InV v) {t : Nat} (h : bdN vs ≤ t) (ht : t < vs.length) : (focS (vs.take (t + 1))).isNone = true := by
  have h1 : bdN vs < (List.range vs.length).length := by rw [List.length_range]; omega
  have h2 := List.findIdx_getElem (xs := List.range vs.length) (p := fun i => (focS (vs.take (i + 1))).isNone) (w := h1)
  have h3 : (focS (vs.take (bdN vs + 1))).isNone = true := by
    have e : (List.range vs.length)[bdN vs] = bdN vs := List.getElem_range _
    have h2' : (fun i => (focS (vs.take (i + 1))).isNone) ((List.range vs.length)[bdN vs]) = true := h2
    rwa [e] at h2'
  rw [Option.isNone_iff_eq_none] at h3 ⊢
  rw [foc_none (fun v hv => hV v (List.mem_of_mem_take hv))] at h3 ⊢
  rintro ⟨f, c, hf⟩
  refine h3 ⟨f, c, hf.of fun v hv => ?_⟩
  have e : (vs.take (t + 1)).take (bdN vs + 1) = vs.take (bdN vs + 1) := by rw [List.take_take]; congr 1; omega
  rw [← e] at hv
  exact List.mem_of_mem_take hv
theorem VRow.take {w : World} {a : Option Addr} {n k : Nat} {vs : List Vw} (h : VRow w a n vs) (hk : k ≤ n) : VRow w a k (vs.take k) :=
  ⟨by rw [List.length_take, h.1]; omega, fun h0 => by
    obtain ⟨b, off, ha, hlt, hc⟩ := h.2 (by omega)
    refine ⟨b, off, ha, hlt, fun j v hv => hc j v ?_⟩
    rw [List.getElem?_take] at hv
    split at hv
    · exact hv
    · cases hv⟩
set_option maxRecDepth 100000 in
set_option maxHeartbeats 16000000 in
theorem bad1_walk (b off n c i Bl : Nat) (p1 p2 p3 p4 E : Int) (v : Bool) (hi : i < n) (hn : n ≤ 12) (hc : n ≤ c) (hv : (E == 6) = v) (w : World) (h0 : w.cell? ⟨Bl, 0, none⟩ = some (.slice (some ⟨b, off, none⟩) n c))
    (HF : Hid (∀ W : World, Below w.heap.size w W → Calls Try.prog 59 #[.slice (some ⟨b, off, none⟩) ((i + 1 : Nat)) c] W fun e W' => e = .returned (.tuple #[.agg #[.int .i64 p1, .int .i64 p2, .int .i64 p3, .int .i64 p4], .int .i64 E]) ∧ Below W.heap.size W W')) :
    Calls Try.prog 61 #[.int .i64 i, .pointer (some ⟨Bl, 0, none⟩)] w fun e w' => e = .returned (.bool v) ∧ Below w.heap.size w w' := by
  subst hv
  have q0 : (0 : Int) ≤ (i : Int) + 1 := by omega
  have q1 : ((i : Int) + 1) ≤ (c : Int) := by omega
  have q2 : ((i : Int) + 1).toNat = i + 1 := by omega
  have q3 : IntKind.i64.wrap ((i : Int) + 1) = (i : Int) + 1 := wr64 _ (by omega)
  have q4 : ¬ (c < i + 1) := by omega
  have q5 : i + 1 ≤ c := by omega
  go_enter Try.func61, Try.ntmps61
  go_wp2_with fail
  refine (HF.out _ (by (repeat' (first | (with_reducible exact Below.refl _ _) | (with_reducible assumption) | (with_reducible refine belowThru ?_ (by assumption)) | (with_reducible refine belowAlloc ?_) | (with_reducible refine Below.setCell ?_ (by first | omega | (simp; done) | (simp; omega)) _) | (with_reducible refine Below.drew ?_) | (with_reducible refine below_drewN ?_ _))))).mono ?_
  rintro e w1 ⟨rfl, hb⟩
  have hB : Below w.heap.size w w1 := by (repeat' (first | (with_reducible exact Below.refl _ _) | (with_reducible assumption) | (with_reducible refine belowThru ?_ (by assumption)) | (with_reducible refine belowAlloc ?_) | (with_reducible refine Below.setCell ?_ (by first | omega | (simp; done) | (simp; omega)) _) | (with_reducible refine Below.drew ?_) | (with_reducible refine below_drewN ?_ _)))
  clear hb
  go_wp2
  go_ret
  exact ⟨rfl, by (repeat' (first | (with_reducible exact Below.refl _ _) | (with_reducible assumption) | (with_reducible refine belowThru ?_ (by assumption)) | (with_reducible refine belowAlloc ?_) | (with_reducible refine Below.setCell ?_ (by first | omega | (simp; done) | (simp; omega)) _) | (with_reducible refine Below.drew ?_) | (with_reducible refine below_drewN ?_ _)))⟩
set_option maxRecDepth 100000 in
set_option maxHeartbeats 16000000 in
theorem bad_0 (a : Option Addr) (n c j : Nat) (E : Int) (w : World) (hE : (E != 0) = true) (HC : Hid (∀ W : World, Below w.heap.size w W → Calls Try.prog 30 #[.slice a n c] W fun e W' => e = .returned (.int .i64 E) ∧ Below W.heap.size W W')) :
    Calls Try.prog 22 #[.slice a n c] w fun e w' => e = .returned (.tuple #[.int .i64 0, .int .i64 E]) ∧ Below w.heap.size w w' := by
  go_enter Try.func22, Try.ntmps22
  go_wp2_with fail
  refine (HC.out _ (by (repeat' (first | (with_reducible exact Below.refl _ _) | (with_reducible assumption) | (with_reducible refine belowThru ?_ (by assumption)) | (with_reducible refine belowAlloc ?_) | (with_reducible refine Below.setCell ?_ (by first | omega | (simp; done) | (simp; omega)) _) | (with_reducible refine Below.drew ?_) | (with_reducible refine below_drewN ?_ _))))).mono ?_
  rintro e w1 ⟨rfl, hb⟩
  have kn0 : Blk w1 (w.heap.size) #[.slice a n c] 38 := Blk.later hb (by (repeat' (first | (with_reducible assumption) | (with_reducible refine Blk.set2 ?_) | ((with_reducible refine Blk.new ?_); first | rfl | (simp; done)) | (with_reducible refine Blk.later (by assumption) ?_) | (with_reducible refine Blk.alloc ?_) | (with_reducible refine Blk.drewN ?_) | (with_reducible refine Blk.drew ?_) | (with_reducible refine Blk.other ?_ (by first | omega | (simp; done) | (simp; omega))))))
  have k0 := kn0; clear kn0; obtain ⟨a0, b0⟩ := k0.read; have y0 := k0.lt
  have hBw : Below w.heap.size w w1 := by (repeat' (first | (with_reducible exact Below.refl _ _) | (with_reducible assumption) | (with_reducible refine belowThru ?_ (by assumption)) | (with_reducible refine belowAlloc ?_) | (with_reducible refine Below.setCell ?_ (by first | omega | (simp; done) | (simp; omega)) _) | (with_reducible refine Below.drew ?_) | (with_reducible refine below_drewN ?_ _)))
  have hzw1 := hBw.size
  clear hb
  go_wp2_with fail
  exact bodyPost_ret (v := .tuple #[.int .i64 0, .int .i64 E]) (by simp only [results, Try.results22]; go_simp) rfl ⟨rfl, by (repeat' (first | (with_reducible exact Below.refl _ _) | (with_reducible assumption) | (with_reducible refine belowThru ?_ (by assumption)) | (with_reducible refine belowAlloc ?_) | (with_reducible refine Below.setCell ?_ (by first | omega | (simp; done) | (simp; omega)) _) | (with_reducible refine Below.drew ?_) | (with_reducible refine below_drewN ?_ _)))⟩
set_option maxRecDepth 100000 in
set_option maxHeartbeats 16000000 in
theorem bad_1 (a : Option Addr) (n c j : Nat) (E : Int) (w : World) (hj : ((j : Int) == (n : Int)) = true) (HC : Hid (∀ W : World, Below w.heap.size w W → Calls Try.prog 30 #[.slice a n c] W fun e W' => e = .returned (.int .i64 0) ∧ Below W.heap.size W W')) (HS : Hid (∀ W : World, Below w.heap.size w W → W.cell? ⟨w.heap.size, 0, none⟩ = some (.slice a n c) → Calls Try.prog 55 #[.int .i64 n, .func (.func 61) #[] #[.pointer (some ⟨w.heap.size, 0, none⟩)]] W fun e W' => e = .returned (.int .i64 j) ∧ Below W.heap.size W W')) :
    Calls Try.prog 22 #[.slice a n c] w fun e w' => e = .returned (.tuple #[.int .i64 (-1), .int .i64 0]) ∧ Below w.heap.size w w' := by
  go_enter Try.func22, Try.ntmps22
  go_wp2_with fail
  refine (HC.out _ (by (repeat' (first | (with_reducible exact Below.refl _ _) | (with_reducible assumption) | (with_reducible refine belowThru ?_ (by assumption)) | (with_reducible refine belowAlloc ?_) | (with_reducible refine Below.setCell ?_ (by first | omega | (simp; done) | (simp; omega)) _) | (with_reducible refine Below.drew ?_) | (with_reducible refine below_drewN ?_ _))))).mono ?_
  rintro e w1 ⟨rfl, hb⟩
  have kn0 : Blk w1 (w.heap.size) #[.slice a n c] 38 := Blk.later hb (by (repeat' (first | (with_reducible assumption) | (with_reducible refine Blk.set2 ?_) | ((with_reducible refine Blk.new ?_); first | rfl | (simp; done)) | (with_reducible refine Blk.later (by assumption) ?_) | (with_reducible refine Blk.alloc ?_) | (with_reducible refine Blk.drewN ?_) | (with_reducible refine Blk.drew ?_) | (with_reducible refine Blk.other ?_ (by first | omega | (simp; done) | (simp; omega))))))
  have k0 := kn0; clear kn0; obtain ⟨a0, b0⟩ := k0.read; have y0 := k0.lt
  have hBw : Below w.heap.size w w1 := by (repeat' (first | (with_reducible exact Below.refl _ _) | (with_reducible assumption) | (with_reducible refine belowThru ?_ (by assumption)) | (with_reducible refine belowAlloc ?_) | (with_reducible refine Below.setCell ?_ (by first | omega | (simp; done) | (simp; omega)) _) | (with_reducible refine Below.drew ?_) | (with_reducible refine below_drewN ?_ _)))
  have hzw1 := hBw.size
  clear hb
  go_wp2_with fail
  refine (HS.out _ hBw (k0.cells 0)).mono ?_
  rintro e w2 ⟨rfl, hb⟩
  have kn0 : Blk w2 (w.heap.size) #[.slice a n c] 38 := Blk.later hb (by (repeat' (first | (with_reducible assumption) | (with_reducible refine Blk.set2 ?_) | ((with_reducible refine Blk.new ?_); first | rfl | (simp; done)) | (with_reducible refine Blk.later (by assumption) ?_) | (with_reducible refine Blk.alloc ?_) | (with_reducible refine Blk.drewN ?_) | (with_reducible refine Blk.drew ?_) | (with_reducible refine Blk.other ?_ (by first | omega | (simp; done) | (simp; omega))))))
  clear k0 a0 b0 y0
  have k0 := kn0; clear kn0; obtain ⟨a0, b0⟩ := k0.read; have y0 := k0.lt
  replace hBw : Below w.heap.size w w2 := belowThru (by (repeat' (first | (with_reducible exact Below.refl _ _) | (with_reducible assumption) | (with_reducible refine belowThru ?_ (by assumption)) | (with_reducible refine belowAlloc ?_) | (with_reducible refine Below.setCell ?_ (by first | omega | (simp; done) | (simp; omega)) _) | (with_reducible refine Below.drew ?_) | (with_reducible refine below_drewN ?_ _)))) hb
  have hzw2 := hBw.size
  clear hb
  go_wp2_with fail
  exact bodyPost_ret (v := .tuple #[.int .i64 (-1), .int .i64 0]) (by simp only [results, Try.results22]; go_simp) rfl ⟨rfl, by (repeat' (first | (with_reducible exact Below.refl _ _) | (with_reducible assumption) | (with_reducible refine belowThru ?_ (by assumption)) | (with_reducible refine belowAlloc ?_) | (with_reducible refine Below.setCell ?_ (by first | omega | (simp; done) | (simp; omega)) _) | (with_reducible refine Below.drew ?_) | (with_reducible refine below_drewN ?_ _)))⟩
set_option maxRecDepth 100000 in
set_option maxHeartbeats 16000000 in
theorem bad_2 (a : Option Addr) (n c j : Nat) (E : Int) (w : World) (hj : ((j : Int) == (n : Int)) = false) (HC : Hid (∀ W : World, Below w.heap.size w W → Calls Try.prog 30 #[.slice a n c] W fun e W' => e = .returned (.int .i64 0) ∧ Below W.heap.size W W')) (HS : Hid (∀ W : World, Below w.heap.size w W → W.cell? ⟨w.heap.size, 0, none⟩ = some (.slice a n c) → Calls Try.prog 55 #[.int .i64 n, .func (.func 61) #[] #[.pointer (some ⟨w.heap.size, 0, none⟩)]] W fun e W' => e = .returned (.int .i64 j) ∧ Below W.heap.size W W')) :
    Calls Try.prog 22 #[.slice a n c] w fun e w' => e = .returned (.tuple #[.int .i64 j, .int .i64 0]) ∧ Below w.heap.size w w' := by
  go_enter Try.func22, Try.ntmps22
  go_wp2_with fail
  refine (HC.out _ (by (repeat' (first | (with_reducible exact Below.refl _ _) | (with_reducible assumption) | (with_reducible refine belowThru ?_ (by assumption)) | (with_reducible refine belowAlloc ?_) | (with_reducible refine Below.setCell ?_ (by first | omega | (simp; done) | (simp; omega)) _) | (with_reducible refine Below.drew ?_) | (with_reducible refine below_drewN ?_ _))))).mono ?_
  rintro e w1 ⟨rfl, hb⟩
  have kn0 : Blk w1 (w.heap.size) #[.slice a n c] 38 := Blk.later hb (by (repeat' (first | (with_reducible assumption) | (with_reducible refine Blk.set2 ?_) | ((with_reducible refine Blk.new ?_); first | rfl | (simp; done)) | (with_reducible refine Blk.later (by assumption) ?_) | (with_reducible refine Blk.alloc ?_) | (with_reducible refine Blk.drewN ?_) | (with_reducible refine Blk.drew ?_) | (with_reducible refine Blk.other ?_ (by first | omega | (simp; done) | (simp; omega))))))
  have k0 := kn0; clear kn0; obtain ⟨a0, b0⟩ := k0.read; have y0 := k0.lt
  have hBw : Below w.heap.size w w1 := by (repeat' (first | (with_reducible exact Below.refl _ _) | (with_reducible assumption) | (with_reducible refine belowThru ?_ (by assumption)) | (with_reducible refine belowAlloc ?_) | (with_reducible refine Below.setCell ?_ (by first | omega | (simp; done) | (simp; omega)) _) | (with_reducible refine Below.drew ?_) | (with_reducible refine below_drewN ?_ _)))
  have hzw1 := hBw.size
  clear hb
  go_wp2_with fail
  refine (HS.out _ hBw (k0.cells 0)).mono ?_
  rintro e w2 ⟨rfl, hb⟩
  have kn0 : Blk w2 (w.heap.size) #[.slice a n c] 38 := Blk.later hb (by (repeat' (first | (with_reducible assumption) | (with_reducible refine Blk.set2 ?_) | ((with_reducible refine Blk.new ?_); first | rfl | (simp; done)) | (with_reducible refine Blk.later (by assumption) ?_) | (with_reducible refine Blk.alloc ?_) | (with_reducible refine Blk.drewN ?_) | (with_reducible refine Blk.drew ?_) | (with_reducible refine Blk.other ?_ (by first | omega | (simp; done) | (simp; omega))))))
  clear k0 a0 b0 y0
  have k0 := kn0; clear kn0; obtain ⟨a0, b0⟩ := k0.read; have y0 := k0.lt
  replace hBw : Below w.heap.size w w2 := belowThru (by (repeat' (first | (with_reducible exact Below.refl _ _) | (with_reducible assumption) | (with_reducible refine belowThru ?_ (by assumption)) | (with_reducible refine belowAlloc ?_) | (with_reducible refine Below.setCell ?_ (by first | omega | (simp; done) | (simp; omega)) _) | (with_reducible refine Below.drew ?_) | (with_reducible refine below_drewN ?_ _)))) hb
  have hzw2 := hBw.size
  clear hb
  go_wp2_with fail
  exact bodyPost_ret (v := .tuple #[.int .i64 j, .int .i64 0]) (by simp only [results, Try.results22]; go_simp) rfl ⟨rfl, by (repeat' (first | (with_reducible exact Below.refl _ _) | (with_reducible assumption) | (with_reducible refine belowThru ?_ (by assumption)) | (with_reducible refine belowAlloc ?_) | (with_reducible refine Below.setCell ?_ (by first | omega | (simp; done) | (simp; omega)) _) | (with_reducible refine Below.drew ?_) | (with_reducible refine below_drewN ?_ _)))⟩
def baV (vs : List Vw) : Int := if ckV vs = 0 then bdI vs else 0
theorem bad_any (a : Option Addr) (n c : Nat) (vs : List Vw) (hc : n ≤ c) (w : World) (hR : VRow w a n vs) :
    Calls Try.prog 22 #[.slice a n c] w fun e w' => e = .returned (.tuple #[.int .i64 (baV vs), .int .i64 (ckV vs)]) ∧ Below w.heap.size w w' := by
  have hl := hR.1
  have HC : ∀ W : World, Below w.heap.size w W → Calls Try.prog 30 #[.slice a n c] W fun e W' => e = .returned (.int .i64 (ckV vs)) ∧ Below W.heap.size W W' := fun W hb => views_any a n c vs W (hR.later hb)
  unfold baV
  by_cases hk : ckV vs = 0
  · obtain ⟨h12, hV⟩ := ckV_ok hk
    rw [hk] at HC ⊢
    have hle := bdN_le vs
    have HS : ∀ W : World, Below w.heap.size w W → W.cell? ⟨w.heap.size, 0, none⟩ = some (.slice a n c) → Calls Try.prog 55 #[.int .i64 n, .func (.func 61) #[] #[.pointer (some ⟨w.heap.size, 0, none⟩)]] W fun e W' => e = .returned (.int .i64 (bdN vs : Nat)) ∧ Below W.heap.size W W' := by
      intro W hb h0
      refine search_any 61 #[.pointer (some ⟨w.heap.size, 0, none⟩)] n (bdN vs) (fun i => (focS (vs.take (i + 1))).isNone) W (fun _ _ => by kernel_rfl) (by omega) (by omega) (fun W1 i hB hi => ?_) (fun t ht => bdN_no ht) (fun t h1 h2 => bdN_yes hV h1 (by omega))
      obtain ⟨b, off, rfl, hbl, -⟩ := hR.2 (by omega)
      have hR1 : VRow W1 (some ⟨b, off, none⟩) n vs := (hR.later hb).later hB
      have y0 := lt_of_cell h0
      have HF : ∀ W2 : World, Below W1.heap.size W1 W2 → Calls Try.prog 59 #[.slice (some ⟨b, off, none⟩) ((i + 1 : Nat)) c] W2 fun e W' => e = .returned (.tuple #[.agg (foC (focS (vs.take (i + 1)))), .int .i64 (foE (focS (vs.take (i + 1))))]) ∧ Below W2.heap.size W2 W' :=
        fun W2 hB2 => focal_any (some ⟨b, off, none⟩) (i + 1) c (vs.take (i + 1)) (by omega) (fun v hv => hV v (List.mem_of_mem_take hv)) W2 ((hR1.later hB2).take (by omega))
      have h1 : W1.cell? ⟨w.heap.size, 0, none⟩ = some (.slice (some ⟨b, off, none⟩) n c) := cell_later hB h0
      cases hs : focS (vs.take (i + 1)) with
      | none => rw [hs] at HF; exact bad1_walk b off n c i w.heap.size _ _ _ _ 6 true hi (by omega) hc rfl W1 h1 (Lib.hid HF)
      | some p =>
        by_cases h0 : foE (focS (vs.take (i + 1))) = 0
        · obtain ⟨L', H', hs', -, hfc⟩ := foE_zero h0
          rw [hfc, h0] at HF
          exact bad1_walk b off n c i w.heap.size _ _ _ _ 0 false hi (by omega) hc rfl W1 h1 (Lib.hid HF)
        · rw [foE_more h0] at HF
          have e6 : foE (focS (vs.take (i + 1))) ≠ 6 := by
            rw [hs]; intro h; by_cases c : p = allM
            · rw [show foE (some p) = 43 from if_pos c] at h; cases h
            · rw [show foE (some p) = 0 from if_neg c] at h; cases h
          exact bad1_walk b off n c i w.heap.size _ _ _ _ _ false hi (by omega) hc (beq_false_of_ne e6) W1 h1 (Lib.hid HF)
    unfold bdI
    by_cases hj : bdN vs = vs.length
    · rw [if_pos rfl, if_pos hj]
      exact bad_1 a n c (bdN vs) 0 w (by simp; omega) (Lib.hid HC) (Lib.hid HS)
    · rw [if_pos rfl, if_neg hj]
      exact bad_2 a n c (bdN vs) 0 w (by simp; omega) (Lib.hid HC) (Lib.hid HS)
  · rw [if_neg hk]
    exact bad_0 a n c 0 _ w (ne0 hk) (Lib.hid HC)
end Go.Proofs.Ytbdcmdofmokoeaa
