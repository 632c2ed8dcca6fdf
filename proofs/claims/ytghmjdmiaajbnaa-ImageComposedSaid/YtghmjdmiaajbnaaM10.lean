/-
  The texts that the laws of this seat share, merged: part 10.
-/
import Derived.BigQuiet
import Derived.Deep.CutRange
import Derived.Deep.DeepCutAuto
import Derived.Deep.Draws
import Derived.Deep.OwnRows
import Derived.Deep.QuietTactic
import Derived.Deep.RegionHeld3
import Derived.Laws.AppendOwn
import Derived.Laws.EntriesVeiled
import Derived.Lib.Hide
import Derived.LoopIn
import Derived.LoopNIn
import Derived.MapKept
import Derived.Maps.AppendAt
import Derived.OneCell
import Derived.Orders
import Derived.OwnWalkIn
import Derived.RangeFuncBound
import Derived.RangeFuncCalls
import Derived.RangeFuncLeaves
import Derived.RangeFuncNested
import Derived.Shelf.Abstract
import Derived.Shelf.AbstractIn
import Derived.Shelf.RegionOpen
import Derived.StillTailTactics
import Derived.TacticsInMore
import Derived.Test.YtghmjdmiaajbnaaProg
import Derived.WalkKit
import Derived.WalkSmall
import Derived.WalkSpells
import Derived.Test.YtghmjdmiaajbnaaM3
import Derived.Test.YtghmjdmiaajbnaaM9
/-
  Layer 2: Compose, by the code.
-/
namespace Go.Proofs.Ytghmjdmiaajbnaa
open Go.RowKit
set_option linter.unusedVariables false
set_option linter.unusedSimpArgs false

set_option maxHeartbeats 1000000 in
theorem compose_no (AW AH BW BH : Int) (a a' : Option Addr) (n c m c' : Nat) (xs ys : List Int) (hA : ¬ okKn AW AH xs) (hn : n ≤ maxLen) (w : World) (hR : Row w a n (iv xs)) :
    Calls Try.prog 22 #[.agg #[.int .i64 AW, .int .i64 AH, .slice a n c], .agg #[.int .i64 BW, .int .i64 BH, .slice a' m c']] w (RetI 0 0 [] 22 w) := by
  have HK := Lib.hid (ikv_no hA a n c hn)
  have HR := Lib.hid hR
  clear hR hn hA
  go_enter Try.func22, Try.ntmps22
  go_wp2_with (go_at_call 60; (with_reducible refine (HK.out _ (HR.out.later (by (repeat' (first | (with_reducible exact Below.refl _ _) | (with_reducible assumption) | (with_reducible refine belowThru ?_ (by assumption)) | (with_reducible refine belowAlloc ?_) | (with_reducible refine Below.setCell ?_ (by first | omega | (simp; done) | (simp; omega)) _) | (with_reducible refine Below.drew ?_) | (with_reducible refine below_drewN ?_ _)))))).mono ?_); rintro e w1 ⟨rfl, hb⟩; (first | ((with_reducible have k0 := Blk.later hb (Blk.alloc (Blk.alloc (Blk.new rfl)))); (with_reducible have k1 := Blk.later hb (Blk.alloc (Blk.new rfl))); (with_reducible have k2 := Blk.later hb (Blk.new rfl)); simp only [World.size_alloc] at k1 k2; obtain ⟨a0, b0⟩ := k0.read; have zl := k0.lt; obtain ⟨a1, b1⟩ := k1.read; have zl := k1.lt; obtain ⟨a2, b2⟩ := k2.read; have zl := k2.lt) | ((try (have zk := k0.lt; (first | ((with_reducible refine Blk.keepG hb k0 (fun h => ?_) ?_); (focus ((repeat' (first | (with_reducible assumption) | ((with_reducible refine Blk.new ?_); first | rfl | (simp; done)) | (with_reducible refine Blk.later (by assumption) ?_) | (with_reducible refine Blk.alloc ?_) | (with_reducible refine Blk.drewN ?_) | (with_reducible refine Blk.drew ?_) | (with_reducible refine Blk.other ?_ (by first | omega | (simp; done) | (simp; omega))))); done)); clear k0; intro k0) | (with_reducible replace k0 := Blk.later hb (Blk.set (Blk.set k0))) | (with_reducible replace k0 := Blk.later hb (Blk.set k0))); clear a0 b0; obtain ⟨a0, b0⟩ := k0.read; have zl := k0.lt)); (try (have zk := k1.lt; (first | ((with_reducible refine Blk.keepG hb k1 (fun h => ?_) ?_); (focus ((repeat' (first | (with_reducible assumption) | ((with_reducible refine Blk.new ?_); first | rfl | (simp; done)) | (with_reducible refine Blk.later (by assumption) ?_) | (with_reducible refine Blk.alloc ?_) | (with_reducible refine Blk.drewN ?_) | (with_reducible refine Blk.drew ?_) | (with_reducible refine Blk.other ?_ (by first | omega | (simp; done) | (simp; omega))))); done)); clear k1; intro k1) | (with_reducible replace k1 := Blk.later hb (Blk.set (Blk.set k1))) | (with_reducible replace k1 := Blk.later hb (Blk.set k1))); clear a1 b1; obtain ⟨a1, b1⟩ := k1.read; have zl := k1.lt)); (try (have zk := k2.lt; (first | ((with_reducible refine Blk.keepG hb k2 (fun h => ?_) ?_); (focus ((repeat' (first | (with_reducible assumption) | ((with_reducible refine Blk.new ?_); first | rfl | (simp; done)) | (with_reducible refine Blk.later (by assumption) ?_) | (with_reducible refine Blk.alloc ?_) | (with_reducible refine Blk.drewN ?_) | (with_reducible refine Blk.drew ?_) | (with_reducible refine Blk.other ?_ (by first | omega | (simp; done) | (simp; omega))))); done)); clear k2; intro k2) | (with_reducible replace k2 := Blk.later hb (Blk.set (Blk.set k2))) | (with_reducible replace k2 := Blk.later hb (Blk.set k2))); clear a2 b2; obtain ⟨a2, b2⟩ := k2.read; have zl := k2.lt)))))
  exact bodyPost_ret (v := .tuple #[.agg #[.int .i64 0, .int .i64 0, .slice none 0 0], .int .i64 22]) (by simp only [results, Try.results22]; go_simp) rfl (RetI.none (by (repeat' (first | (with_reducible exact Below.refl _ _) | (with_reducible assumption) | (with_reducible refine belowThru ?_ (by assumption)) | (with_reducible refine belowAlloc ?_) | (with_reducible refine Below.setCell ?_ (by first | omega | (simp; done) | (simp; omega)) _) | (with_reducible refine Below.drew ?_) | (with_reducible refine below_drewN ?_ _)))))
set_option maxHeartbeats 1000000 in
theorem compose_no2 (AW AH BW BH : Int) (a a' : Option Addr) (n c m c' : Nat) (xs ys : List Int) (hA : okKn AW AH xs) (hB : ¬ okKn BW BH ys) (hn : n ≤ maxLen) (hm : m ≤ maxLen) (w : World) (hR : Row w a n (iv xs)) (hT : Row w a' m (iv ys)) :
    Calls Try.prog 22 #[.agg #[.int .i64 AW, .int .i64 AH, .slice a n c], .agg #[.int .i64 BW, .int .i64 BH, .slice a' m c']] w (RetI 0 0 [] 22 w) := by
  have HK := Lib.hid (ikv_ok hA a n c hn)
  have HL := Lib.hid (ikv_no hB a' m c' hm)
  have HR := Lib.hid hR
  have HT := Lib.hid hT
  clear hR hT hn hm hA hB
  go_enter Try.func22, Try.ntmps22
  go_wp2_with (first
    | (go_at_call 60; (with_reducible refine (HL.out _ (HT.out.later (by (repeat' (first | (with_reducible exact Below.refl _ _) | (with_reducible assumption) | (with_reducible refine belowThru ?_ (by assumption)) | (with_reducible refine belowAlloc ?_) | (with_reducible refine Below.setCell ?_ (by first | omega | (simp; done) | (simp; omega)) _) | (with_reducible refine Below.drew ?_) | (with_reducible refine below_drewN ?_ _)))))).mono ?_); rintro e w1 ⟨rfl, hb⟩; (try (have zk := k0.lt; (first | ((with_reducible refine Blk.keepG hb k0 (fun h => ?_) ?_); (focus ((repeat' (first | (with_reducible assumption) | ((with_reducible refine Blk.new ?_); first | rfl | (simp; done)) | (with_reducible refine Blk.later (by assumption) ?_) | (with_reducible refine Blk.alloc ?_) | (with_reducible refine Blk.drewN ?_) | (with_reducible refine Blk.drew ?_) | (with_reducible refine Blk.other ?_ (by first | omega | (simp; done) | (simp; omega))))); done)); clear k0; intro k0) | (with_reducible replace k0 := Blk.later hb (Blk.set (Blk.set k0))) | (with_reducible replace k0 := Blk.later hb (Blk.set k0))); clear a0 b0; obtain ⟨a0, b0⟩ := k0.read; have zl := k0.lt)); (try (have zk := k1.lt; (first | ((with_reducible refine Blk.keepG hb k1 (fun h => ?_) ?_); (focus ((repeat' (first | (with_reducible assumption) | ((with_reducible refine Blk.new ?_); first | rfl | (simp; done)) | (with_reducible refine Blk.later (by assumption) ?_) | (with_reducible refine Blk.alloc ?_) | (with_reducible refine Blk.drewN ?_) | (with_reducible refine Blk.drew ?_) | (with_reducible refine Blk.other ?_ (by first | omega | (simp; done) | (simp; omega))))); done)); clear k1; intro k1) | (with_reducible replace k1 := Blk.later hb (Blk.set (Blk.set k1))) | (with_reducible replace k1 := Blk.later hb (Blk.set k1))); clear a1 b1; obtain ⟨a1, b1⟩ := k1.read; have zl := k1.lt)); (try (have zk := k2.lt; (first | ((with_reducible refine Blk.keepG hb k2 (fun h => ?_) ?_); (focus ((repeat' (first | (with_reducible assumption) | ((with_reducible refine Blk.new ?_); first | rfl | (simp; done)) | (with_reducible refine Blk.later (by assumption) ?_) | (with_reducible refine Blk.alloc ?_) | (with_reducible refine Blk.drewN ?_) | (with_reducible refine Blk.drew ?_) | (with_reducible refine Blk.other ?_ (by first | omega | (simp; done) | (simp; omega))))); done)); clear k2; intro k2) | (with_reducible replace k2 := Blk.later hb (Blk.set (Blk.set k2))) | (with_reducible replace k2 := Blk.later hb (Blk.set k2))); clear a2 b2; obtain ⟨a2, b2⟩ := k2.read; have zl := k2.lt)))
    | (go_at_call 60; (with_reducible refine (HK.out _ (HR.out.later (by (repeat' (first | (with_reducible exact Below.refl _ _) | (with_reducible assumption) | (with_reducible refine belowThru ?_ (by assumption)) | (with_reducible refine belowAlloc ?_) | (with_reducible refine Below.setCell ?_ (by first | omega | (simp; done) | (simp; omega)) _) | (with_reducible refine Below.drew ?_) | (with_reducible refine below_drewN ?_ _)))))).mono ?_); rintro e w1 ⟨rfl, hb⟩; (first | ((with_reducible have k0 := Blk.later hb (Blk.alloc (Blk.alloc (Blk.new rfl)))); (with_reducible have k1 := Blk.later hb (Blk.alloc (Blk.new rfl))); (with_reducible have k2 := Blk.later hb (Blk.new rfl)); simp only [World.size_alloc] at k1 k2; obtain ⟨a0, b0⟩ := k0.read; have zl := k0.lt; obtain ⟨a1, b1⟩ := k1.read; have zl := k1.lt; obtain ⟨a2, b2⟩ := k2.read; have zl := k2.lt) | ((try (have zk := k0.lt; (first | ((with_reducible refine Blk.keepG hb k0 (fun h => ?_) ?_); (focus ((repeat' (first | (with_reducible assumption) | ((with_reducible refine Blk.new ?_); first | rfl | (simp; done)) | (with_reducible refine Blk.later (by assumption) ?_) | (with_reducible refine Blk.alloc ?_) | (with_reducible refine Blk.drewN ?_) | (with_reducible refine Blk.drew ?_) | (with_reducible refine Blk.other ?_ (by first | omega | (simp; done) | (simp; omega))))); done)); clear k0; intro k0) | (with_reducible replace k0 := Blk.later hb (Blk.set (Blk.set k0))) | (with_reducible replace k0 := Blk.later hb (Blk.set k0))); clear a0 b0; obtain ⟨a0, b0⟩ := k0.read; have zl := k0.lt)); (try (have zk := k1.lt; (first | ((with_reducible refine Blk.keepG hb k1 (fun h => ?_) ?_); (focus ((repeat' (first | (with_reducible assumption) | ((with_reducible refine Blk.new ?_); first | rfl | (simp; done)) | (with_reducible refine Blk.later (by assumption) ?_) | (with_reducible refine Blk.alloc ?_) | (with_reducible refine Blk.drewN ?_) | (with_reducible refine Blk.drew ?_) | (with_reducible refine Blk.other ?_ (by first | omega | (simp; done) | (simp; omega))))); done)); clear k1; intro k1) | (with_reducible replace k1 := Blk.later hb (Blk.set (Blk.set k1))) | (with_reducible replace k1 := Blk.later hb (Blk.set k1))); clear a1 b1; obtain ⟨a1, b1⟩ := k1.read; have zl := k1.lt)); (try (have zk := k2.lt; (first | ((with_reducible refine Blk.keepG hb k2 (fun h => ?_) ?_); (focus ((repeat' (first | (with_reducible assumption) | ((with_reducible refine Blk.new ?_); first | rfl | (simp; done)) | (with_reducible refine Blk.later (by assumption) ?_) | (with_reducible refine Blk.alloc ?_) | (with_reducible refine Blk.drewN ?_) | (with_reducible refine Blk.drew ?_) | (with_reducible refine Blk.other ?_ (by first | omega | (simp; done) | (simp; omega))))); done)); clear k2; intro k2) | (with_reducible replace k2 := Blk.later hb (Blk.set (Blk.set k2))) | (with_reducible replace k2 := Blk.later hb (Blk.set k2))); clear a2 b2; obtain ⟨a2, b2⟩ := k2.read; have zl := k2.lt))))))
  exact bodyPost_ret (v := .tuple #[.agg #[.int .i64 0, .int .i64 0, .slice none 0 0], .int .i64 22]) (by simp only [results, Try.results22]; go_simp) rfl (RetI.none (by (repeat' (first | (with_reducible exact Below.refl _ _) | (with_reducible assumption) | (with_reducible refine belowThru ?_ (by assumption)) | (with_reducible refine belowAlloc ?_) | (with_reducible refine Below.setCell ?_ (by first | omega | (simp; done) | (simp; omega)) _) | (with_reducible refine Below.drew ?_) | (with_reducible refine below_drewN ?_ _)))))
set_option maxRecDepth 100000 in
set_option maxHeartbeats 4000000 in
theorem compose_sz (AW AH BW BH : Int) (a a' : Option Addr) (n c m c' : Nat) (xs ys : List Int) (hA : okKn AW AH xs) (hB : okKn BW BH ys) (h5 : ¬ (AW + BW - 1 ≤ 5 ∧ AH + BH - 1 ≤ 5)) (hn : n ≤ maxLen) (hm : m ≤ maxLen) (w : World) (hR : Row w a n (iv xs)) (hT : Row w a' m (iv ys)) :
    Calls Try.prog 22 #[.agg #[.int .i64 AW, .int .i64 AH, .slice a n c], .agg #[.int .i64 BW, .int .i64 BH, .slice a' m c']] w (RetI 0 0 [] 21 w) := by
  have HK := Lib.hid (ikv_ok hA a n c hn)
  have HL := Lib.hid (ikv_ok hB a' m c' hm)
  have HR := Lib.hid hR
  have HT := Lib.hid hT
  have sA := kn_sides hA.1.1; have sA2 := kn_sides hA.1.2; have sB := kn_sides hB.1.1; have sB2 := kn_sides hB.1.2
  obtain ⟨aw0, aw1⟩ := sA; obtain ⟨ah0, ah1⟩ := sA2; obtain ⟨bw0, bw1⟩ := sB; obtain ⟨bh0, bh1⟩ := sB2
  obtain ⟨KW, hKW⟩ : ∃ KW, AW + BW - 1 = KW := ⟨_, rfl⟩
  obtain ⟨KH, hKH⟩ : ∃ KH, AH + BH - 1 = KH := ⟨_, rfl⟩
  have f1 : IntKind.i64.wrap (AW + BW) = AW + BW := IntWalk.i64_in _ (by omega)
  have f2 : IntKind.i64.wrap (AW + BW - 1) = KW := by rw [hKW]; exact IntWalk.i64_in _ (by omega)
  have f3 : IntKind.i64.wrap (AH + BH) = AH + BH := IntWalk.i64_in _ (by omega)
  have f4 : IntKind.i64.wrap (AH + BH - 1) = KH := by rw [hKH]; exact IntWalk.i64_in _ (by omega)
  rw [hKW, hKH] at h5
  have hmx : Try.prog.follows .mixedOrders = true := by kernel_rfl
  clear hR hT hn hm hA hB hKW hKH
  by_cases g5 : KW ≤ 5
  · have g6 : 5 < KH := by omega
    clear h5
    go_enter Try.func22, Try.ntmps22
    go_upto_region 3 with (first
      | (go_at_call 60; (with_reducible refine (HK.out _ (HR.out.later (by (repeat' (first | (with_reducible exact Below.refl _ _) | (with_reducible assumption) | (with_reducible refine belowThru ?_ (by assumption)) | (with_reducible refine belowAlloc ?_) | (with_reducible refine Below.setCell ?_ (by first | omega | (simp; done) | (simp; omega)) _) | (with_reducible refine Below.drew ?_) | (with_reducible refine below_drewN ?_ _)))))).mono ?_); rintro e w1 ⟨rfl, hb⟩; (first | ((with_reducible have k0 := Blk.later hb (Blk.alloc (Blk.alloc (Blk.new rfl)))); (with_reducible have k1 := Blk.later hb (Blk.alloc (Blk.new rfl))); (with_reducible have k2 := Blk.later hb (Blk.new rfl)); simp only [World.size_alloc] at k1 k2; obtain ⟨a0, b0⟩ := k0.read; have zl := k0.lt; obtain ⟨a1, b1⟩ := k1.read; have zl := k1.lt; obtain ⟨a2, b2⟩ := k2.read; have zl := k2.lt) | ((try (have zk := k0.lt; (first | ((with_reducible refine Blk.keepG hb k0 (fun h => ?_) ?_); (focus ((repeat' (first | (with_reducible assumption) | ((with_reducible refine Blk.new ?_); first | rfl | (simp; done)) | (with_reducible refine Blk.later (by assumption) ?_) | (with_reducible refine Blk.alloc ?_) | (with_reducible refine Blk.drewN ?_) | (with_reducible refine Blk.drew ?_) | (with_reducible refine Blk.other ?_ (by first | omega | (simp; done) | (simp; omega))))); done)); clear k0; intro k0) | (with_reducible replace k0 := Blk.later hb (Blk.set (Blk.set k0))) | (with_reducible replace k0 := Blk.later hb (Blk.set k0))); clear a0 b0; obtain ⟨a0, b0⟩ := k0.read; have zl := k0.lt)); (try (have zk := k1.lt; (first | ((with_reducible refine Blk.keepG hb k1 (fun h => ?_) ?_); (focus ((repeat' (first | (with_reducible assumption) | ((with_reducible refine Blk.new ?_); first | rfl | (simp; done)) | (with_reducible refine Blk.later (by assumption) ?_) | (with_reducible refine Blk.alloc ?_) | (with_reducible refine Blk.drewN ?_) | (with_reducible refine Blk.drew ?_) | (with_reducible refine Blk.other ?_ (by first | omega | (simp; done) | (simp; omega))))); done)); clear k1; intro k1) | (with_reducible replace k1 := Blk.later hb (Blk.set (Blk.set k1))) | (with_reducible replace k1 := Blk.later hb (Blk.set k1))); clear a1 b1; obtain ⟨a1, b1⟩ := k1.read; have zl := k1.lt)); (try (have zk := k2.lt; (first | ((with_reducible refine Blk.keepG hb k2 (fun h => ?_) ?_); (focus ((repeat' (first | (with_reducible assumption) | ((with_reducible refine Blk.new ?_); first | rfl | (simp; done)) | (with_reducible refine Blk.later (by assumption) ?_) | (with_reducible refine Blk.alloc ?_) | (with_reducible refine Blk.drewN ?_) | (with_reducible refine Blk.drew ?_) | (with_reducible refine Blk.other ?_ (by first | omega | (simp; done) | (simp; omega))))); done)); clear k2; intro k2) | (with_reducible replace k2 := Blk.later hb (Blk.set (Blk.set k2))) | (with_reducible replace k2 := Blk.later hb (Blk.set k2))); clear a2 b2; obtain ⟨a2, b2⟩ := k2.read; have zl := k2.lt)))))
      | (go_at_call 60; (with_reducible refine (HL.out _ (HT.out.later (by (repeat' (first | (with_reducible exact Below.refl _ _) | (with_reducible assumption) | (with_reducible refine belowThru ?_ (by assumption)) | (with_reducible refine belowAlloc ?_) | (with_reducible refine Below.setCell ?_ (by first | omega | (simp; done) | (simp; omega)) _) | (with_reducible refine Below.drew ?_) | (with_reducible refine below_drewN ?_ _)))))).mono ?_); rintro e w2 ⟨rfl, hb⟩; (try (have zk := k0.lt; (first | ((with_reducible refine Blk.keepG hb k0 (fun h => ?_) ?_); (focus ((repeat' (first | (with_reducible assumption) | ((with_reducible refine Blk.new ?_); first | rfl | (simp; done)) | (with_reducible refine Blk.later (by assumption) ?_) | (with_reducible refine Blk.alloc ?_) | (with_reducible refine Blk.drewN ?_) | (with_reducible refine Blk.drew ?_) | (with_reducible refine Blk.other ?_ (by first | omega | (simp; done) | (simp; omega))))); done)); clear k0; intro k0) | (with_reducible replace k0 := Blk.later hb (Blk.set (Blk.set k0))) | (with_reducible replace k0 := Blk.later hb (Blk.set k0))); clear a0 b0; obtain ⟨a0, b0⟩ := k0.read; have zl := k0.lt)); (try (have zk := k1.lt; (first | ((with_reducible refine Blk.keepG hb k1 (fun h => ?_) ?_); (focus ((repeat' (first | (with_reducible assumption) | ((with_reducible refine Blk.new ?_); first | rfl | (simp; done)) | (with_reducible refine Blk.later (by assumption) ?_) | (with_reducible refine Blk.alloc ?_) | (with_reducible refine Blk.drewN ?_) | (with_reducible refine Blk.drew ?_) | (with_reducible refine Blk.other ?_ (by first | omega | (simp; done) | (simp; omega))))); done)); clear k1; intro k1) | (with_reducible replace k1 := Blk.later hb (Blk.set (Blk.set k1))) | (with_reducible replace k1 := Blk.later hb (Blk.set k1))); clear a1 b1; obtain ⟨a1, b1⟩ := k1.read; have zl := k1.lt)); (try (have zk := k2.lt; (first | ((with_reducible refine Blk.keepG hb k2 (fun h => ?_) ?_); (focus ((repeat' (first | (with_reducible assumption) | ((with_reducible refine Blk.new ?_); first | rfl | (simp; done)) | (with_reducible refine Blk.later (by assumption) ?_) | (with_reducible refine Blk.alloc ?_) | (with_reducible refine Blk.drewN ?_) | (with_reducible refine Blk.drew ?_) | (with_reducible refine Blk.other ?_ (by first | omega | (simp; done) | (simp; omega))))); done)); clear k2; intro k2) | (with_reducible replace k2 := Blk.later hb (Blk.set (Blk.set k2))) | (with_reducible replace k2 := Blk.later hb (Blk.set k2))); clear a2 b2; obtain ⟨a2, b2⟩ := k2.read; have zl := k2.lt))))
    have hB2 : Below w.heap.size w w2 := by (repeat' (first | (with_reducible exact Below.refl _ _) | (with_reducible assumption) | (with_reducible refine belowThru ?_ (by assumption)) | (with_reducible refine belowAlloc ?_) | (with_reducible refine Below.setCell ?_ (by first | omega | (simp; done) | (simp; omega)) _) | (with_reducible refine Below.drew ?_) | (with_reducible refine below_drewN ?_ _)))
    refine wp_region_held_drew (S := fun w' => (Blk w' w.heap.size #[.int .i64 AW, .int .i64 AH, .slice a n c] 36 ∧ (∀ i : Nat, w'.cell? ⟨w.heap.size, i, none⟩ = (#[.int .i64 AW, .int .i64 AH, .slice a n c] : Array Value)[i]?)) ∧ (Blk w' (w.heap.size + 1) #[.int .i64 BW, .int .i64 BH, .slice a' m c'] 36 ∧ (∀ i : Nat, w'.cell? ⟨(w.heap.size + 1), i, none⟩ = (#[.int .i64 BW, .int .i64 BH, .slice a' m c'] : Array Value)[i]?)) ∧ Below w.heap.size w w') hmx ⟨k0.drew.full, k1.drew.full, hB2.drew⟩ (fun hHeld => ?_)
    refine wpAnyH_take (i := 0) (v := ?_) rfl (by kernel_rfl) (by kernel_rfl) (by kernel_rfl) (fun _ _ _ h => h) (Or.inl ⟨by rfl, ?hT0⟩) (by assumption) ?_
    case hT0 => ((intro w hSw; (try dsimp only at hSw); go_simp); try (with_reducible rfl))
    try simp only [Act.put, List.setIfInBounds_toArray, List.set_cons_zero, List.set_cons_succ]
    refine wpAnyH_take (i := 1) (v := ?_) rfl (by kernel_rfl) (by kernel_rfl) (by kernel_rfl) (fun _ _ _ h => h) (Or.inl ⟨by rfl, ?hT1⟩) (by assumption) ?_
    case hT1 => ((intro w hSw; (try dsimp only at hSw); go_simp); try (with_reducible rfl))
    try simp only [Act.put, List.setIfInBounds_toArray, List.set_cons_zero, List.set_cons_succ]
    refine wpAnyH_take (i := 2) (v := ?_) rfl (by kernel_rfl) (by kernel_rfl) (by kernel_rfl) (fun _ _ _ h => h) (Or.inl ⟨by rfl, ?hT2⟩) (by assumption) ?_
    case hT2 => ((intro w hSw; (try dsimp only at hSw); go_simp); try (with_reducible rfl))
    try simp only [Act.put, List.setIfInBounds_toArray, List.set_cons_zero, List.set_cons_succ]
    refine wpAnyH_take (i := 3) (v := ?_) rfl (by kernel_rfl) (by kernel_rfl) (by kernel_rfl) (fun _ _ _ h => h) (Or.inl ⟨by rfl, ?hT3⟩) (by assumption) ?_
    case hT3 => ((intro w hSw; (try dsimp only at hSw); go_simp); try (with_reducible rfl))
    try simp only [Act.put, List.setIfInBounds_toArray, List.set_cons_zero, List.set_cons_succ]
    refine wpAnyH_take (i := 4) (v := ?_) rfl (by kernel_rfl) (by kernel_rfl) (by kernel_rfl) (fun _ _ _ h => h) (Or.inl ⟨by rfl, ?hT4⟩) (by assumption) ?_
    case hT4 => ((intro w hSw; (try dsimp only at hSw); go_simp); try (with_reducible rfl))
    try simp only [Act.put, List.setIfInBounds_toArray, List.set_cons_zero, List.set_cons_succ]
    refine wpAnyH_take (i := 5) (v := ?_) rfl (by kernel_rfl) (by kernel_rfl) (by kernel_rfl) (fun _ _ _ h => h) (Or.inl ⟨by rfl, ?hT5⟩) (by assumption) ?_
    case hT5 => ((intro w hSw; (try dsimp only at hSw); go_simp); try (with_reducible rfl))
    try simp only [Act.put, List.setIfInBounds_toArray, List.set_cons_zero, List.set_cons_succ]
    refine wpAnyH_take (i := 6) (v := ?_) rfl (by kernel_rfl) (by kernel_rfl) (by kernel_rfl) (fun _ _ _ h => h) (Or.inl ⟨by rfl, ?hT6⟩) (by assumption) ?_
    case hT6 => ((intro w hSw; (try dsimp only at hSw); go_simp); try (with_reducible rfl))
    try simp only [Act.put, List.setIfInBounds_toArray, List.set_cons_zero, List.set_cons_succ]
    refine wpAnyH_take (i := 7) (v := ?_) rfl (by kernel_rfl) (by kernel_rfl) (by kernel_rfl) (fun _ _ _ h => h) (Or.inl ⟨by rfl, ?hT7⟩) (by assumption) ?_
    case hT7 => ((intro w hSw; (try dsimp only at hSw); go_simp); try (with_reducible rfl))
    try simp only [Act.put, List.setIfInBounds_toArray, List.set_cons_zero, List.set_cons_succ]
    refine wpAnyH_take (i := 8) (v := ?_) rfl (by kernel_rfl) (by kernel_rfl) (by kernel_rfl) (fun _ _ _ h => h) (Or.inl ⟨by rfl, ?hT8⟩) (by assumption) ?_
    case hT8 => ((intro w hSw; (try dsimp only at hSw); go_simp); try (with_reducible rfl))
    try simp only [Act.put, List.setIfInBounds_toArray, List.set_cons_zero, List.set_cons_succ]
    refine wpAnyH_take (i := 9) (v := ?_) rfl (by kernel_rfl) (by kernel_rfl) (by kernel_rfl) (fun _ _ _ h => h) (Or.inl ⟨by rfl, ?hT9⟩) (by assumption) ?_
    case hT9 => ((intro w hSw; (try dsimp only at hSw); go_simp); try (with_reducible rfl))
    try simp only [Act.put, List.setIfInBounds_toArray, List.set_cons_zero, List.set_cons_succ]
    refine wpAnyH_take (i := 10) (v := ?_) rfl (by kernel_rfl) (by kernel_rfl) (by kernel_rfl) (fun _ _ _ h => h) (Or.inl ⟨by rfl, ?hT10⟩) (by assumption) ?_
    case hT10 => ((intro w hSw; (try dsimp only at hSw); go_simp); try (with_reducible rfl))
    try simp only [Act.put, List.setIfInBounds_toArray, List.set_cons_zero, List.set_cons_succ]
    refine wpAnyH_take (i := 11) (v := ?_) rfl (by kernel_rfl) (by kernel_rfl) (by kernel_rfl) (fun _ _ _ h => h) (Or.inl ⟨by rfl, ?hT11⟩) (by assumption) ?_
    case hT11 => ((intro w hSw; (try dsimp only at hSw); go_simp); try (with_reducible rfl))
    try simp only [Act.put, List.setIfInBounds_toArray, List.set_cons_zero, List.set_cons_succ]
    refine wpAnyH_take (i := 12) (v := ?_) rfl (by kernel_rfl) (by kernel_rfl) (by kernel_rfl) (fun _ _ _ h => h) (Or.inl ⟨by rfl, ?hT12⟩) (by assumption) ?_
    case hT12 => ((intro w hSw; (try dsimp only at hSw); go_simp); try (with_reducible rfl))
    try simp only [Act.put, List.setIfInBounds_toArray, List.set_cons_zero, List.set_cons_succ]
    refine wpAnyH_take (i := 13) (v := ?_) rfl (by kernel_rfl) (by kernel_rfl) (by kernel_rfl) (fun _ _ _ h => h) (Or.inl ⟨by rfl, ?hT13⟩) (by assumption) ?_
    case hT13 => ((intro w hSw; (try dsimp only at hSw); go_simp); try (with_reducible rfl))
    try simp only [Act.put, List.setIfInBounds_toArray, List.set_cons_zero, List.set_cons_succ]
    refine wpAnyH_done (by kernel_rfl) ?_ _
    go_wp2
    exact bodyPost_ret (v := .tuple #[.agg #[.int .i64 0, .int .i64 0, .slice none 0 0], .int .i64 21]) (by simp only [results, Try.results22]; go_simp) rfl (RetI.none (by (repeat' (first | (with_reducible exact Below.refl _ _) | (with_reducible assumption) | (with_reducible refine belowThru ?_ (by assumption)) | (with_reducible refine belowAlloc ?_) | (with_reducible refine Below.setCell ?_ (by first | omega | (simp; done) | (simp; omega)) _) | (with_reducible refine Below.drew ?_) | (with_reducible refine below_drewN ?_ _)))))
  · have g6 : 5 < KW := by omega
    clear h5 g5
    go_enter Try.func22, Try.ntmps22
    go_upto_region 3 with (first
      | (go_at_call 60; (with_reducible refine (HK.out _ (HR.out.later (by (repeat' (first | (with_reducible exact Below.refl _ _) | (with_reducible assumption) | (with_reducible refine belowThru ?_ (by assumption)) | (with_reducible refine belowAlloc ?_) | (with_reducible refine Below.setCell ?_ (by first | omega | (simp; done) | (simp; omega)) _) | (with_reducible refine Below.drew ?_) | (with_reducible refine below_drewN ?_ _)))))).mono ?_); rintro e w1 ⟨rfl, hb⟩; (first | ((with_reducible have k0 := Blk.later hb (Blk.alloc (Blk.alloc (Blk.new rfl)))); (with_reducible have k1 := Blk.later hb (Blk.alloc (Blk.new rfl))); (with_reducible have k2 := Blk.later hb (Blk.new rfl)); simp only [World.size_alloc] at k1 k2; obtain ⟨a0, b0⟩ := k0.read; have zl := k0.lt; obtain ⟨a1, b1⟩ := k1.read; have zl := k1.lt; obtain ⟨a2, b2⟩ := k2.read; have zl := k2.lt) | ((try (have zk := k0.lt; (first | ((with_reducible refine Blk.keepG hb k0 (fun h => ?_) ?_); (focus ((repeat' (first | (with_reducible assumption) | ((with_reducible refine Blk.new ?_); first | rfl | (simp; done)) | (with_reducible refine Blk.later (by assumption) ?_) | (with_reducible refine Blk.alloc ?_) | (with_reducible refine Blk.drewN ?_) | (with_reducible refine Blk.drew ?_) | (with_reducible refine Blk.other ?_ (by first | omega | (simp; done) | (simp; omega))))); done)); clear k0; intro k0) | (with_reducible replace k0 := Blk.later hb (Blk.set (Blk.set k0))) | (with_reducible replace k0 := Blk.later hb (Blk.set k0))); clear a0 b0; obtain ⟨a0, b0⟩ := k0.read; have zl := k0.lt)); (try (have zk := k1.lt; (first | ((with_reducible refine Blk.keepG hb k1 (fun h => ?_) ?_); (focus ((repeat' (first | (with_reducible assumption) | ((with_reducible refine Blk.new ?_); first | rfl | (simp; done)) | (with_reducible refine Blk.later (by assumption) ?_) | (with_reducible refine Blk.alloc ?_) | (with_reducible refine Blk.drewN ?_) | (with_reducible refine Blk.drew ?_) | (with_reducible refine Blk.other ?_ (by first | omega | (simp; done) | (simp; omega))))); done)); clear k1; intro k1) | (with_reducible replace k1 := Blk.later hb (Blk.set (Blk.set k1))) | (with_reducible replace k1 := Blk.later hb (Blk.set k1))); clear a1 b1; obtain ⟨a1, b1⟩ := k1.read; have zl := k1.lt)); (try (have zk := k2.lt; (first | ((with_reducible refine Blk.keepG hb k2 (fun h => ?_) ?_); (focus ((repeat' (first | (with_reducible assumption) | ((with_reducible refine Blk.new ?_); first | rfl | (simp; done)) | (with_reducible refine Blk.later (by assumption) ?_) | (with_reducible refine Blk.alloc ?_) | (with_reducible refine Blk.drewN ?_) | (with_reducible refine Blk.drew ?_) | (with_reducible refine Blk.other ?_ (by first | omega | (simp; done) | (simp; omega))))); done)); clear k2; intro k2) | (with_reducible replace k2 := Blk.later hb (Blk.set (Blk.set k2))) | (with_reducible replace k2 := Blk.later hb (Blk.set k2))); clear a2 b2; obtain ⟨a2, b2⟩ := k2.read; have zl := k2.lt)))))
      | (go_at_call 60; (with_reducible refine (HL.out _ (HT.out.later (by (repeat' (first | (with_reducible exact Below.refl _ _) | (with_reducible assumption) | (with_reducible refine belowThru ?_ (by assumption)) | (with_reducible refine belowAlloc ?_) | (with_reducible refine Below.setCell ?_ (by first | omega | (simp; done) | (simp; omega)) _) | (with_reducible refine Below.drew ?_) | (with_reducible refine below_drewN ?_ _)))))).mono ?_); rintro e w2 ⟨rfl, hb⟩; (try (have zk := k0.lt; (first | ((with_reducible refine Blk.keepG hb k0 (fun h => ?_) ?_); (focus ((repeat' (first | (with_reducible assumption) | ((with_reducible refine Blk.new ?_); first | rfl | (simp; done)) | (with_reducible refine Blk.later (by assumption) ?_) | (with_reducible refine Blk.alloc ?_) | (with_reducible refine Blk.drewN ?_) | (with_reducible refine Blk.drew ?_) | (with_reducible refine Blk.other ?_ (by first | omega | (simp; done) | (simp; omega))))); done)); clear k0; intro k0) | (with_reducible replace k0 := Blk.later hb (Blk.set (Blk.set k0))) | (with_reducible replace k0 := Blk.later hb (Blk.set k0))); clear a0 b0; obtain ⟨a0, b0⟩ := k0.read; have zl := k0.lt)); (try (have zk := k1.lt; (first | ((with_reducible refine Blk.keepG hb k1 (fun h => ?_) ?_); (focus ((repeat' (first | (with_reducible assumption) | ((with_reducible refine Blk.new ?_); first | rfl | (simp; done)) | (with_reducible refine Blk.later (by assumption) ?_) | (with_reducible refine Blk.alloc ?_) | (with_reducible refine Blk.drewN ?_) | (with_reducible refine Blk.drew ?_) | (with_reducible refine Blk.other ?_ (by first | omega | (simp; done) | (simp; omega))))); done)); clear k1; intro k1) | (with_reducible replace k1 := Blk.later hb (Blk.set (Blk.set k1))) | (with_reducible replace k1 := Blk.later hb (Blk.set k1))); clear a1 b1; obtain ⟨a1, b1⟩ := k1.read; have zl := k1.lt)); (try (have zk := k2.lt; (first | ((with_reducible refine Blk.keepG hb k2 (fun h => ?_) ?_); (focus ((repeat' (first | (with_reducible assumption) | ((with_reducible refine Blk.new ?_); first | rfl | (simp; done)) | (with_reducible refine Blk.later (by assumption) ?_) | (with_reducible refine Blk.alloc ?_) | (with_reducible refine Blk.drewN ?_) | (with_reducible refine Blk.drew ?_) | (with_reducible refine Blk.other ?_ (by first | omega | (simp; done) | (simp; omega))))); done)); clear k2; intro k2) | (with_reducible replace k2 := Blk.later hb (Blk.set (Blk.set k2))) | (with_reducible replace k2 := Blk.later hb (Blk.set k2))); clear a2 b2; obtain ⟨a2, b2⟩ := k2.read; have zl := k2.lt))))
    have hB2 : Below w.heap.size w w2 := by (repeat' (first | (with_reducible exact Below.refl _ _) | (with_reducible assumption) | (with_reducible refine belowThru ?_ (by assumption)) | (with_reducible refine belowAlloc ?_) | (with_reducible refine Below.setCell ?_ (by first | omega | (simp; done) | (simp; omega)) _) | (with_reducible refine Below.drew ?_) | (with_reducible refine below_drewN ?_ _)))
    refine wp_region_held_drew (S := fun w' => (Blk w' w.heap.size #[.int .i64 AW, .int .i64 AH, .slice a n c] 36 ∧ (∀ i : Nat, w'.cell? ⟨w.heap.size, i, none⟩ = (#[.int .i64 AW, .int .i64 AH, .slice a n c] : Array Value)[i]?)) ∧ (Blk w' (w.heap.size + 1) #[.int .i64 BW, .int .i64 BH, .slice a' m c'] 36 ∧ (∀ i : Nat, w'.cell? ⟨(w.heap.size + 1), i, none⟩ = (#[.int .i64 BW, .int .i64 BH, .slice a' m c'] : Array Value)[i]?)) ∧ Below w.heap.size w w') hmx ⟨k0.drew.full, k1.drew.full, hB2.drew⟩ (fun hHeld => ?_)
    refine wpAnyH_take (i := 0) (v := ?_) rfl (by kernel_rfl) (by kernel_rfl) (by kernel_rfl) (fun _ _ _ h => h) (Or.inl ⟨by rfl, ?hT14⟩) (by assumption) ?_
    case hT14 => ((intro w hSw; (try dsimp only at hSw); go_simp); try (with_reducible rfl))
    try simp only [Act.put, List.setIfInBounds_toArray, List.set_cons_zero, List.set_cons_succ]
    refine wpAnyH_take (i := 1) (v := ?_) rfl (by kernel_rfl) (by kernel_rfl) (by kernel_rfl) (fun _ _ _ h => h) (Or.inl ⟨by rfl, ?hT15⟩) (by assumption) ?_
    case hT15 => ((intro w hSw; (try dsimp only at hSw); go_simp); try (with_reducible rfl))
    try simp only [Act.put, List.setIfInBounds_toArray, List.set_cons_zero, List.set_cons_succ]
    refine wpAnyH_take (i := 2) (v := ?_) rfl (by kernel_rfl) (by kernel_rfl) (by kernel_rfl) (fun _ _ _ h => h) (Or.inl ⟨by rfl, ?hT16⟩) (by assumption) ?_
    case hT16 => ((intro w hSw; (try dsimp only at hSw); go_simp); try (with_reducible rfl))
    try simp only [Act.put, List.setIfInBounds_toArray, List.set_cons_zero, List.set_cons_succ]
    refine wpAnyH_take (i := 3) (v := ?_) rfl (by kernel_rfl) (by kernel_rfl) (by kernel_rfl) (fun _ _ _ h => h) (Or.inl ⟨by rfl, ?hT17⟩) (by assumption) ?_
    case hT17 => ((intro w hSw; (try dsimp only at hSw); go_simp); try (with_reducible rfl))
    try simp only [Act.put, List.setIfInBounds_toArray, List.set_cons_zero, List.set_cons_succ]
    refine wpAnyH_take (i := 4) (v := ?_) rfl (by kernel_rfl) (by kernel_rfl) (by kernel_rfl) (fun _ _ _ h => h) (Or.inl ⟨by rfl, ?hT18⟩) (by assumption) ?_
    case hT18 => ((intro w hSw; (try dsimp only at hSw); go_simp); try (with_reducible rfl))
    try simp only [Act.put, List.setIfInBounds_toArray, List.set_cons_zero, List.set_cons_succ]
    refine wpAnyH_take (i := 5) (v := ?_) rfl (by kernel_rfl) (by kernel_rfl) (by kernel_rfl) (fun _ _ _ h => h) (Or.inl ⟨by rfl, ?hT19⟩) (by assumption) ?_
    case hT19 => ((intro w hSw; (try dsimp only at hSw); go_simp); try (with_reducible rfl))
    try simp only [Act.put, List.setIfInBounds_toArray, List.set_cons_zero, List.set_cons_succ]
    refine wpAnyH_take (i := 6) (v := ?_) rfl (by kernel_rfl) (by kernel_rfl) (by kernel_rfl) (fun _ _ _ h => h) (Or.inl ⟨by rfl, ?hT20⟩) (by assumption) ?_
    case hT20 => ((intro w hSw; (try dsimp only at hSw); go_simp); try (with_reducible rfl))
    try simp only [Act.put, List.setIfInBounds_toArray, List.set_cons_zero, List.set_cons_succ]
    refine wpAnyH_take (i := 7) (v := ?_) rfl (by kernel_rfl) (by kernel_rfl) (by kernel_rfl) (fun _ _ _ h => h) (Or.inl ⟨by rfl, ?hT21⟩) (by assumption) ?_
    case hT21 => ((intro w hSw; (try dsimp only at hSw); go_simp); try (with_reducible rfl))
    try simp only [Act.put, List.setIfInBounds_toArray, List.set_cons_zero, List.set_cons_succ]
    refine wpAnyH_take (i := 8) (v := ?_) rfl (by kernel_rfl) (by kernel_rfl) (by kernel_rfl) (fun _ _ _ h => h) (Or.inl ⟨by rfl, ?hT22⟩) (by assumption) ?_
    case hT22 => ((intro w hSw; (try dsimp only at hSw); go_simp); try (with_reducible rfl))
    try simp only [Act.put, List.setIfInBounds_toArray, List.set_cons_zero, List.set_cons_succ]
    refine wpAnyH_take (i := 9) (v := ?_) rfl (by kernel_rfl) (by kernel_rfl) (by kernel_rfl) (fun _ _ _ h => h) (Or.inl ⟨by rfl, ?hT23⟩) (by assumption) ?_
    case hT23 => ((intro w hSw; (try dsimp only at hSw); go_simp); try (with_reducible rfl))
    try simp only [Act.put, List.setIfInBounds_toArray, List.set_cons_zero, List.set_cons_succ]
    refine wpAnyH_take (i := 10) (v := ?_) rfl (by kernel_rfl) (by kernel_rfl) (by kernel_rfl) (fun _ _ _ h => h) (Or.inl ⟨by rfl, ?hT24⟩) (by assumption) ?_
    case hT24 => ((intro w hSw; (try dsimp only at hSw); go_simp); try (with_reducible rfl))
    try simp only [Act.put, List.setIfInBounds_toArray, List.set_cons_zero, List.set_cons_succ]
    refine wpAnyH_take (i := 11) (v := ?_) rfl (by kernel_rfl) (by kernel_rfl) (by kernel_rfl) (fun _ _ _ h => h) (Or.inl ⟨by rfl, ?hT25⟩) (by assumption) ?_
    case hT25 => ((intro w hSw; (try dsimp only at hSw); go_simp); try (with_reducible rfl))
    try simp only [Act.put, List.setIfInBounds_toArray, List.set_cons_zero, List.set_cons_succ]
    refine wpAnyH_take (i := 12) (v := ?_) rfl (by kernel_rfl) (by kernel_rfl) (by kernel_rfl) (fun _ _ _ h => h) (Or.inl ⟨by rfl, ?hT26⟩) (by assumption) ?_
    case hT26 => ((intro w hSw; (try dsimp only at hSw); go_simp); try (with_reducible rfl))
    try simp only [Act.put, List.setIfInBounds_toArray, List.set_cons_zero, List.set_cons_succ]
    refine wpAnyH_take (i := 13) (v := ?_) rfl (by kernel_rfl) (by kernel_rfl) (by kernel_rfl) (fun _ _ _ h => h) (Or.inl ⟨by rfl, ?hT27⟩) (by assumption) ?_
    case hT27 => ((intro w hSw; (try dsimp only at hSw); go_simp); try (with_reducible rfl))
    try simp only [Act.put, List.setIfInBounds_toArray, List.set_cons_zero, List.set_cons_succ]
    refine wpAnyH_done (by kernel_rfl) ?_ _
    go_wp2
    exact bodyPost_ret (v := .tuple #[.agg #[.int .i64 0, .int .i64 0, .slice none 0 0], .int .i64 21]) (by simp only [results, Try.results22]; go_simp) rfl (RetI.none (by (repeat' (first | (with_reducible exact Below.refl _ _) | (with_reducible assumption) | (with_reducible refine belowThru ?_ (by assumption)) | (with_reducible refine belowAlloc ?_) | (with_reducible refine Below.setCell ?_ (by first | omega | (simp; done) | (simp; omega)) _) | (with_reducible refine Below.drew ?_) | (with_reducible refine below_drewN ?_ _)))))
/-- What holds of the region whichever operations have come up. -/
def CompI (ii jj p n m M ga offa gb offb c c' : Nat) (AW AH BW BH KW KH q1 r1 q2 r2 s1 m1 m2 x y u t : Int) (LL : List Int) (w w2 : World) (i66 i67 i68 i69 i70 i71 i72 i73 i74 i75 i76 i77 i78 i79 i80 i81 i82 i83 i84 i85 i86 i87 i88 i89 i90 i91 i92 i93 i94 i95 : Value) (b9 : Act) (L9 : Array Bool) (a9 : Act) (w9 : World) : Prop :=
  ∃ (gg0 gg1 gg2 gg3 gg4 gg5 gg6 gg7 gg8 gg9 gg10 gg11 gg12 gg13 gg14 gg15 gg16 gg17 gg18 gg19 gg20 gg21 gg22 gg23 gg24 gg25 gg26 gg27 gg28 gg29 gg30 : Bool), L9 = #[gg0, gg1, gg2, gg3, gg4, gg5, gg6, gg7, gg8, gg9, gg10, gg11, gg12, gg13, gg14, gg15, gg16, gg17, gg18, gg19, gg20, gg21, gg22, gg23, gg24, gg25, gg26, gg27, gg28, gg29, gg30] ∧ a9 = ((((((((((((((((((((((((((((((b9).put (some 66) (cond gg0 (.pointer (some ⟨(w2.heap.size + 1), 2, none⟩)) (i66))).put (some 67) (cond gg1 (.slice (some ⟨w2.heap.size, 0, none⟩) M M) (i67))).put (some 68) (cond gg2 (.int .i64 (ii : Int)) (i68))).put (some 69) (cond gg3 (.pointer (some ⟨w.heap.size, 0, none⟩)) (i69))).put (some 70) (cond gg4 (.int .i64 AW) (i70))).put (some 71) (cond gg5 (.int .i64 q1) (i71))).put (some 72) (cond gg6 (.int .i64 (jj : Int)) (i72))).put (some 73) (cond gg7 (.pointer (some ⟨(w.heap.size + 1), 0, none⟩)) (i73))).put (some 74) (cond gg8 (.int .i64 BW) (i74))).put (some 75) (cond gg9 (.int .i64 q2) (i75))).put (some 76) (cond gg10 (.int .i64 s1) (i76))).put (some 77) (cond gg11 (.int .i64 KW) (i77))).put (some 78) (cond gg12 (.int .i64 m1) (i78))).put (some 79) (cond gg13 (.int .i64 (ii : Int)) (i79))).put (some 80) (cond gg14 (.pointer (some ⟨w.heap.size, 0, none⟩)) (i80))).put (some 81) (cond gg15 (.int .i64 AW) (i81))).put (some 82) (cond gg16 (.int .i64 r1) (i82))).put (some 83) (cond gg17 (.int .i64 m2) (i83))).put (some 84) (cond gg18 (.int .i64 (jj : Int)) (i84))).put (some 85) (cond gg19 (.pointer (some ⟨(w.heap.size + 1), 0, none⟩)) (i85))).put (some 86) (cond gg20 (.int .i64 BW) (i86))).put (some 87) (cond gg21 (.int .i64 r2) (i87))).put (some 88) (cond gg22 (.int .i64 (p : Int)) (i88))).put (some 89) (cond gg23 (.pointer (some ⟨w2.heap.size, p, none⟩)) (i89))).put (some 90) (cond gg24 (.int .i64 u) (i90))).put (some 91) (cond gg25 (.int .i64 x) (i91))).put (some 92) (cond gg26 (.int .i64 y) (i92))).put (some 93) (cond gg27 (.int .i64 t) (i93))).put (some 94) (cond gg28 (.int .i64 (u + t)) (i94))).put (some 95) (cond gg29 (.pointer (some ⟨w2.heap.size, p, none⟩)) (i95)) ∧ Blk w9 w.heap.size #[.int .i64 AW, .int .i64 AH, .slice (some ⟨ga, offa, none⟩) n c] 36 ∧ Blk w9 (w.heap.size + 1) #[.int .i64 BW, .int .i64 BH, .slice (some ⟨gb, offb, none⟩) m c'] 36 ∧ Blk w9 (w.heap.size + 1 + 1) #[.int .i64 0, .int .i64 0, .slice none 0 0] 36 ∧ Blk w9 (w2.heap.size + 1) #[.int .i64 KW, .int .i64 KH, .slice (some ⟨w2.heap.size, 0, none⟩) M M] 36 ∧ Blk w9 w2.heap.size (cond gg30 ((ints LL).setIfInBounds p (.int .i64 (u + t))) (ints LL)) 3 ∧ Below w.heap.size w w9 ∧ w.heap.size ≤ w9.heap.size ∧ (gg30 = true → gg24 = true)
set_option maxRecDepth 100000 in
set_option maxHeartbeats 8000000 in
theorem compose_ok (AW AH BW BH : Int) (a a' : Option Addr) (n c m c' : Nat) (xs ys : List Int) (hA : okKn AW AH xs) (hB : okKn BW BH ys) (h5 : AW + BW - 1 ≤ 5) (h6 : AH + BH - 1 ≤ 5) (hn : n ≤ maxLen) (hm : m ≤ maxLen) (w : World) (hR : Row w a n (iv xs)) (hT : Row w a' m (iv ys)) :
    Calls Try.prog 22 #[.agg #[.int .i64 AW, .int .i64 AH, .slice a n c], .agg #[.int .i64 BW, .int .i64 BH, .slice a' m c']] w (RetI (AW + BW - 1) (AH + BH - 1) (compK AW AH BW BH xs ys) 0 w) := by
  have HK := Lib.hid (ikv_ok hA a n c hn)
  have HL := Lib.hid (ikv_ok hB a' m c' hm)
  have HR := Lib.hid hR
  have HT := Lib.hid hT
  have hl1 : xs.length = n := by have := hR.1; rwa [iv_length] at this
  have hl2 : ys.length = m := by have := hT.1; rwa [iv_length] at this
  have sA := kn_sides hA.1.1; have sA2 := kn_sides hA.1.2; have sB := kn_sides hB.1.1; have sB2 := kn_sides hB.1.2
  have hnn : AW * AH = (n : Int) := by rw [← hl1]; exact hA.2.1.symm
  have hmm : BW * BH = (m : Int) := by rw [← hl2]; exact hB.2.1.symm
  obtain ⟨KW, hKW⟩ : ∃ KW, AW + BW - 1 = KW := ⟨_, rfl⟩
  obtain ⟨KH, hKH⟩ : ∃ KH, AH + BH - 1 = KH := ⟨_, rfl⟩
  have hZ0 : compK AW AH BW BH xs ys = (cOut AW BW KW xs ys (KW * KH).toNat m n).map (fun z => inR z (-65536) 65536) := by unfold compK; rw [hKW, hKH, hl1, hl2]
  rw [hKW] at h5 ⊢
  rw [hKH] at h6 ⊢
  have hn25 : AW * AH ≤ 5 * 5 := Int.mul_le_mul sA.2 sA2.2 (by omega) (by omega)
  have hm25 : BW * BH ≤ 5 * 5 := Int.mul_le_mul sB.2 sB2.2 (by omega) (by omega)
  have hM25 : KW * KH ≤ 5 * 5 := Int.mul_le_mul h5 h6 (by omega) (by omega)
  have hM0 : 0 ≤ KW * KH := Int.mul_nonneg (by omega) (by omega)
  obtain ⟨M, hM⟩ : ∃ M : Nat, KW * KH = (M : Int) := ⟨(KW * KH).toNat, by omega⟩
  rw [hM, show ((M : Int)).toNat = M from Int.toNat_natCast M] at hZ0
  obtain ⟨Z, hZ⟩ : ∃ Z, compK AW AH BW BH xs ys = Z := ⟨_, rfl⟩
  rw [hZ] at hZ0 ⊢
  have HZ := Lib.hid hZ0
  have HG : Hid (∀ i j : Nat, i < n → j < m → ∃ (p : Nat) (q1 r1 q2 r2 s1 m1 m2 : Int), cIdx AW BW KW i j = p ∧ p < M ∧ ((i : Int) / AW = q1 ∧ (i : Int) % AW = r1 ∧ (j : Int) / BW = q2 ∧ (j : Int) % BW = r2) ∧ (q1 + q2 = s1 ∧ s1 * KW = m1 ∧ m1 + r1 = m2 ∧ m2 + r2 = (p : Int)) ∧ (0 ≤ q1 ∧ q1 ≤ 4) ∧ (0 ≤ r1 ∧ r1 ≤ 4) ∧ (0 ≤ q2 ∧ q2 ≤ 4) ∧ (0 ≤ r2 ∧ r2 ≤ 4) ∧ (0 ≤ s1 ∧ s1 ≤ 8) ∧ (0 ≤ m1 ∧ m1 ≤ 100) ∧ (0 ≤ m2 ∧ m2 ≤ 200)) := fun i j hi hj => by
    obtain ⟨q1, r1, q2, r2, s1, m1, m2, e1, e2, b1, b2, b3, b4, b5, b6, b7, hp⟩ := cIdx_facts sA sA2 sB sB2 hKW hKH h5 h6 i j (by omega) (by omega)
    exact ⟨cIdx AW BW KW i j, q1, r1, q2, r2, s1, m1, m2, rfl, by omega, e1, e2, b1, b2, b3, b4, b5, b6, b7⟩
  have HU : Hid (∀ i j p : Nat, i < n → j ≤ m → p < M → ∃ u : Int, (cIn AW BW KW xs ys i (cOut AW BW KW xs ys M m i) j)[p]? = some u ∧ -4398046511104 ≤ u ∧ u ≤ 4398046511104) := fun i j p hi hj hp => cIn_get hA hB M m i j p (by omega) (by omega) (by omega) hp
  have HF : Hid (∀ i j : Nat, ∀ x y : Int, xs[i]? = some x → ys[j]? = some y → -4294967296 ≤ x * y ∧ x * y ≤ 4294967296) := fun i j x y hx hy => ff_bd (hA.2.2 x (List.mem_of_getElem? hx)) (hB.2.2 y (List.mem_of_getElem? hy))
  have HMC : Hid (∀ p : Nat, p < M → ∃ u : Int, (cOut AW BW KW xs ys M m n)[p]? = some u) := fun p hp => ⟨_, List.getElem?_eq_getElem (by rw [cOut_length]; exact hp)⟩
  have hmk := run_make_ints M (by omega)
  obtain ⟨aw0, aw1⟩ := sA; obtain ⟨ah0, ah1⟩ := sA2; obtain ⟨bw0, bw1⟩ := sB; obtain ⟨bh0, bh1⟩ := sB2
  have kw0 : 1 ≤ KW := by omega
  have kh0 : 1 ≤ KH := by omega
  have f1 : IntKind.i64.wrap (AW + BW) = AW + BW := IntWalk.i64_in _ (by omega)
  have f2 : IntKind.i64.wrap (AW + BW - 1) = KW := by rw [hKW]; exact IntWalk.i64_in _ (by omega)
  have f3 : IntKind.i64.wrap (AH + BH) = AH + BH := IntWalk.i64_in _ (by omega)
  have f4 : IntKind.i64.wrap (AH + BH - 1) = KH := by rw [hKH]; exact IntWalk.i64_in _ (by omega)
  have f5 : IntKind.i64.wrap (KW * KH) = (M : Int) := by rw [hM]; exact IntWalk.i64_in _ (by omega)
  have n25 : n ≤ 25 := by omega
  have m25 : m ≤ 25 := by omega
  have M25 : M ≤ 25 := by omega
  have hmx : Try.prog.follows .mixedOrders = true := by kernel_rfl
  have hne : ¬ AW = 0 := by omega
  have hne2 : ¬ BW = 0 := by omega
  clear hA hB hR hT hn hm hl1 hl2 hnn hmm hn25 hm25 hM25 hM0 hM hZ hZ0 hKW hKH
  go_enter Try.func22, Try.ntmps22
  go_upto_region 3 with (first
    | (go_at_call 60; (with_reducible refine (HK.out _ (HR.out.later (by (repeat' (first | (with_reducible exact Below.refl _ _) | (with_reducible assumption) | (with_reducible refine belowThru ?_ (by assumption)) | (with_reducible refine belowAlloc ?_) | (with_reducible refine Below.setCell ?_ (by first | omega | (simp; done) | (simp; omega)) _) | (with_reducible refine Below.drew ?_) | (with_reducible refine below_drewN ?_ _)))))).mono ?_); rintro e w1 ⟨rfl, hb⟩; (first | ((with_reducible have k0 := Blk.later hb (Blk.alloc (Blk.alloc (Blk.new rfl)))); (with_reducible have k1 := Blk.later hb (Blk.alloc (Blk.new rfl))); (with_reducible have k2 := Blk.later hb (Blk.new rfl)); simp only [World.size_alloc] at k1 k2; obtain ⟨a0, b0⟩ := k0.read; have zl := k0.lt; obtain ⟨a1, b1⟩ := k1.read; have zl := k1.lt; obtain ⟨a2, b2⟩ := k2.read; have zl := k2.lt) | ((try (have zk := k0.lt; (first | ((with_reducible refine Blk.keepG hb k0 (fun h => ?_) ?_); (focus ((repeat' (first | (with_reducible assumption) | ((with_reducible refine Blk.new ?_); first | rfl | (simp; done)) | (with_reducible refine Blk.later (by assumption) ?_) | (with_reducible refine Blk.alloc ?_) | (with_reducible refine Blk.drewN ?_) | (with_reducible refine Blk.drew ?_) | (with_reducible refine Blk.other ?_ (by first | omega | (simp; done) | (simp; omega))))); done)); clear k0; intro k0) | (with_reducible replace k0 := Blk.later hb (Blk.set (Blk.set k0))) | (with_reducible replace k0 := Blk.later hb (Blk.set k0))); clear a0 b0; obtain ⟨a0, b0⟩ := k0.read; have zl := k0.lt)); (try (have zk := k1.lt; (first | ((with_reducible refine Blk.keepG hb k1 (fun h => ?_) ?_); (focus ((repeat' (first | (with_reducible assumption) | ((with_reducible refine Blk.new ?_); first | rfl | (simp; done)) | (with_reducible refine Blk.later (by assumption) ?_) | (with_reducible refine Blk.alloc ?_) | (with_reducible refine Blk.drewN ?_) | (with_reducible refine Blk.drew ?_) | (with_reducible refine Blk.other ?_ (by first | omega | (simp; done) | (simp; omega))))); done)); clear k1; intro k1) | (with_reducible replace k1 := Blk.later hb (Blk.set (Blk.set k1))) | (with_reducible replace k1 := Blk.later hb (Blk.set k1))); clear a1 b1; obtain ⟨a1, b1⟩ := k1.read; have zl := k1.lt)); (try (have zk := k2.lt; (first | ((with_reducible refine Blk.keepG hb k2 (fun h => ?_) ?_); (focus ((repeat' (first | (with_reducible assumption) | ((with_reducible refine Blk.new ?_); first | rfl | (simp; done)) | (with_reducible refine Blk.later (by assumption) ?_) | (with_reducible refine Blk.alloc ?_) | (with_reducible refine Blk.drewN ?_) | (with_reducible refine Blk.drew ?_) | (with_reducible refine Blk.other ?_ (by first | omega | (simp; done) | (simp; omega))))); done)); clear k2; intro k2) | (with_reducible replace k2 := Blk.later hb (Blk.set (Blk.set k2))) | (with_reducible replace k2 := Blk.later hb (Blk.set k2))); clear a2 b2; obtain ⟨a2, b2⟩ := k2.read; have zl := k2.lt)); (try (have zk := k3.lt; (first | ((with_reducible refine Blk.keepG hb k3 (fun h => ?_) ?_); (focus ((repeat' (first | (with_reducible assumption) | ((with_reducible refine Blk.new ?_); first | rfl | (simp; done)) | (with_reducible refine Blk.later (by assumption) ?_) | (with_reducible refine Blk.alloc ?_) | (with_reducible refine Blk.drewN ?_) | (with_reducible refine Blk.drew ?_) | (with_reducible refine Blk.other ?_ (by first | omega | (simp; done) | (simp; omega))))); done)); clear k3; intro k3) | (with_reducible replace k3 := Blk.later hb (Blk.set (Blk.set k3))) | (with_reducible replace k3 := Blk.later hb (Blk.set k3))); clear a3 b3; obtain ⟨a3, b3⟩ := k3.read; have zl := k3.lt)); (try (have zk := k4.lt; (first | ((with_reducible refine Blk.keepG hb k4 (fun h => ?_) ?_); (focus ((repeat' (first | (with_reducible assumption) | ((with_reducible refine Blk.new ?_); first | rfl | (simp; done)) | (with_reducible refine Blk.later (by assumption) ?_) | (with_reducible refine Blk.alloc ?_) | (with_reducible refine Blk.drewN ?_) | (with_reducible refine Blk.drew ?_) | (with_reducible refine Blk.other ?_ (by first | omega | (simp; done) | (simp; omega))))); done)); clear k4; intro k4) | (with_reducible replace k4 := Blk.later hb (Blk.set (Blk.set k4))) | (with_reducible replace k4 := Blk.later hb (Blk.set k4))); clear a4 b4; obtain ⟨a4, b4⟩ := k4.read; have zl := k4.lt)))))
    | (go_at_call 60; (with_reducible refine (HL.out _ (HT.out.later (by (repeat' (first | (with_reducible exact Below.refl _ _) | (with_reducible assumption) | (with_reducible refine belowThru ?_ (by assumption)) | (with_reducible refine belowAlloc ?_) | (with_reducible refine Below.setCell ?_ (by first | omega | (simp; done) | (simp; omega)) _) | (with_reducible refine Below.drew ?_) | (with_reducible refine below_drewN ?_ _)))))).mono ?_); rintro e w2 ⟨rfl, hb⟩; (try (have zk := k0.lt; (first | ((with_reducible refine Blk.keepG hb k0 (fun h => ?_) ?_); (focus ((repeat' (first | (with_reducible assumption) | ((with_reducible refine Blk.new ?_); first | rfl | (simp; done)) | (with_reducible refine Blk.later (by assumption) ?_) | (with_reducible refine Blk.alloc ?_) | (with_reducible refine Blk.drewN ?_) | (with_reducible refine Blk.drew ?_) | (with_reducible refine Blk.other ?_ (by first | omega | (simp; done) | (simp; omega))))); done)); clear k0; intro k0) | (with_reducible replace k0 := Blk.later hb (Blk.set (Blk.set k0))) | (with_reducible replace k0 := Blk.later hb (Blk.set k0))); clear a0 b0; obtain ⟨a0, b0⟩ := k0.read; have zl := k0.lt)); (try (have zk := k1.lt; (first | ((with_reducible refine Blk.keepG hb k1 (fun h => ?_) ?_); (focus ((repeat' (first | (with_reducible assumption) | ((with_reducible refine Blk.new ?_); first | rfl | (simp; done)) | (with_reducible refine Blk.later (by assumption) ?_) | (with_reducible refine Blk.alloc ?_) | (with_reducible refine Blk.drewN ?_) | (with_reducible refine Blk.drew ?_) | (with_reducible refine Blk.other ?_ (by first | omega | (simp; done) | (simp; omega))))); done)); clear k1; intro k1) | (with_reducible replace k1 := Blk.later hb (Blk.set (Blk.set k1))) | (with_reducible replace k1 := Blk.later hb (Blk.set k1))); clear a1 b1; obtain ⟨a1, b1⟩ := k1.read; have zl := k1.lt)); (try (have zk := k2.lt; (first | ((with_reducible refine Blk.keepG hb k2 (fun h => ?_) ?_); (focus ((repeat' (first | (with_reducible assumption) | ((with_reducible refine Blk.new ?_); first | rfl | (simp; done)) | (with_reducible refine Blk.later (by assumption) ?_) | (with_reducible refine Blk.alloc ?_) | (with_reducible refine Blk.drewN ?_) | (with_reducible refine Blk.drew ?_) | (with_reducible refine Blk.other ?_ (by first | omega | (simp; done) | (simp; omega))))); done)); clear k2; intro k2) | (with_reducible replace k2 := Blk.later hb (Blk.set (Blk.set k2))) | (with_reducible replace k2 := Blk.later hb (Blk.set k2))); clear a2 b2; obtain ⟨a2, b2⟩ := k2.read; have zl := k2.lt)); (try (have zk := k3.lt; (first | ((with_reducible refine Blk.keepG hb k3 (fun h => ?_) ?_); (focus ((repeat' (first | (with_reducible assumption) | ((with_reducible refine Blk.new ?_); first | rfl | (simp; done)) | (with_reducible refine Blk.later (by assumption) ?_) | (with_reducible refine Blk.alloc ?_) | (with_reducible refine Blk.drewN ?_) | (with_reducible refine Blk.drew ?_) | (with_reducible refine Blk.other ?_ (by first | omega | (simp; done) | (simp; omega))))); done)); clear k3; intro k3) | (with_reducible replace k3 := Blk.later hb (Blk.set (Blk.set k3))) | (with_reducible replace k3 := Blk.later hb (Blk.set k3))); clear a3 b3; obtain ⟨a3, b3⟩ := k3.read; have zl := k3.lt)); (try (have zk := k4.lt; (first | ((with_reducible refine Blk.keepG hb k4 (fun h => ?_) ?_); (focus ((repeat' (first | (with_reducible assumption) | ((with_reducible refine Blk.new ?_); first | rfl | (simp; done)) | (with_reducible refine Blk.later (by assumption) ?_) | (with_reducible refine Blk.alloc ?_) | (with_reducible refine Blk.drewN ?_) | (with_reducible refine Blk.drew ?_) | (with_reducible refine Blk.other ?_ (by first | omega | (simp; done) | (simp; omega))))); done)); clear k4; intro k4) | (with_reducible replace k4 := Blk.later hb (Blk.set (Blk.set k4))) | (with_reducible replace k4 := Blk.later hb (Blk.set k4))); clear a4 b4; obtain ⟨a4, b4⟩ := k4.read; have zl := k4.lt))))
  have z2 := k2.lt
  have hB2 : Below w.heap.size w w2 := by (repeat' (first | (with_reducible exact Below.refl _ _) | (with_reducible assumption) | (with_reducible refine belowThru ?_ (by assumption)) | (with_reducible refine belowAlloc ?_) | (with_reducible refine Below.setCell ?_ (by first | omega | (simp; done) | (simp; omega)) _) | (with_reducible refine Below.drew ?_) | (with_reducible refine below_drewN ?_ _)))
  refine wp_region_held_drew (S := fun w' => (Blk w' w.heap.size #[.int .i64 AW, .int .i64 AH, .slice a n c] 36 ∧ (∀ i : Nat, w'.cell? ⟨w.heap.size, i, none⟩ = (#[.int .i64 AW, .int .i64 AH, .slice a n c] : Array Value)[i]?)) ∧ (Blk w' (w.heap.size + 1) #[.int .i64 BW, .int .i64 BH, .slice a' m c'] 36 ∧ (∀ i : Nat, w'.cell? ⟨(w.heap.size + 1), i, none⟩ = (#[.int .i64 BW, .int .i64 BH, .slice a' m c'] : Array Value)[i]?)) ∧ Below w.heap.size w w') hmx ⟨k0.drew.full, k1.drew.full, hB2.drew⟩ (fun hHeld => ?_)
  refine wpAnyH_take (i := 0) (v := ?_) rfl (by kernel_rfl) (by kernel_rfl) (by kernel_rfl) (fun _ _ _ h => h) (Or.inl ⟨by rfl, ?hT28⟩) (by assumption) ?_
  case hT28 => ((intro w hSw; (try dsimp only at hSw); go_simp); try (with_reducible rfl))
  try simp only [Act.put, List.setIfInBounds_toArray, List.set_cons_zero, List.set_cons_succ]
  refine wpAnyH_take (i := 1) (v := ?_) rfl (by kernel_rfl) (by kernel_rfl) (by kernel_rfl) (fun _ _ _ h => h) (Or.inl ⟨by rfl, ?hT29⟩) (by assumption) ?_
  case hT29 => ((intro w hSw; (try dsimp only at hSw); go_simp); try (with_reducible rfl))
  try simp only [Act.put, List.setIfInBounds_toArray, List.set_cons_zero, List.set_cons_succ]
  refine wpAnyH_take (i := 2) (v := ?_) rfl (by kernel_rfl) (by kernel_rfl) (by kernel_rfl) (fun _ _ _ h => h) (Or.inl ⟨by rfl, ?hT30⟩) (by assumption) ?_
  case hT30 => ((intro w hSw; (try dsimp only at hSw); go_simp); try (with_reducible rfl))
  try simp only [Act.put, List.setIfInBounds_toArray, List.set_cons_zero, List.set_cons_succ]
  refine wpAnyH_take (i := 3) (v := ?_) rfl (by kernel_rfl) (by kernel_rfl) (by kernel_rfl) (fun _ _ _ h => h) (Or.inl ⟨by rfl, ?hT31⟩) (by assumption) ?_
  case hT31 => ((intro w hSw; (try dsimp only at hSw); go_simp); try (with_reducible rfl))
  try simp only [Act.put, List.setIfInBounds_toArray, List.set_cons_zero, List.set_cons_succ]
  refine wpAnyH_take (i := 4) (v := ?_) rfl (by kernel_rfl) (by kernel_rfl) (by kernel_rfl) (fun _ _ _ h => h) (Or.inl ⟨by rfl, ?hT32⟩) (by assumption) ?_
  case hT32 => ((intro w hSw; (try dsimp only at hSw); go_simp); try (with_reducible rfl))
  try simp only [Act.put, List.setIfInBounds_toArray, List.set_cons_zero, List.set_cons_succ]
  refine wpAnyH_take (i := 5) (v := ?_) rfl (by kernel_rfl) (by kernel_rfl) (by kernel_rfl) (fun _ _ _ h => h) (Or.inl ⟨by rfl, ?hT33⟩) (by assumption) ?_
  case hT33 => ((intro w hSw; (try dsimp only at hSw); go_simp); try (with_reducible rfl))
  try simp only [Act.put, List.setIfInBounds_toArray, List.set_cons_zero, List.set_cons_succ]
  refine wpAnyH_take (i := 6) (v := ?_) rfl (by kernel_rfl) (by kernel_rfl) (by kernel_rfl) (fun _ _ _ h => h) (Or.inl ⟨by rfl, ?hT34⟩) (by assumption) ?_
  case hT34 => ((intro w hSw; (try dsimp only at hSw); go_simp); try (with_reducible rfl))
  try simp only [Act.put, List.setIfInBounds_toArray, List.set_cons_zero, List.set_cons_succ]
  refine wpAnyH_take (i := 7) (v := ?_) rfl (by kernel_rfl) (by kernel_rfl) (by kernel_rfl) (fun _ _ _ h => h) (Or.inl ⟨by rfl, ?hT35⟩) (by assumption) ?_
  case hT35 => ((intro w hSw; (try dsimp only at hSw); go_simp); try (with_reducible rfl))
  try simp only [Act.put, List.setIfInBounds_toArray, List.set_cons_zero, List.set_cons_succ]
  refine wpAnyH_take (i := 8) (v := ?_) rfl (by kernel_rfl) (by kernel_rfl) (by kernel_rfl) (fun _ _ _ h => h) (Or.inl ⟨by rfl, ?hT36⟩) (by assumption) ?_
  case hT36 => ((intro w hSw; (try dsimp only at hSw); go_simp); try (with_reducible rfl))
  try simp only [Act.put, List.setIfInBounds_toArray, List.set_cons_zero, List.set_cons_succ]
  refine wpAnyH_take (i := 9) (v := ?_) rfl (by kernel_rfl) (by kernel_rfl) (by kernel_rfl) (fun _ _ _ h => h) (Or.inl ⟨by rfl, ?hT37⟩) (by assumption) ?_
  case hT37 => ((intro w hSw; (try dsimp only at hSw); go_simp); try (with_reducible rfl))
  try simp only [Act.put, List.setIfInBounds_toArray, List.set_cons_zero, List.set_cons_succ]
  refine wpAnyH_take (i := 10) (v := ?_) rfl (by kernel_rfl) (by kernel_rfl) (by kernel_rfl) (fun _ _ _ h => h) (Or.inl ⟨by rfl, ?hT38⟩) (by assumption) ?_
  case hT38 => ((intro w hSw; (try dsimp only at hSw); go_simp); try (with_reducible rfl))
  try simp only [Act.put, List.setIfInBounds_toArray, List.set_cons_zero, List.set_cons_succ]
  refine wpAnyH_take (i := 11) (v := ?_) rfl (by kernel_rfl) (by kernel_rfl) (by kernel_rfl) (fun _ _ _ h => h) (Or.inl ⟨by rfl, ?hT39⟩) (by assumption) ?_
  case hT39 => ((intro w hSw; (try dsimp only at hSw); go_simp); try (with_reducible rfl))
  try simp only [Act.put, List.setIfInBounds_toArray, List.set_cons_zero, List.set_cons_succ]
  refine wpAnyH_take (i := 12) (v := ?_) rfl (by kernel_rfl) (by kernel_rfl) (by kernel_rfl) (fun _ _ _ h => h) (Or.inl ⟨by rfl, ?hT40⟩) (by assumption) ?_
  case hT40 => ((intro w hSw; (try dsimp only at hSw); go_simp); try (with_reducible rfl))
  try simp only [Act.put, List.setIfInBounds_toArray, List.set_cons_zero, List.set_cons_succ]
  refine wpAnyH_take (i := 13) (v := ?_) rfl (by kernel_rfl) (by kernel_rfl) (by kernel_rfl) (fun _ _ _ h => h) (Or.inl ⟨by rfl, ?hT41⟩) (by assumption) ?_
  case hT41 => ((intro w hSw; (try dsimp only at hSw); go_simp); try (with_reducible rfl))
  try simp only [Act.put, List.setIfInBounds_toArray, List.set_cons_zero, List.set_cons_succ]
  refine wpAnyH_done (by kernel_rfl) ?_ _
  go_wp2
  go_loopw [9, 10, 11, 12, 53] (fun _ _ _ _ s7 wr => ∃ ii : Nat, ii ≤ n ∧ s7 = .int .i64 ii ∧ Blk wr w.heap.size #[.int .i64 AW, .int .i64 AH, .slice a n c] 36 ∧ Blk wr (w.heap.size + 1) #[.int .i64 BW, .int .i64 BH, .slice a' m c'] 36 ∧ Blk wr (w.heap.size + 1 + 1) #[.int .i64 0, .int .i64 0, .slice none 0 0] 36 ∧ Blk wr (w2.heap.size + 1) #[.int .i64 KW, .int .i64 KH, .slice (some ⟨w2.heap.size, 0, none⟩) M M] 36 ∧ Blk wr (w2.heap.size) (ints (cOut AW BW KW xs ys M m ii)) 3 ∧ Below w.heap.size w wr) (fun _ _ _ _ s7 _ => n - (intOf s7).toNat)
  case atStart => exact ⟨0, Nat.zero_le _, rfl, by (repeat' (first | (with_reducible assumption) | ((with_reducible refine Blk.new ?_); first | rfl | (simp; done)) | (with_reducible refine Blk.later (by assumption) ?_) | (with_reducible refine Blk.alloc ?_) | (with_reducible refine Blk.drewN ?_) | (with_reducible refine Blk.drew ?_) | (with_reducible refine Blk.other ?_ (by first | omega | (simp; done) | (simp; omega))))), by (repeat' (first | (with_reducible assumption) | ((with_reducible refine Blk.new ?_); first | rfl | (simp; done)) | (with_reducible refine Blk.later (by assumption) ?_) | (with_reducible refine Blk.alloc ?_) | (with_reducible refine Blk.drewN ?_) | (with_reducible refine Blk.drew ?_) | (with_reducible refine Blk.other ?_ (by first | omega | (simp; done) | (simp; omega))))), by (repeat' (first | (with_reducible assumption) | ((with_reducible refine Blk.new ?_); first | rfl | (simp; done)) | (with_reducible refine Blk.later (by assumption) ?_) | (with_reducible refine Blk.alloc ?_) | (with_reducible refine Blk.drewN ?_) | (with_reducible refine Blk.drew ?_) | (with_reducible refine Blk.other ?_ (by first | omega | (simp; done) | (simp; omega))))), by (repeat' (first | (with_reducible assumption) | ((with_reducible refine Blk.new ?_); first | rfl | (simp; done)) | (with_reducible refine Blk.later (by assumption) ?_) | (with_reducible refine Blk.alloc ?_) | (with_reducible refine Blk.drewN ?_) | (with_reducible refine Blk.drew ?_) | (with_reducible refine Blk.other ?_ (by first | omega | (simp; done) | (simp; omega))))), by (show Blk _ _ (ints (List.replicate M 0)) _; (repeat' (first | (with_reducible assumption) | ((with_reducible refine Blk.new ?_); first | rfl | (simp; done)) | (with_reducible refine Blk.later (by assumption) ?_) | (with_reducible refine Blk.alloc ?_) | (with_reducible refine Blk.drewN ?_) | (with_reducible refine Blk.drew ?_) | (with_reducible refine Blk.other ?_ (by first | omega | (simp; done) | (simp; omega)))))), by (repeat' (first | (with_reducible exact Below.refl _ _) | (with_reducible assumption) | (with_reducible refine belowThru ?_ (by assumption)) | (with_reducible refine belowAlloc ?_) | (with_reducible refine Below.setCell ?_ (by first | omega | (simp; done) | (simp; omega)) _) | (with_reducible refine Below.drew ?_) | (with_reducible refine below_drewN ?_ _)))⟩
  case round =>
    clear k0 k1 k2 a0 b0 a1 b1 a2 b2
    obtain ⟨ii, hi, rfl, k0, k1, k2, k3, k4, hB⟩ := hrel
    obtain ⟨a0, b0⟩ := k0.read; obtain ⟨a1, b1⟩ := k1.read; obtain ⟨a2, b2⟩ := k2.read; obtain ⟨a3, b3⟩ := k3.read; obtain ⟨a4, b4⟩ := k4.read
    have y0 := k0.lt; have y1 := k1.lt; have y2 := k2.lt; have y3 := k3.lt; have y4 := k4.lt
    by_cases hlt : ii < n
    · have i9 : (ii : Int) < (n : Int) := by omega
      obtain ⟨ga, offa, x, rfl, hga, hx, hca⟩ := HR.out.int hlt
      have hca' := cell_later hB hca
      go_wp2
      go_loopw [11, 12, 61] (fun _ _ s8 wr => ∃ jj : Nat, jj ≤ m ∧ s8 = .int .i64 jj ∧ Blk wr w.heap.size #[.int .i64 AW, .int .i64 AH, .slice (some ⟨ga, offa, none⟩) n c] 36 ∧ Blk wr (w.heap.size + 1) #[.int .i64 BW, .int .i64 BH, .slice a' m c'] 36 ∧ Blk wr (w.heap.size + 1 + 1) #[.int .i64 0, .int .i64 0, .slice none 0 0] 36 ∧ Blk wr (w2.heap.size + 1) #[.int .i64 KW, .int .i64 KH, .slice (some ⟨w2.heap.size, 0, none⟩) M M] 36 ∧ Blk wr (w2.heap.size) (ints (cIn AW BW KW xs ys ii (cOut AW BW KW xs ys M m ii) jj)) 3 ∧ Below w.heap.size w wr) (fun _ _ s8 _ => m - (intOf s8).toNat)
      case atStart => exact ⟨0, Nat.zero_le _, rfl, k0, k1, k2, k3, k4, hB⟩
      case round =>
        clear k0 k1 k2 k3 k4 a0 b0 a1 b1 a2 b2 a3 b3 a4 b4 hB
        obtain ⟨jj, hj, rfl, k0, k1, k2, k3, k4, hB⟩ := hrel
        obtain ⟨a0, b0⟩ := k0.read; obtain ⟨a1, b1⟩ := k1.read; obtain ⟨a2, b2⟩ := k2.read; obtain ⟨a3, b3⟩ := k3.read; obtain ⟨a4, b4⟩ := k4.read
        have y3 := k3.lt; have y4 := k4.lt
        by_cases hlj : jj < m
        · have j9 : (jj : Int) < (m : Int) := by omega
          obtain ⟨p, q1, r1, q2, r2, s1, m1, m2, hp, hpM, ⟨e1, e2, e3, e4⟩, ⟨e5, e6, e7, e8⟩, ⟨b11, b12⟩, ⟨b21, b22⟩, ⟨b31, b32⟩, ⟨b41, b42⟩, ⟨b51, b52⟩, ⟨b61, b62⟩, b71, b72⟩ := HG.out ii jj hlt hlj
          obtain ⟨u, hu, u0, u1⟩ := HU.out ii jj p hlt (Nat.le_of_lt hlj) hpM
          have i0 : (0 : Int) ≤ (ii : Int) := by omega
          have j0 : (0 : Int) ≤ (jj : Int) := by omega
          have t1 : (ii : Int).tmod AW = r1 := by rw [Int.tmod_eq_emod_of_nonneg i0]; exact e2
          have t2 : (jj : Int).tmod BW = r2 := by rw [Int.tmod_eq_emod_of_nonneg j0]; exact e4
          have t3 : (ii : Int).tdiv AW = q1 := by rw [Int.tdiv_eq_ediv_of_nonneg i0]; exact e1
          have t4 : (jj : Int).tdiv BW = q2 := by rw [Int.tdiv_eq_ediv_of_nonneg j0]; exact e3
          have d1 : IntKind.i64.wrap q1 = q1 := IntWalk.i64_in _ (by omega)
          have d3 : IntKind.i64.wrap q2 = q2 := IntWalk.i64_in _ (by omega)
          have d5 : IntKind.i64.wrap (q1 + q2) = s1 := by rw [e5]; exact IntWalk.i64_in _ (by omega)
          have d6 : IntKind.i64.wrap (s1 * KW) = m1 := by rw [e6]; exact IntWalk.i64_in _ (by omega)
          have d7 : IntKind.i64.wrap (m1 + r1) = m2 := by rw [e7]; exact IntWalk.i64_in _ (by omega)
          have d8 : IntKind.i64.wrap (m2 + r2) = (p : Int) := by rw [e8]; exact IntWalk.i64_in _ (by omega)
          have p0 : (0 : Int) ≤ (p : Int) := by omega
          have p1 : (p : Int) < (M : Int) := by omega
          have HP := Lib.hid hp
          clear hp e1 e2 e3 e4 e5 e6 e7 e8
          obtain ⟨gb, offb, y, rfl, hgb, hy, hcb⟩ := HT.out.int hlj
          have hf := HF.out ii jj x y hx hy
          obtain ⟨t, ht⟩ : ∃ t, x * y = t := ⟨_, rfl⟩
          rw [ht] at hf
          have d9 : IntKind.i64.wrap (x * y) = t := by rw [ht]; exact IntWalk.i64_in _ (by omega)
          have d10 : IntKind.i64.wrap (u + t) = u + t := IntWalk.i64_in _ (by omega)
          have HS : Hid ((cIn AW BW KW xs ys ii (cOut AW BW KW xs ys M m ii) jj).set p (u + t) = cIn AW BW KW xs ys ii (cOut AW BW KW xs ys M m ii) (jj + 1)) := by
            show _ = (cIn AW BW KW xs ys ii (cOut AW BW KW xs ys M m ii) jj).set (cIdx AW BW KW ii jj) _
            rw [HP.out, hu, hx, hy, ← ht]; rfl
          have hu' : (ints (cIn AW BW KW xs ys ii (cOut AW BW KW xs ys M m ii) jj))[p]? = some (.int .i64 u) := by rw [ints_get, hu]; rfl
          obtain ⟨LL, hL⟩ : ∃ LL, cIn AW BW KW xs ys ii (cOut AW BW KW xs ys M m ii) jj = LL := ⟨_, rfl⟩
          rw [hL] at k4 hu' HS
          clear a4 b4 hL
          obtain ⟨a4, b4⟩ := k4.read
          clear hu hf ht HF HU HG
          have hcb' := cell_later hB hcb
          clear hx hy hcb
          go_wp2_with fail
          refine wp_region_inv (CompI ii jj p n m M ga offa gb offb c c' AW AH BW BH KW KH q1 r1 q2 r2 s1 m1 m2 x y u t LL w w2 ?i66 ?i67 ?i68 ?i69 ?i70 ?i71 ?i72 ?i73 ?i74 ?i75 ?i76 ?i77 ?i78 ?i79 ?i80 ?i81 ?i82 ?i83 ?i84 ?i85 ?i86 ?i87 ?i88 ?i89 ?i90 ?i91 ?i92 ?i93 ?i94 ?i95) (by kernel_rfl) (by kernel_rfl) ?hsz ?hst ?hstep ?hfin
          case hst =>
            unfold CompI
            refine ⟨false, false, false, false, false, false, false, false, false, false, false, false, false, false, false, false, false, false, false, false, false, false, false, false, false, false, false, false, false, false, false, rfl, ?_, ?_, ?_, ?_, ?_, ?_, ?_, ?_, ?_⟩
            · first | (simp only [Act.put, List.setIfInBounds_toArray, List.set_cons_zero, List.set_cons_succ, cond_false]; done) | (simp only [Act.put, List.setIfInBounds_toArray, List.set_cons_zero, List.set_cons_succ, cond_false]; rfl)
            all_goals (first | (intro h; cases h; done) | ((repeat' (first | (with_reducible assumption) | ((with_reducible refine Blk.new ?_); first | rfl | (simp; done)) | (with_reducible refine Blk.later (by assumption) ?_) | (with_reducible refine Blk.alloc ?_) | (with_reducible refine Blk.drewN ?_) | (with_reducible refine Blk.drew ?_) | (with_reducible refine Blk.other ?_ (by first | omega | (simp; done) | (simp; omega))))); done) | ((repeat' (first | (with_reducible exact Below.refl _ _) | (with_reducible assumption) | (with_reducible refine belowThru ?_ (by assumption)) | (with_reducible refine belowAlloc ?_) | (with_reducible refine Below.setCell ?_ (by first | omega | (simp; done) | (simp; omega)) _) | (with_reducible refine Below.drew ?_) | (with_reducible refine below_drewN ?_ _))); done) | (simp only [cond_false]; (repeat' (first | (with_reducible assumption) | ((with_reducible refine Blk.new ?_); first | rfl | (simp; done)) | (with_reducible refine Blk.later (by assumption) ?_) | (with_reducible refine Blk.alloc ?_) | (with_reducible refine Blk.drewN ?_) | (with_reducible refine Blk.drew ?_) | (with_reducible refine Blk.other ?_ (by first | omega | (simp; done) | (simp; omega))))); done) | (simp only [World.size_drew]; omega) | (simp only [World.size_drew] at *; omega) | (simp; done) | (simp; omega))
          case hsz =>
            intro L a w9 h
            obtain ⟨gg0, gg1, gg2, gg3, gg4, gg5, gg6, gg7, gg8, gg9, gg10, gg11, gg12, gg13, gg14, gg15, gg16, gg17, gg18, gg19, gg20, gg21, gg22, gg23, gg24, gg25, gg26, gg27, gg28, gg29, gg30, rfl, -⟩ := h; rfl
          case hstep =>
            intro L a w9 hI i hi
            obtain ⟨gg0, gg1, gg2, gg3, gg4, gg5, gg6, gg7, gg8, gg9, gg10, gg11, gg12, gg13, gg14, gg15, gg16, gg17, gg18, gg19, gg20, gg21, gg22, gg23, gg24, gg25, gg26, gg27, gg28, gg29, gg30, rfl, rfl, fb0, fb1, fb2, fb3, fb4, fB, fL, h24_30⟩ := hI
            obtain ⟨hi1, hi2, o, ho, hall⟩ := inv_mem hi
            clear hi
            rcases i with _ | _ | _ | _ | _ | _ | _ | _ | _ | _ | _ | _ | _ | _ | _ | _ | _ | _ | _ | _ | _ | _ | _ | _ | _ | _ | _ | _ | _ | _ | _ | i
            · have ge0 : gg0 = false := hi2
              clear hall hi1 hi2
              subst ge0
              have ho2 := ho
              simp only [List.getElem?_toArray, List.getElem?_cons_zero, List.getElem?_cons_succ] at ho2
              have ho3 := Option.some.inj ho2; clear ho2; subst ho3
              obtain ⟨ba0, bb0⟩ := fb0.read; have bl0 := fb0.lt
              obtain ⟨ba1, bb1⟩ := fb1.read; have bl1 := fb1.lt
              obtain ⟨ba2, bb2⟩ := fb2.read; have bl2 := fb2.lt
              obtain ⟨ba3, bb3⟩ := fb3.read; have bl3 := fb3.lt
              simp only [Act.put, List.setIfInBounds_toArray, List.set_cons_zero, List.set_cons_succ]
              simp only [cond_true, cond_false]
              refine inv_op ho (by kernel_rfl) (fun K hK => ?_)
              clear ho
              go_simp
              refine hK.out _ _ ?_
              unfold CompI
              refine ⟨true, gg1, gg2, gg3, gg4, gg5, gg6, gg7, gg8, gg9, gg10, gg11, gg12, gg13, gg14, gg15, gg16, gg17, gg18, gg19, gg20, gg21, gg22, gg23, gg24, gg25, gg26, gg27, gg28, gg29, gg30, rfl, by simp only [Act.put, List.setIfInBounds_toArray, List.set_cons_zero, List.set_cons_succ, cond_true, cond_false, Bool.cond_self], ?_, ?_, ?_, ?_, ?_, ?_, ?_, ?_⟩
              · exact fb0
              · exact fb1
              · exact fb2
              · exact fb3
              · exact fb4
              · exact fB
              · exact fL
              · exact h24_30
            · have ge1 : gg1 = false := hi2
              have ge0 : gg0 = true := inv_dep ho hall 0 (by kernel_rfl)
              clear hall hi1 hi2
              subst ge1 ge0
              have ho2 := ho
              simp only [List.getElem?_toArray, List.getElem?_cons_zero, List.getElem?_cons_succ] at ho2
              have ho3 := Option.some.inj ho2; clear ho2; subst ho3
              obtain ⟨ba0, bb0⟩ := fb0.read; have bl0 := fb0.lt
              obtain ⟨ba1, bb1⟩ := fb1.read; have bl1 := fb1.lt
              obtain ⟨ba2, bb2⟩ := fb2.read; have bl2 := fb2.lt
              obtain ⟨ba3, bb3⟩ := fb3.read; have bl3 := fb3.lt
              simp only [Act.put, List.setIfInBounds_toArray, List.set_cons_zero, List.set_cons_succ]
              simp only [cond_true, cond_false]
              refine inv_op ho (by kernel_rfl) (fun K hK => ?_)
              clear ho
              go_simp
              refine hK.out _ _ ?_
              unfold CompI
              refine ⟨true, true, gg2, gg3, gg4, gg5, gg6, gg7, gg8, gg9, gg10, gg11, gg12, gg13, gg14, gg15, gg16, gg17, gg18, gg19, gg20, gg21, gg22, gg23, gg24, gg25, gg26, gg27, gg28, gg29, gg30, rfl, by simp only [Act.put, List.setIfInBounds_toArray, List.set_cons_zero, List.set_cons_succ, cond_true, cond_false, Bool.cond_self], ?_, ?_, ?_, ?_, ?_, ?_, ?_, ?_⟩
              · exact fb0
              · exact fb1
              · exact fb2
              · exact fb3
              · exact fb4
              · exact fB
              · exact fL
              · exact h24_30
            · have ge2 : gg2 = false := hi2
              clear hall hi1 hi2
              subst ge2
              have ho2 := ho
              simp only [List.getElem?_toArray, List.getElem?_cons_zero, List.getElem?_cons_succ] at ho2
              have ho3 := Option.some.inj ho2; clear ho2; subst ho3
              obtain ⟨ba0, bb0⟩ := fb0.read; have bl0 := fb0.lt
              obtain ⟨ba1, bb1⟩ := fb1.read; have bl1 := fb1.lt
              obtain ⟨ba2, bb2⟩ := fb2.read; have bl2 := fb2.lt
              obtain ⟨ba3, bb3⟩ := fb3.read; have bl3 := fb3.lt
              simp only [Act.put, List.setIfInBounds_toArray, List.set_cons_zero, List.set_cons_succ]
              simp only [cond_true, cond_false]
              refine inv_op ho (by kernel_rfl) (fun K hK => ?_)
              clear ho
              go_simp
              refine hK.out _ _ ?_
              unfold CompI
              refine ⟨gg0, gg1, true, gg3, gg4, gg5, gg6, gg7, gg8, gg9, gg10, gg11, gg12, gg13, gg14, gg15, gg16, gg17, gg18, gg19, gg20, gg21, gg22, gg23, gg24, gg25, gg26, gg27, gg28, gg29, gg30, rfl, by simp only [Act.put, List.setIfInBounds_toArray, List.set_cons_zero, List.set_cons_succ, cond_true, cond_false, Bool.cond_self], ?_, ?_, ?_, ?_, ?_, ?_, ?_, ?_⟩
              · exact fb0
              · exact fb1
              · exact fb2
              · exact fb3
              · exact fb4
              · exact fB
              · exact fL
              · exact h24_30
            · have ge3 : gg3 = false := hi2
              clear hall hi1 hi2
              subst ge3
              have ho2 := ho
              simp only [List.getElem?_toArray, List.getElem?_cons_zero, List.getElem?_cons_succ] at ho2
              have ho3 := Option.some.inj ho2; clear ho2; subst ho3
              obtain ⟨ba0, bb0⟩ := fb0.read; have bl0 := fb0.lt
              obtain ⟨ba1, bb1⟩ := fb1.read; have bl1 := fb1.lt
              obtain ⟨ba2, bb2⟩ := fb2.read; have bl2 := fb2.lt
              obtain ⟨ba3, bb3⟩ := fb3.read; have bl3 := fb3.lt
              simp only [Act.put, List.setIfInBounds_toArray, List.set_cons_zero, List.set_cons_succ]
              simp only [cond_true, cond_false]
              refine inv_op ho (by kernel_rfl) (fun K hK => ?_)
              clear ho
              go_simp
              refine hK.out _ _ ?_
              unfold CompI
              refine ⟨gg0, gg1, gg2, true, gg4, gg5, gg6, gg7, gg8, gg9, gg10, gg11, gg12, gg13, gg14, gg15, gg16, gg17, gg18, gg19, gg20, gg21, gg22, gg23, gg24, gg25, gg26, gg27, gg28, gg29, gg30, rfl, by simp only [Act.put, List.setIfInBounds_toArray, List.set_cons_zero, List.set_cons_succ, cond_true, cond_false, Bool.cond_self], ?_, ?_, ?_, ?_, ?_, ?_, ?_, ?_⟩
              · exact fb0
              · exact fb1
              · exact fb2
              · exact fb3
              · exact fb4
              · exact fB
              · exact fL
              · exact h24_30
            · have ge4 : gg4 = false := hi2
              have ge3 : gg3 = true := inv_dep ho hall 3 (by kernel_rfl)
              clear hall hi1 hi2
              subst ge4 ge3
              have ho2 := ho
              simp only [List.getElem?_toArray, List.getElem?_cons_zero, List.getElem?_cons_succ] at ho2
              have ho3 := Option.some.inj ho2; clear ho2; subst ho3
              obtain ⟨ba0, bb0⟩ := fb0.read; have bl0 := fb0.lt
              obtain ⟨ba1, bb1⟩ := fb1.read; have bl1 := fb1.lt
              obtain ⟨ba2, bb2⟩ := fb2.read; have bl2 := fb2.lt
              obtain ⟨ba3, bb3⟩ := fb3.read; have bl3 := fb3.lt
              simp only [Act.put, List.setIfInBounds_toArray, List.set_cons_zero, List.set_cons_succ]
              simp only [cond_true, cond_false]
              refine inv_op ho (by kernel_rfl) (fun K hK => ?_)
              clear ho
              go_simp
              refine hK.out _ _ ?_
              unfold CompI
              refine ⟨gg0, gg1, gg2, true, true, gg5, gg6, gg7, gg8, gg9, gg10, gg11, gg12, gg13, gg14, gg15, gg16, gg17, gg18, gg19, gg20, gg21, gg22, gg23, gg24, gg25, gg26, gg27, gg28, gg29, gg30, rfl, by simp only [Act.put, List.setIfInBounds_toArray, List.set_cons_zero, List.set_cons_succ, cond_true, cond_false, Bool.cond_self], ?_, ?_, ?_, ?_, ?_, ?_, ?_, ?_⟩
              · exact fb0
              · exact fb1
              · exact fb2
              · exact fb3
              · exact fb4
              · exact fB
              · exact fL
              · exact h24_30
            · have ge5 : gg5 = false := hi2
              have ge2 : gg2 = true := inv_dep ho hall 2 (by kernel_rfl)
              have ge4 : gg4 = true := inv_dep ho hall 4 (by kernel_rfl)
              clear hall hi1 hi2
              subst ge5 ge2 ge4
              have ho2 := ho
              simp only [List.getElem?_toArray, List.getElem?_cons_zero, List.getElem?_cons_succ] at ho2
              have ho3 := Option.some.inj ho2; clear ho2; subst ho3
              obtain ⟨ba0, bb0⟩ := fb0.read; have bl0 := fb0.lt
              obtain ⟨ba1, bb1⟩ := fb1.read; have bl1 := fb1.lt
              obtain ⟨ba2, bb2⟩ := fb2.read; have bl2 := fb2.lt
              obtain ⟨ba3, bb3⟩ := fb3.read; have bl3 := fb3.lt
              simp only [Act.put, List.setIfInBounds_toArray, List.set_cons_zero, List.set_cons_succ]
              simp only [cond_true, cond_false]
              refine inv_op ho (by kernel_rfl) (fun K hK => ?_)
              clear ho
              go_simp
              refine hK.out _ _ ?_
              unfold CompI
              refine ⟨gg0, gg1, true, gg3, true, true, gg6, gg7, gg8, gg9, gg10, gg11, gg12, gg13, gg14, gg15, gg16, gg17, gg18, gg19, gg20, gg21, gg22, gg23, gg24, gg25, gg26, gg27, gg28, gg29, gg30, rfl, by simp only [Act.put, List.setIfInBounds_toArray, List.set_cons_zero, List.set_cons_succ, cond_true, cond_false, Bool.cond_self], ?_, ?_, ?_, ?_, ?_, ?_, ?_, ?_⟩
              · exact fb0
              · exact fb1
              · exact fb2
              · exact fb3
              · exact fb4
              · exact fB
              · exact fL
              · exact h24_30
            · have ge6 : gg6 = false := hi2
              clear hall hi1 hi2
              subst ge6
              have ho2 := ho
              simp only [List.getElem?_toArray, List.getElem?_cons_zero, List.getElem?_cons_succ] at ho2
              have ho3 := Option.some.inj ho2; clear ho2; subst ho3
              obtain ⟨ba0, bb0⟩ := fb0.read; have bl0 := fb0.lt
              obtain ⟨ba1, bb1⟩ := fb1.read; have bl1 := fb1.lt
              obtain ⟨ba2, bb2⟩ := fb2.read; have bl2 := fb2.lt
              obtain ⟨ba3, bb3⟩ := fb3.read; have bl3 := fb3.lt
              simp only [Act.put, List.setIfInBounds_toArray, List.set_cons_zero, List.set_cons_succ]
              simp only [cond_true, cond_false]
              refine inv_op ho (by kernel_rfl) (fun K hK => ?_)
              clear ho
              go_simp
              refine hK.out _ _ ?_
              unfold CompI
              refine ⟨gg0, gg1, gg2, gg3, gg4, gg5, true, gg7, gg8, gg9, gg10, gg11, gg12, gg13, gg14, gg15, gg16, gg17, gg18, gg19, gg20, gg21, gg22, gg23, gg24, gg25, gg26, gg27, gg28, gg29, gg30, rfl, by simp only [Act.put, List.setIfInBounds_toArray, List.set_cons_zero, List.set_cons_succ, cond_true, cond_false, Bool.cond_self], ?_, ?_, ?_, ?_, ?_, ?_, ?_, ?_⟩
              · exact fb0
              · exact fb1
              · exact fb2
              · exact fb3
              · exact fb4
              · exact fB
              · exact fL
              · exact h24_30
            · have ge7 : gg7 = false := hi2
              clear hall hi1 hi2
              subst ge7
              have ho2 := ho
              simp only [List.getElem?_toArray, List.getElem?_cons_zero, List.getElem?_cons_succ] at ho2
              have ho3 := Option.some.inj ho2; clear ho2; subst ho3
              obtain ⟨ba0, bb0⟩ := fb0.read; have bl0 := fb0.lt
              obtain ⟨ba1, bb1⟩ := fb1.read; have bl1 := fb1.lt
              obtain ⟨ba2, bb2⟩ := fb2.read; have bl2 := fb2.lt
              obtain ⟨ba3, bb3⟩ := fb3.read; have bl3 := fb3.lt
              simp only [Act.put, List.setIfInBounds_toArray, List.set_cons_zero, List.set_cons_succ]
              simp only [cond_true, cond_false]
              refine inv_op ho (by kernel_rfl) (fun K hK => ?_)
              clear ho
              go_simp
              refine hK.out _ _ ?_
              unfold CompI
              refine ⟨gg0, gg1, gg2, gg3, gg4, gg5, gg6, true, gg8, gg9, gg10, gg11, gg12, gg13, gg14, gg15, gg16, gg17, gg18, gg19, gg20, gg21, gg22, gg23, gg24, gg25, gg26, gg27, gg28, gg29, gg30, rfl, by simp only [Act.put, List.setIfInBounds_toArray, List.set_cons_zero, List.set_cons_succ, cond_true, cond_false, Bool.cond_self], ?_, ?_, ?_, ?_, ?_, ?_, ?_, ?_⟩
              · exact fb0
              · exact fb1
              · exact fb2
              · exact fb3
              · exact fb4
              · exact fB
              · exact fL
              · exact h24_30
            · have ge8 : gg8 = false := hi2
              have ge7 : gg7 = true := inv_dep ho hall 7 (by kernel_rfl)
              clear hall hi1 hi2
              subst ge8 ge7
              have ho2 := ho
              simp only [List.getElem?_toArray, List.getElem?_cons_zero, List.getElem?_cons_succ] at ho2
              have ho3 := Option.some.inj ho2; clear ho2; subst ho3
              obtain ⟨ba0, bb0⟩ := fb0.read; have bl0 := fb0.lt
              obtain ⟨ba1, bb1⟩ := fb1.read; have bl1 := fb1.lt
              obtain ⟨ba2, bb2⟩ := fb2.read; have bl2 := fb2.lt
              obtain ⟨ba3, bb3⟩ := fb3.read; have bl3 := fb3.lt
              simp only [Act.put, List.setIfInBounds_toArray, List.set_cons_zero, List.set_cons_succ]
              simp only [cond_true, cond_false]
              refine inv_op ho (by kernel_rfl) (fun K hK => ?_)
              clear ho
              go_simp
              refine hK.out _ _ ?_
              unfold CompI
              refine ⟨gg0, gg1, gg2, gg3, gg4, gg5, gg6, true, true, gg9, gg10, gg11, gg12, gg13, gg14, gg15, gg16, gg17, gg18, gg19, gg20, gg21, gg22, gg23, gg24, gg25, gg26, gg27, gg28, gg29, gg30, rfl, by simp only [Act.put, List.setIfInBounds_toArray, List.set_cons_zero, List.set_cons_succ, cond_true, cond_false, Bool.cond_self], ?_, ?_, ?_, ?_, ?_, ?_, ?_, ?_⟩
              · exact fb0
              · exact fb1
              · exact fb2
              · exact fb3
              · exact fb4
              · exact fB
              · exact fL
              · exact h24_30
            · have ge9 : gg9 = false := hi2
              have ge6 : gg6 = true := inv_dep ho hall 6 (by kernel_rfl)
              have ge8 : gg8 = true := inv_dep ho hall 8 (by kernel_rfl)
              clear hall hi1 hi2
              subst ge9 ge6 ge8
              have ho2 := ho
              simp only [List.getElem?_toArray, List.getElem?_cons_zero, List.getElem?_cons_succ] at ho2
              have ho3 := Option.some.inj ho2; clear ho2; subst ho3
              obtain ⟨ba0, bb0⟩ := fb0.read; have bl0 := fb0.lt
              obtain ⟨ba1, bb1⟩ := fb1.read; have bl1 := fb1.lt
              obtain ⟨ba2, bb2⟩ := fb2.read; have bl2 := fb2.lt
              obtain ⟨ba3, bb3⟩ := fb3.read; have bl3 := fb3.lt
              simp only [Act.put, List.setIfInBounds_toArray, List.set_cons_zero, List.set_cons_succ]
              simp only [cond_true, cond_false]
              refine inv_op ho (by kernel_rfl) (fun K hK => ?_)
              clear ho
              go_simp
              refine hK.out _ _ ?_
              unfold CompI
              refine ⟨gg0, gg1, gg2, gg3, gg4, gg5, true, gg7, true, true, gg10, gg11, gg12, gg13, gg14, gg15, gg16, gg17, gg18, gg19, gg20, gg21, gg22, gg23, gg24, gg25, gg26, gg27, gg28, gg29, gg30, rfl, by simp only [Act.put, List.setIfInBounds_toArray, List.set_cons_zero, List.set_cons_succ, cond_true, cond_false, Bool.cond_self], ?_, ?_, ?_, ?_, ?_, ?_, ?_, ?_⟩
              · exact fb0
              · exact fb1
              · exact fb2
              · exact fb3
              · exact fb4
              · exact fB
              · exact fL
              · exact h24_30
            · have ge10 : gg10 = false := hi2
              have ge5 : gg5 = true := inv_dep ho hall 5 (by kernel_rfl)
              have ge9 : gg9 = true := inv_dep ho hall 9 (by kernel_rfl)
              clear hall hi1 hi2
              subst ge10 ge5 ge9
              have ho2 := ho
              simp only [List.getElem?_toArray, List.getElem?_cons_zero, List.getElem?_cons_succ] at ho2
              have ho3 := Option.some.inj ho2; clear ho2; subst ho3
              obtain ⟨ba0, bb0⟩ := fb0.read; have bl0 := fb0.lt
              obtain ⟨ba1, bb1⟩ := fb1.read; have bl1 := fb1.lt
              obtain ⟨ba2, bb2⟩ := fb2.read; have bl2 := fb2.lt
              obtain ⟨ba3, bb3⟩ := fb3.read; have bl3 := fb3.lt
              simp only [Act.put, List.setIfInBounds_toArray, List.set_cons_zero, List.set_cons_succ]
              simp only [cond_true, cond_false]
              refine inv_op ho (by kernel_rfl) (fun K hK => ?_)
              clear ho
              go_simp
              refine hK.out _ _ ?_
              unfold CompI
              refine ⟨gg0, gg1, gg2, gg3, gg4, true, gg6, gg7, gg8, true, true, gg11, gg12, gg13, gg14, gg15, gg16, gg17, gg18, gg19, gg20, gg21, gg22, gg23, gg24, gg25, gg26, gg27, gg28, gg29, gg30, rfl, by simp only [Act.put, List.setIfInBounds_toArray, List.set_cons_zero, List.set_cons_succ, cond_true, cond_false, Bool.cond_self], ?_, ?_, ?_, ?_, ?_, ?_, ?_, ?_⟩
              · exact fb0
              · exact fb1
              · exact fb2
              · exact fb3
              · exact fb4
              · exact fB
              · exact fL
              · exact h24_30
            · have ge11 : gg11 = false := hi2
              clear hall hi1 hi2
              subst ge11
              have ho2 := ho
              simp only [List.getElem?_toArray, List.getElem?_cons_zero, List.getElem?_cons_succ] at ho2
              have ho3 := Option.some.inj ho2; clear ho2; subst ho3
              obtain ⟨ba0, bb0⟩ := fb0.read; have bl0 := fb0.lt
              obtain ⟨ba1, bb1⟩ := fb1.read; have bl1 := fb1.lt
              obtain ⟨ba2, bb2⟩ := fb2.read; have bl2 := fb2.lt
              obtain ⟨ba3, bb3⟩ := fb3.read; have bl3 := fb3.lt
              simp only [Act.put, List.setIfInBounds_toArray, List.set_cons_zero, List.set_cons_succ]
              simp only [cond_true, cond_false]
              refine inv_op ho (by kernel_rfl) (fun K hK => ?_)
              clear ho
              go_simp
              refine hK.out _ _ ?_
              unfold CompI
              refine ⟨gg0, gg1, gg2, gg3, gg4, gg5, gg6, gg7, gg8, gg9, gg10, true, gg12, gg13, gg14, gg15, gg16, gg17, gg18, gg19, gg20, gg21, gg22, gg23, gg24, gg25, gg26, gg27, gg28, gg29, gg30, rfl, by simp only [Act.put, List.setIfInBounds_toArray, List.set_cons_zero, List.set_cons_succ, cond_true, cond_false, Bool.cond_self], ?_, ?_, ?_, ?_, ?_, ?_, ?_, ?_⟩
              · exact fb0
              · exact fb1
              · exact fb2
              · exact fb3
              · exact fb4
              · exact fB
              · exact fL
              · exact h24_30
            · have ge12 : gg12 = false := hi2
              have ge10 : gg10 = true := inv_dep ho hall 10 (by kernel_rfl)
              have ge11 : gg11 = true := inv_dep ho hall 11 (by kernel_rfl)
              clear hall hi1 hi2
              subst ge12 ge10 ge11
              have ho2 := ho
              simp only [List.getElem?_toArray, List.getElem?_cons_zero, List.getElem?_cons_succ] at ho2
              have ho3 := Option.some.inj ho2; clear ho2; subst ho3
              obtain ⟨ba0, bb0⟩ := fb0.read; have bl0 := fb0.lt
              obtain ⟨ba1, bb1⟩ := fb1.read; have bl1 := fb1.lt
              obtain ⟨ba2, bb2⟩ := fb2.read; have bl2 := fb2.lt
              obtain ⟨ba3, bb3⟩ := fb3.read; have bl3 := fb3.lt
              simp only [Act.put, List.setIfInBounds_toArray, List.set_cons_zero, List.set_cons_succ]
              simp only [cond_true, cond_false]
              refine inv_op ho (by kernel_rfl) (fun K hK => ?_)
              clear ho
              go_simp
              refine hK.out _ _ ?_
              unfold CompI
              refine ⟨gg0, gg1, gg2, gg3, gg4, gg5, gg6, gg7, gg8, gg9, true, true, true, gg13, gg14, gg15, gg16, gg17, gg18, gg19, gg20, gg21, gg22, gg23, gg24, gg25, gg26, gg27, gg28, gg29, gg30, rfl, by simp only [Act.put, List.setIfInBounds_toArray, List.set_cons_zero, List.set_cons_succ, cond_true, cond_false, Bool.cond_self], ?_, ?_, ?_, ?_, ?_, ?_, ?_, ?_⟩
              · exact fb0
              · exact fb1
              · exact fb2
              · exact fb3
              · exact fb4
              · exact fB
              · exact fL
              · exact h24_30
            · have ge13 : gg13 = false := hi2
              clear hall hi1 hi2
              subst ge13
              have ho2 := ho
              simp only [List.getElem?_toArray, List.getElem?_cons_zero, List.getElem?_cons_succ] at ho2
              have ho3 := Option.some.inj ho2; clear ho2; subst ho3
              obtain ⟨ba0, bb0⟩ := fb0.read; have bl0 := fb0.lt
              obtain ⟨ba1, bb1⟩ := fb1.read; have bl1 := fb1.lt
              obtain ⟨ba2, bb2⟩ := fb2.read; have bl2 := fb2.lt
              obtain ⟨ba3, bb3⟩ := fb3.read; have bl3 := fb3.lt
              simp only [Act.put, List.setIfInBounds_toArray, List.set_cons_zero, List.set_cons_succ]
              simp only [cond_true, cond_false]
              refine inv_op ho (by kernel_rfl) (fun K hK => ?_)
              clear ho
              go_simp
              refine hK.out _ _ ?_
              unfold CompI
              refine ⟨gg0, gg1, gg2, gg3, gg4, gg5, gg6, gg7, gg8, gg9, gg10, gg11, gg12, true, gg14, gg15, gg16, gg17, gg18, gg19, gg20, gg21, gg22, gg23, gg24, gg25, gg26, gg27, gg28, gg29, gg30, rfl, by simp only [Act.put, List.setIfInBounds_toArray, List.set_cons_zero, List.set_cons_succ, cond_true, cond_false, Bool.cond_self], ?_, ?_, ?_, ?_, ?_, ?_, ?_, ?_⟩
              · exact fb0
              · exact fb1
              · exact fb2
              · exact fb3
              · exact fb4
              · exact fB
              · exact fL
              · exact h24_30
            · have ge14 : gg14 = false := hi2
              clear hall hi1 hi2
              subst ge14
              have ho2 := ho
              simp only [List.getElem?_toArray, List.getElem?_cons_zero, List.getElem?_cons_succ] at ho2
              have ho3 := Option.some.inj ho2; clear ho2; subst ho3
              obtain ⟨ba0, bb0⟩ := fb0.read; have bl0 := fb0.lt
              obtain ⟨ba1, bb1⟩ := fb1.read; have bl1 := fb1.lt
              obtain ⟨ba2, bb2⟩ := fb2.read; have bl2 := fb2.lt
              obtain ⟨ba3, bb3⟩ := fb3.read; have bl3 := fb3.lt
              simp only [Act.put, List.setIfInBounds_toArray, List.set_cons_zero, List.set_cons_succ]
              simp only [cond_true, cond_false]
              refine inv_op ho (by kernel_rfl) (fun K hK => ?_)
              clear ho
              go_simp
              refine hK.out _ _ ?_
              unfold CompI
              refine ⟨gg0, gg1, gg2, gg3, gg4, gg5, gg6, gg7, gg8, gg9, gg10, gg11, gg12, gg13, true, gg15, gg16, gg17, gg18, gg19, gg20, gg21, gg22, gg23, gg24, gg25, gg26, gg27, gg28, gg29, gg30, rfl, by simp only [Act.put, List.setIfInBounds_toArray, List.set_cons_zero, List.set_cons_succ, cond_true, cond_false, Bool.cond_self], ?_, ?_, ?_, ?_, ?_, ?_, ?_, ?_⟩
              · exact fb0
              · exact fb1
              · exact fb2
              · exact fb3
              · exact fb4
              · exact fB
              · exact fL
              · exact h24_30
            · have ge15 : gg15 = false := hi2
              have ge14 : gg14 = true := inv_dep ho hall 14 (by kernel_rfl)
              clear hall hi1 hi2
              subst ge15 ge14
              have ho2 := ho
              simp only [List.getElem?_toArray, List.getElem?_cons_zero, List.getElem?_cons_succ] at ho2
              have ho3 := Option.some.inj ho2; clear ho2; subst ho3
              obtain ⟨ba0, bb0⟩ := fb0.read; have bl0 := fb0.lt
              obtain ⟨ba1, bb1⟩ := fb1.read; have bl1 := fb1.lt
              obtain ⟨ba2, bb2⟩ := fb2.read; have bl2 := fb2.lt
              obtain ⟨ba3, bb3⟩ := fb3.read; have bl3 := fb3.lt
              simp only [Act.put, List.setIfInBounds_toArray, List.set_cons_zero, List.set_cons_succ]
              simp only [cond_true, cond_false]
              refine inv_op ho (by kernel_rfl) (fun K hK => ?_)
              clear ho
              go_simp
              refine hK.out _ _ ?_
              unfold CompI
              refine ⟨gg0, gg1, gg2, gg3, gg4, gg5, gg6, gg7, gg8, gg9, gg10, gg11, gg12, gg13, true, true, gg16, gg17, gg18, gg19, gg20, gg21, gg22, gg23, gg24, gg25, gg26, gg27, gg28, gg29, gg30, rfl, by simp only [Act.put, List.setIfInBounds_toArray, List.set_cons_zero, List.set_cons_succ, cond_true, cond_false, Bool.cond_self], ?_, ?_, ?_, ?_, ?_, ?_, ?_, ?_⟩
              · exact fb0
              · exact fb1
              · exact fb2
              · exact fb3
              · exact fb4
              · exact fB
              · exact fL
              · exact h24_30
            · have ge16 : gg16 = false := hi2
              have ge13 : gg13 = true := inv_dep ho hall 13 (by kernel_rfl)
              have ge15 : gg15 = true := inv_dep ho hall 15 (by kernel_rfl)
              clear hall hi1 hi2
              subst ge16 ge13 ge15
              have ho2 := ho
              simp only [List.getElem?_toArray, List.getElem?_cons_zero, List.getElem?_cons_succ] at ho2
              have ho3 := Option.some.inj ho2; clear ho2; subst ho3
              obtain ⟨ba0, bb0⟩ := fb0.read; have bl0 := fb0.lt
              obtain ⟨ba1, bb1⟩ := fb1.read; have bl1 := fb1.lt
              obtain ⟨ba2, bb2⟩ := fb2.read; have bl2 := fb2.lt
              obtain ⟨ba3, bb3⟩ := fb3.read; have bl3 := fb3.lt
              simp only [Act.put, List.setIfInBounds_toArray, List.set_cons_zero, List.set_cons_succ]
              simp only [cond_true, cond_false]
              refine inv_op ho (by kernel_rfl) (fun K hK => ?_)
              clear ho
              go_simp
              refine hK.out _ _ ?_
              unfold CompI
              refine ⟨gg0, gg1, gg2, gg3, gg4, gg5, gg6, gg7, gg8, gg9, gg10, gg11, gg12, true, gg14, true, true, gg17, gg18, gg19, gg20, gg21, gg22, gg23, gg24, gg25, gg26, gg27, gg28, gg29, gg30, rfl, by simp only [Act.put, List.setIfInBounds_toArray, List.set_cons_zero, List.set_cons_succ, cond_true, cond_false, Bool.cond_self], ?_, ?_, ?_, ?_, ?_, ?_, ?_, ?_⟩
              · exact fb0
              · exact fb1
              · exact fb2
              · exact fb3
              · exact fb4
              · exact fB
              · exact fL
              · exact h24_30
            · have ge17 : gg17 = false := hi2
              have ge12 : gg12 = true := inv_dep ho hall 12 (by kernel_rfl)
              have ge16 : gg16 = true := inv_dep ho hall 16 (by kernel_rfl)
              clear hall hi1 hi2
              subst ge17 ge12 ge16
              have ho2 := ho
              simp only [List.getElem?_toArray, List.getElem?_cons_zero, List.getElem?_cons_succ] at ho2
              have ho3 := Option.some.inj ho2; clear ho2; subst ho3
              obtain ⟨ba0, bb0⟩ := fb0.read; have bl0 := fb0.lt
              obtain ⟨ba1, bb1⟩ := fb1.read; have bl1 := fb1.lt
              obtain ⟨ba2, bb2⟩ := fb2.read; have bl2 := fb2.lt
              obtain ⟨ba3, bb3⟩ := fb3.read; have bl3 := fb3.lt
              simp only [Act.put, List.setIfInBounds_toArray, List.set_cons_zero, List.set_cons_succ]
              simp only [cond_true, cond_false]
              refine inv_op ho (by kernel_rfl) (fun K hK => ?_)
              clear ho
              go_simp
              refine hK.out _ _ ?_
              unfold CompI
              refine ⟨gg0, gg1, gg2, gg3, gg4, gg5, gg6, gg7, gg8, gg9, gg10, gg11, true, gg13, gg14, gg15, true, true, gg18, gg19, gg20, gg21, gg22, gg23, gg24, gg25, gg26, gg27, gg28, gg29, gg30, rfl, by simp only [Act.put, List.setIfInBounds_toArray, List.set_cons_zero, List.set_cons_succ, cond_true, cond_false, Bool.cond_self], ?_, ?_, ?_, ?_, ?_, ?_, ?_, ?_⟩
              · exact fb0
              · exact fb1
              · exact fb2
              · exact fb3
              · exact fb4
              · exact fB
              · exact fL
              · exact h24_30
            · have ge18 : gg18 = false := hi2
              clear hall hi1 hi2
              subst ge18
              have ho2 := ho
              simp only [List.getElem?_toArray, List.getElem?_cons_zero, List.getElem?_cons_succ] at ho2
              have ho3 := Option.some.inj ho2; clear ho2; subst ho3
              obtain ⟨ba0, bb0⟩ := fb0.read; have bl0 := fb0.lt
              obtain ⟨ba1, bb1⟩ := fb1.read; have bl1 := fb1.lt
              obtain ⟨ba2, bb2⟩ := fb2.read; have bl2 := fb2.lt
              obtain ⟨ba3, bb3⟩ := fb3.read; have bl3 := fb3.lt
              simp only [Act.put, List.setIfInBounds_toArray, List.set_cons_zero, List.set_cons_succ]
              simp only [cond_true, cond_false]
              refine inv_op ho (by kernel_rfl) (fun K hK => ?_)
              clear ho
              go_simp
              refine hK.out _ _ ?_
              unfold CompI
              refine ⟨gg0, gg1, gg2, gg3, gg4, gg5, gg6, gg7, gg8, gg9, gg10, gg11, gg12, gg13, gg14, gg15, gg16, gg17, true, gg19, gg20, gg21, gg22, gg23, gg24, gg25, gg26, gg27, gg28, gg29, gg30, rfl, by simp only [Act.put, List.setIfInBounds_toArray, List.set_cons_zero, List.set_cons_succ, cond_true, cond_false, Bool.cond_self], ?_, ?_, ?_, ?_, ?_, ?_, ?_, ?_⟩
              · exact fb0
              · exact fb1
              · exact fb2
              · exact fb3
              · exact fb4
              · exact fB
              · exact fL
              · exact h24_30
            · have ge19 : gg19 = false := hi2
              clear hall hi1 hi2
              subst ge19
              have ho2 := ho
              simp only [List.getElem?_toArray, List.getElem?_cons_zero, List.getElem?_cons_succ] at ho2
              have ho3 := Option.some.inj ho2; clear ho2; subst ho3
              obtain ⟨ba0, bb0⟩ := fb0.read; have bl0 := fb0.lt
              obtain ⟨ba1, bb1⟩ := fb1.read; have bl1 := fb1.lt
              obtain ⟨ba2, bb2⟩ := fb2.read; have bl2 := fb2.lt
              obtain ⟨ba3, bb3⟩ := fb3.read; have bl3 := fb3.lt
              simp only [Act.put, List.setIfInBounds_toArray, List.set_cons_zero, List.set_cons_succ]
              simp only [cond_true, cond_false]
              refine inv_op ho (by kernel_rfl) (fun K hK => ?_)
              clear ho
              go_simp
              refine hK.out _ _ ?_
              unfold CompI
              refine ⟨gg0, gg1, gg2, gg3, gg4, gg5, gg6, gg7, gg8, gg9, gg10, gg11, gg12, gg13, gg14, gg15, gg16, gg17, gg18, true, gg20, gg21, gg22, gg23, gg24, gg25, gg26, gg27, gg28, gg29, gg30, rfl, by simp only [Act.put, List.setIfInBounds_toArray, List.set_cons_zero, List.set_cons_succ, cond_true, cond_false, Bool.cond_self], ?_, ?_, ?_, ?_, ?_, ?_, ?_, ?_⟩
              · exact fb0
              · exact fb1
              · exact fb2
              · exact fb3
              · exact fb4
              · exact fB
              · exact fL
              · exact h24_30
            · have ge20 : gg20 = false := hi2
              have ge19 : gg19 = true := inv_dep ho hall 19 (by kernel_rfl)
              clear hall hi1 hi2
              subst ge20 ge19
              have ho2 := ho
              simp only [List.getElem?_toArray, List.getElem?_cons_zero, List.getElem?_cons_succ] at ho2
              have ho3 := Option.some.inj ho2; clear ho2; subst ho3
              obtain ⟨ba0, bb0⟩ := fb0.read; have bl0 := fb0.lt
              obtain ⟨ba1, bb1⟩ := fb1.read; have bl1 := fb1.lt
              obtain ⟨ba2, bb2⟩ := fb2.read; have bl2 := fb2.lt
              obtain ⟨ba3, bb3⟩ := fb3.read; have bl3 := fb3.lt
              simp only [Act.put, List.setIfInBounds_toArray, List.set_cons_zero, List.set_cons_succ]
              simp only [cond_true, cond_false]
              refine inv_op ho (by kernel_rfl) (fun K hK => ?_)
              clear ho
              go_simp
              refine hK.out _ _ ?_
              unfold CompI
              refine ⟨gg0, gg1, gg2, gg3, gg4, gg5, gg6, gg7, gg8, gg9, gg10, gg11, gg12, gg13, gg14, gg15, gg16, gg17, gg18, true, true, gg21, gg22, gg23, gg24, gg25, gg26, gg27, gg28, gg29, gg30, rfl, by simp only [Act.put, List.setIfInBounds_toArray, List.set_cons_zero, List.set_cons_succ, cond_true, cond_false, Bool.cond_self], ?_, ?_, ?_, ?_, ?_, ?_, ?_, ?_⟩
              · exact fb0
              · exact fb1
              · exact fb2
              · exact fb3
              · exact fb4
              · exact fB
              · exact fL
              · exact h24_30
            · have ge21 : gg21 = false := hi2
              have ge18 : gg18 = true := inv_dep ho hall 18 (by kernel_rfl)
              have ge20 : gg20 = true := inv_dep ho hall 20 (by kernel_rfl)
              clear hall hi1 hi2
              subst ge21 ge18 ge20
              have ho2 := ho
              simp only [List.getElem?_toArray, List.getElem?_cons_zero, List.getElem?_cons_succ] at ho2
              have ho3 := Option.some.inj ho2; clear ho2; subst ho3
              obtain ⟨ba0, bb0⟩ := fb0.read; have bl0 := fb0.lt
              obtain ⟨ba1, bb1⟩ := fb1.read; have bl1 := fb1.lt
              obtain ⟨ba2, bb2⟩ := fb2.read; have bl2 := fb2.lt
              obtain ⟨ba3, bb3⟩ := fb3.read; have bl3 := fb3.lt
              simp only [Act.put, List.setIfInBounds_toArray, List.set_cons_zero, List.set_cons_succ]
              simp only [cond_true, cond_false]
              refine inv_op ho (by kernel_rfl) (fun K hK => ?_)
              clear ho
              go_simp
              refine hK.out _ _ ?_
              unfold CompI
              refine ⟨gg0, gg1, gg2, gg3, gg4, gg5, gg6, gg7, gg8, gg9, gg10, gg11, gg12, gg13, gg14, gg15, gg16, gg17, true, gg19, true, true, gg22, gg23, gg24, gg25, gg26, gg27, gg28, gg29, gg30, rfl, by simp only [Act.put, List.setIfInBounds_toArray, List.set_cons_zero, List.set_cons_succ, cond_true, cond_false, Bool.cond_self], ?_, ?_, ?_, ?_, ?_, ?_, ?_, ?_⟩
              · exact fb0
              · exact fb1
              · exact fb2
              · exact fb3
              · exact fb4
              · exact fB
              · exact fL
              · exact h24_30
            · have ge22 : gg22 = false := hi2
              have ge17 : gg17 = true := inv_dep ho hall 17 (by kernel_rfl)
              have ge21 : gg21 = true := inv_dep ho hall 21 (by kernel_rfl)
              clear hall hi1 hi2
              subst ge22 ge17 ge21
              have ho2 := ho
              simp only [List.getElem?_toArray, List.getElem?_cons_zero, List.getElem?_cons_succ] at ho2
              have ho3 := Option.some.inj ho2; clear ho2; subst ho3
              obtain ⟨ba0, bb0⟩ := fb0.read; have bl0 := fb0.lt
              obtain ⟨ba1, bb1⟩ := fb1.read; have bl1 := fb1.lt
              obtain ⟨ba2, bb2⟩ := fb2.read; have bl2 := fb2.lt
              obtain ⟨ba3, bb3⟩ := fb3.read; have bl3 := fb3.lt
              simp only [Act.put, List.setIfInBounds_toArray, List.set_cons_zero, List.set_cons_succ]
              simp only [cond_true, cond_false]
              refine inv_op ho (by kernel_rfl) (fun K hK => ?_)
              clear ho
              go_simp
              refine hK.out _ _ ?_
              unfold CompI
              refine ⟨gg0, gg1, gg2, gg3, gg4, gg5, gg6, gg7, gg8, gg9, gg10, gg11, gg12, gg13, gg14, gg15, gg16, true, gg18, gg19, gg20, true, true, gg23, gg24, gg25, gg26, gg27, gg28, gg29, gg30, rfl, by simp only [Act.put, List.setIfInBounds_toArray, List.set_cons_zero, List.set_cons_succ, cond_true, cond_false, Bool.cond_self], ?_, ?_, ?_, ?_, ?_, ?_, ?_, ?_⟩
              · exact fb0
              · exact fb1
              · exact fb2
              · exact fb3
              · exact fb4
              · exact fB
              · exact fL
              · exact h24_30
            · have ge23 : gg23 = false := hi2
              have ge1 : gg1 = true := inv_dep ho hall 1 (by kernel_rfl)
              have ge22 : gg22 = true := inv_dep ho hall 22 (by kernel_rfl)
              clear hall hi1 hi2
              subst ge23 ge1 ge22
              have ho2 := ho
              simp only [List.getElem?_toArray, List.getElem?_cons_zero, List.getElem?_cons_succ] at ho2
              have ho3 := Option.some.inj ho2; clear ho2; subst ho3
              obtain ⟨ba0, bb0⟩ := fb0.read; have bl0 := fb0.lt
              obtain ⟨ba1, bb1⟩ := fb1.read; have bl1 := fb1.lt
              obtain ⟨ba2, bb2⟩ := fb2.read; have bl2 := fb2.lt
              obtain ⟨ba3, bb3⟩ := fb3.read; have bl3 := fb3.lt
              simp only [Act.put, List.setIfInBounds_toArray, List.set_cons_zero, List.set_cons_succ]
              simp only [cond_true, cond_false]
              refine inv_op ho (by kernel_rfl) (fun K hK => ?_)
              clear ho
              go_simp
              refine hK.out _ _ ?_
              unfold CompI
              refine ⟨gg0, true, gg2, gg3, gg4, gg5, gg6, gg7, gg8, gg9, gg10, gg11, gg12, gg13, gg14, gg15, gg16, gg17, gg18, gg19, gg20, gg21, true, true, gg24, gg25, gg26, gg27, gg28, gg29, gg30, rfl, by simp only [Act.put, List.setIfInBounds_toArray, List.set_cons_zero, List.set_cons_succ, cond_true, cond_false, Bool.cond_self], ?_, ?_, ?_, ?_, ?_, ?_, ?_, ?_⟩
              · exact fb0
              · exact fb1
              · exact fb2
              · exact fb3
              · exact fb4
              · exact fB
              · exact fL
              · exact h24_30
            · have ge24 : gg24 = false := hi2
              have ge23 : gg23 = true := inv_dep ho hall 23 (by kernel_rfl)
              clear hall hi1 hi2
              subst ge24 ge23
              have ho2 := ho
              simp only [List.getElem?_toArray, List.getElem?_cons_zero, List.getElem?_cons_succ] at ho2
              have ho3 := Option.some.inj ho2; clear ho2; subst ho3
              obtain ⟨ba0, bb0⟩ := fb0.read; have bl0 := fb0.lt
              obtain ⟨ba1, bb1⟩ := fb1.read; have bl1 := fb1.lt
              obtain ⟨ba2, bb2⟩ := fb2.read; have bl2 := fb2.lt
              obtain ⟨ba3, bb3⟩ := fb3.read; have bl3 := fb3.lt
              obtain rfl : gg30 = false := by cases gg30; rfl; exact Bool.noConfusion (h24_30 rfl)
              simp only [cond_true, cond_false] at fb4
              obtain ⟨ba9, bb9⟩ := fb4.read
              have hu := hu'
              simp only [Act.put, List.setIfInBounds_toArray, List.set_cons_zero, List.set_cons_succ]
              simp only [cond_true, cond_false]
              refine inv_op ho (by kernel_rfl) (fun K hK => ?_)
              clear ho
              go_simp
              refine hK.out _ _ ?_
              unfold CompI
              refine ⟨gg0, gg1, gg2, gg3, gg4, gg5, gg6, gg7, gg8, gg9, gg10, gg11, gg12, gg13, gg14, gg15, gg16, gg17, gg18, gg19, gg20, gg21, gg22, true, true, gg25, gg26, gg27, gg28, gg29, false, rfl, by simp only [Act.put, List.setIfInBounds_toArray, List.set_cons_zero, List.set_cons_succ, cond_true, cond_false, Bool.cond_self], ?_, ?_, ?_, ?_, ?_, ?_, ?_, ?_⟩
              · exact fb0
              · exact fb1
              · exact fb2
              · exact fb3
              · exact fb4
              · exact fB
              · exact fL
              · intro _; rfl
            · have ge25 : gg25 = false := hi2
              clear hall hi1 hi2
              subst ge25
              have ho2 := ho
              simp only [List.getElem?_toArray, List.getElem?_cons_zero, List.getElem?_cons_succ] at ho2
              have ho3 := Option.some.inj ho2; clear ho2; subst ho3
              obtain ⟨ba0, bb0⟩ := fb0.read; have bl0 := fb0.lt
              obtain ⟨ba1, bb1⟩ := fb1.read; have bl1 := fb1.lt
              obtain ⟨ba2, bb2⟩ := fb2.read; have bl2 := fb2.lt
              obtain ⟨ba3, bb3⟩ := fb3.read; have bl3 := fb3.lt
              simp only [Act.put, List.setIfInBounds_toArray, List.set_cons_zero, List.set_cons_succ]
              simp only [cond_true, cond_false]
              refine inv_op ho (by kernel_rfl) (fun K hK => ?_)
              clear ho
              go_simp
              refine hK.out _ _ ?_
              unfold CompI
              refine ⟨gg0, gg1, gg2, gg3, gg4, gg5, gg6, gg7, gg8, gg9, gg10, gg11, gg12, gg13, gg14, gg15, gg16, gg17, gg18, gg19, gg20, gg21, gg22, gg23, gg24, true, gg26, gg27, gg28, gg29, gg30, rfl, by simp only [Act.put, List.setIfInBounds_toArray, List.set_cons_zero, List.set_cons_succ, cond_true, cond_false, Bool.cond_self], ?_, ?_, ?_, ?_, ?_, ?_, ?_, ?_⟩
              · exact fb0
              · exact fb1
              · exact fb2
              · exact fb3
              · exact fb4
              · exact fB
              · exact fL
              · exact h24_30
            · have ge26 : gg26 = false := hi2
              clear hall hi1 hi2
              subst ge26
              have ho2 := ho
              simp only [List.getElem?_toArray, List.getElem?_cons_zero, List.getElem?_cons_succ] at ho2
              have ho3 := Option.some.inj ho2; clear ho2; subst ho3
              obtain ⟨ba0, bb0⟩ := fb0.read; have bl0 := fb0.lt
              obtain ⟨ba1, bb1⟩ := fb1.read; have bl1 := fb1.lt
              obtain ⟨ba2, bb2⟩ := fb2.read; have bl2 := fb2.lt
              obtain ⟨ba3, bb3⟩ := fb3.read; have bl3 := fb3.lt
              simp only [Act.put, List.setIfInBounds_toArray, List.set_cons_zero, List.set_cons_succ]
              simp only [cond_true, cond_false]
              refine inv_op ho (by kernel_rfl) (fun K hK => ?_)
              clear ho
              go_simp
              refine hK.out _ _ ?_
              unfold CompI
              refine ⟨gg0, gg1, gg2, gg3, gg4, gg5, gg6, gg7, gg8, gg9, gg10, gg11, gg12, gg13, gg14, gg15, gg16, gg17, gg18, gg19, gg20, gg21, gg22, gg23, gg24, gg25, true, gg27, gg28, gg29, gg30, rfl, by simp only [Act.put, List.setIfInBounds_toArray, List.set_cons_zero, List.set_cons_succ, cond_true, cond_false, Bool.cond_self], ?_, ?_, ?_, ?_, ?_, ?_, ?_, ?_⟩
              · exact fb0
              · exact fb1
              · exact fb2
              · exact fb3
              · exact fb4
              · exact fB
              · exact fL
              · exact h24_30
            · have ge27 : gg27 = false := hi2
              have ge25 : gg25 = true := inv_dep ho hall 25 (by kernel_rfl)
              have ge26 : gg26 = true := inv_dep ho hall 26 (by kernel_rfl)
              clear hall hi1 hi2
              subst ge27 ge25 ge26
              have ho2 := ho
              simp only [List.getElem?_toArray, List.getElem?_cons_zero, List.getElem?_cons_succ] at ho2
              have ho3 := Option.some.inj ho2; clear ho2; subst ho3
              obtain ⟨ba0, bb0⟩ := fb0.read; have bl0 := fb0.lt
              obtain ⟨ba1, bb1⟩ := fb1.read; have bl1 := fb1.lt
              obtain ⟨ba2, bb2⟩ := fb2.read; have bl2 := fb2.lt
              obtain ⟨ba3, bb3⟩ := fb3.read; have bl3 := fb3.lt
              simp only [Act.put, List.setIfInBounds_toArray, List.set_cons_zero, List.set_cons_succ]
              simp only [cond_true, cond_false]
              refine inv_op ho (by kernel_rfl) (fun K hK => ?_)
              clear ho
              go_simp
              refine hK.out _ _ ?_
              unfold CompI
              refine ⟨gg0, gg1, gg2, gg3, gg4, gg5, gg6, gg7, gg8, gg9, gg10, gg11, gg12, gg13, gg14, gg15, gg16, gg17, gg18, gg19, gg20, gg21, gg22, gg23, gg24, true, true, true, gg28, gg29, gg30, rfl, by simp only [Act.put, List.setIfInBounds_toArray, List.set_cons_zero, List.set_cons_succ, cond_true, cond_false, Bool.cond_self], ?_, ?_, ?_, ?_, ?_, ?_, ?_, ?_⟩
              · exact fb0
              · exact fb1
              · exact fb2
              · exact fb3
              · exact fb4
              · exact fB
              · exact fL
              · exact h24_30
            · have ge28 : gg28 = false := hi2
              have ge24 : gg24 = true := inv_dep ho hall 24 (by kernel_rfl)
              have ge27 : gg27 = true := inv_dep ho hall 27 (by kernel_rfl)
              clear hall hi1 hi2
              subst ge28 ge24 ge27
              have ho2 := ho
              simp only [List.getElem?_toArray, List.getElem?_cons_zero, List.getElem?_cons_succ] at ho2
              have ho3 := Option.some.inj ho2; clear ho2; subst ho3
              obtain ⟨ba0, bb0⟩ := fb0.read; have bl0 := fb0.lt
              obtain ⟨ba1, bb1⟩ := fb1.read; have bl1 := fb1.lt
              obtain ⟨ba2, bb2⟩ := fb2.read; have bl2 := fb2.lt
              obtain ⟨ba3, bb3⟩ := fb3.read; have bl3 := fb3.lt
              simp only [Act.put, List.setIfInBounds_toArray, List.set_cons_zero, List.set_cons_succ]
              simp only [cond_true, cond_false]
              refine inv_op ho (by kernel_rfl) (fun K hK => ?_)
              clear ho
              go_simp
              refine hK.out _ _ ?_
              unfold CompI
              refine ⟨gg0, gg1, gg2, gg3, gg4, gg5, gg6, gg7, gg8, gg9, gg10, gg11, gg12, gg13, gg14, gg15, gg16, gg17, gg18, gg19, gg20, gg21, gg22, gg23, true, gg25, gg26, true, true, gg29, gg30, rfl, by simp only [Act.put, List.setIfInBounds_toArray, List.set_cons_zero, List.set_cons_succ, cond_true, cond_false, Bool.cond_self], ?_, ?_, ?_, ?_, ?_, ?_, ?_, ?_⟩
              · exact fb0
              · exact fb1
              · exact fb2
              · exact fb3
              · exact fb4
              · exact fB
              · exact fL
              · intro _; rfl
            · have ge29 : gg29 = false := hi2
              have ge1 : gg1 = true := inv_dep ho hall 1 (by kernel_rfl)
              have ge22 : gg22 = true := inv_dep ho hall 22 (by kernel_rfl)
              clear hall hi1 hi2
              subst ge29 ge1 ge22
              have ho2 := ho
              simp only [List.getElem?_toArray, List.getElem?_cons_zero, List.getElem?_cons_succ] at ho2
              have ho3 := Option.some.inj ho2; clear ho2; subst ho3
              obtain ⟨ba0, bb0⟩ := fb0.read; have bl0 := fb0.lt
              obtain ⟨ba1, bb1⟩ := fb1.read; have bl1 := fb1.lt
              obtain ⟨ba2, bb2⟩ := fb2.read; have bl2 := fb2.lt
              obtain ⟨ba3, bb3⟩ := fb3.read; have bl3 := fb3.lt
              simp only [Act.put, List.setIfInBounds_toArray, List.set_cons_zero, List.set_cons_succ]
              simp only [cond_true, cond_false]
              refine inv_op ho (by kernel_rfl) (fun K hK => ?_)
              clear ho
              go_simp
              refine hK.out _ _ ?_
              unfold CompI
              refine ⟨gg0, true, gg2, gg3, gg4, gg5, gg6, gg7, gg8, gg9, gg10, gg11, gg12, gg13, gg14, gg15, gg16, gg17, gg18, gg19, gg20, gg21, true, gg23, gg24, gg25, gg26, gg27, gg28, true, gg30, rfl, by simp only [Act.put, List.setIfInBounds_toArray, List.set_cons_zero, List.set_cons_succ, cond_true, cond_false, Bool.cond_self], ?_, ?_, ?_, ?_, ?_, ?_, ?_, ?_⟩
              · exact fb0
              · exact fb1
              · exact fb2
              · exact fb3
              · exact fb4
              · exact fB
              · exact fL
              · exact h24_30
            · have ge30 : gg30 = false := hi2
              have ge28 : gg28 = true := inv_dep ho hall 28 (by kernel_rfl)
              have ge29 : gg29 = true := inv_dep ho hall 29 (by kernel_rfl)
              have ge24 : gg24 = true := inv_dep ho hall 24 (by kernel_rfl)
              clear hall hi1 hi2
              subst ge30 ge28 ge29 ge24
              have ho2 := ho
              simp only [List.getElem?_toArray, List.getElem?_cons_zero, List.getElem?_cons_succ] at ho2
              have ho3 := Option.some.inj ho2; clear ho2; subst ho3
              simp only [cond_true, cond_false] at fb4
              obtain ⟨ba0, bb0⟩ := fb0.read; have bl0 := fb0.lt
              obtain ⟨ba1, bb1⟩ := fb1.read; have bl1 := fb1.lt
              obtain ⟨ba2, bb2⟩ := fb2.read; have bl2 := fb2.lt
              obtain ⟨ba3, bb3⟩ := fb3.read; have bl3 := fb3.lt
              obtain ⟨ba4, bb4⟩ := fb4.read; have bl4 := fb4.lt
              have hu := hu'
              simp only [Act.put, List.setIfInBounds_toArray, List.set_cons_zero, List.set_cons_succ]
              simp only [cond_true, cond_false]
              refine inv_op ho (by kernel_rfl) (fun K hK => ?_)
              clear ho
              go_simp
              refine hK.out _ _ ?_
              unfold CompI
              refine ⟨gg0, gg1, gg2, gg3, gg4, gg5, gg6, gg7, gg8, gg9, gg10, gg11, gg12, gg13, gg14, gg15, gg16, gg17, gg18, gg19, gg20, gg21, gg22, gg23, true, gg25, gg26, gg27, true, true, true, rfl, by simp only [Act.put, List.setIfInBounds_toArray, List.set_cons_zero, List.set_cons_succ, cond_true, cond_false, Bool.cond_self], ?_, ?_, ?_, ?_, ?_, ?_, ?_, ?_⟩
              · (repeat' (first | (with_reducible assumption) | ((with_reducible refine Blk.new ?_); first | rfl | (simp; done)) | (with_reducible refine Blk.later (by assumption) ?_) | (with_reducible refine Blk.alloc ?_) | (with_reducible refine Blk.drewN ?_) | (with_reducible refine Blk.drew ?_) | (with_reducible refine Blk.other ?_ (by first | omega | (simp; done) | (simp; omega)))))
              · (repeat' (first | (with_reducible assumption) | ((with_reducible refine Blk.new ?_); first | rfl | (simp; done)) | (with_reducible refine Blk.later (by assumption) ?_) | (with_reducible refine Blk.alloc ?_) | (with_reducible refine Blk.drewN ?_) | (with_reducible refine Blk.drew ?_) | (with_reducible refine Blk.other ?_ (by first | omega | (simp; done) | (simp; omega)))))
              · (repeat' (first | (with_reducible assumption) | ((with_reducible refine Blk.new ?_); first | rfl | (simp; done)) | (with_reducible refine Blk.later (by assumption) ?_) | (with_reducible refine Blk.alloc ?_) | (with_reducible refine Blk.drewN ?_) | (with_reducible refine Blk.drew ?_) | (with_reducible refine Blk.other ?_ (by first | omega | (simp; done) | (simp; omega)))))
              · (repeat' (first | (with_reducible assumption) | ((with_reducible refine Blk.new ?_); first | rfl | (simp; done)) | (with_reducible refine Blk.later (by assumption) ?_) | (with_reducible refine Blk.alloc ?_) | (with_reducible refine Blk.drewN ?_) | (with_reducible refine Blk.drew ?_) | (with_reducible refine Blk.other ?_ (by first | omega | (simp; done) | (simp; omega)))))
              · exact Blk.set (fb4)
              · (repeat' (first | (with_reducible exact Below.refl _ _) | (with_reducible assumption) | (with_reducible refine belowThru ?_ (by assumption)) | (with_reducible refine belowAlloc ?_) | (with_reducible refine Below.setCell ?_ (by first | omega | (simp; done) | (simp; omega)) _) | (with_reducible refine Below.drew ?_) | (with_reducible refine below_drewN ?_ _)))
              · first | exact fL | (simp; omega)
              · intro _; rfl
            · exfalso; simp at hi1; omega
          case hfin =>
            intro a w9 hI
            obtain ⟨gg0, gg1, gg2, gg3, gg4, gg5, gg6, gg7, gg8, gg9, gg10, gg11, gg12, gg13, gg14, gg15, gg16, gg17, gg18, gg19, gg20, gg21, gg22, gg23, gg24, gg25, gg26, gg27, gg28, gg29, gg30, hL, rfl, fb0, fb1, fb2, fb3, fb4, fB, fL, h24_30⟩ := hI
            have hL2 : #[true, true, true, true, true, true, true, true, true, true, true, true, true, true, true, true, true, true, true, true, true, true, true, true, true, true, true, true, true, true, true] = #[gg0, gg1, gg2, gg3, gg4, gg5, gg6, gg7, gg8, gg9, gg10, gg11, gg12, gg13, gg14, gg15, gg16, gg17, gg18, gg19, gg20, gg21, gg22, gg23, gg24, gg25, gg26, gg27, gg28, gg29, gg30] := hL
            cases hL2
            simp only [Act.put, List.setIfInBounds_toArray, List.set_cons_zero, List.set_cons_succ]
            simp only [cond_true]
            simp only [cond_true] at fb4
            have fL2 : Blk w9 w2.heap.size (ints (LL.set p (u + t))) 3 := by rw [← ints_set]; exact fb4
            rw [HS.out] at fL2
            go_wp2
            go_roundw
            case rel => exact ⟨jj + 1, hlj, by go_num, fb0, fb1, fb2, fb3, fL2, fB⟩
            case measure => simp [intOf]; omega
        · have hje : jj = m := by omega
          subst hje
          have k4' : Blk wr (w2.heap.size) (ints (cOut AW BW KW xs ys M jj (ii + 1))) 3 := k4
          go_wp2
          go_roundw
          case rel => exact ⟨ii + 1, hlt, by go_num, k0, k1, k2, k3, k4', hB⟩
          case measure => simp [intOf]; omega
    · have hie : ii = n := by omega
      subst hie
      obtain ⟨L, hL⟩ : ∃ L, cOut AW BW KW xs ys M m ii = L := ⟨_, rfl⟩
      have hLl : L.length = M := by rw [← hL, cOut_length]
      rw [hL] at k4
      have HMC' : Hid (∀ p : Nat, p < M → ∃ u : Int, L[p]? = some u) := fun p hp => by rw [← hL]; exact HMC.out p hp
      have HZ' : Hid (Z = L.map (fun z => inR z (-65536) 65536)) := by rw [← hL]; exact HZ.out
      clear HMC HZ HF HU HG hL hi
      go_wp2
      go_loopw [13, 14, 101] (fun _ _ s9 wr => ∃ k : Nat, k ≤ M ∧ s9 = .int .i64 k ∧ Blk wr w.heap.size #[.int .i64 AW, .int .i64 AH, .slice a ii c] 36 ∧ Blk wr (w.heap.size + 1) #[.int .i64 BW, .int .i64 BH, .slice a' m c'] 36 ∧ Blk wr (w.heap.size + 1 + 1) #[.int .i64 0, .int .i64 0, .slice none 0 0] 36 ∧ Blk wr (w2.heap.size + 1) #[.int .i64 KW, .int .i64 KH, .slice (some ⟨w2.heap.size, 0, none⟩) M M] 36 ∧ Blk wr (w2.heap.size) (ints (mixd L k)) 3 ∧ Below w.heap.size w wr) (fun _ _ s9 _ => M - (intOf s9).toNat)
      case atStart => exact ⟨0, Nat.zero_le _, rfl, k0, k1, k2, k3, k4, hB⟩
      case round =>
        clear k0 k1 k2 k3 k4 a0 b0 a1 b1 a2 b2 a3 b3 a4 b4 hB
        obtain ⟨k, hk, rfl, k0, k1, k2, k3, k4, hB⟩ := hrel
        obtain ⟨a0, b0⟩ := k0.read; obtain ⟨a1, b1⟩ := k1.read; obtain ⟨a2, b2⟩ := k2.read; obtain ⟨a3, b3⟩ := k3.read; obtain ⟨a4, b4⟩ := k4.read
        have y3 := k3.lt; have y4 := k4.lt
        by_cases hlk : k < M
        · have q0 : (0 : Int) ≤ (k : Int) := by omega
          have q1 : (k : Int) < (M : Int) := by omega
          obtain ⟨u, hu⟩ := HMC'.out k hlk
          have hu' : (ints (mixd L k))[k]? = some (.int .i64 u) := by rw [ints_get, mixd_at L (by omega), hu]; rfl
          have HS : Hid ((mixd L k).set k (inR u (-65536) 65536) = mixd L (k + 1)) := mixd_set L hu
          clear hu
          go_wp2_with fail
          refine wp_region_held_drew (S := fun w' => (Blk w' (w2.heap.size + 1) #[.int .i64 KW, .int .i64 KH, .slice (some ⟨w2.heap.size, 0, none⟩) M M] 36 ∧ (∀ i : Nat, w'.cell? ⟨(w2.heap.size + 1), i, none⟩ = (#[.int .i64 KW, .int .i64 KH, .slice (some ⟨w2.heap.size, 0, none⟩) M M] : Array Value)[i]?)) ∧ Below w.heap.size w w') hmx ⟨k3.drew.full, hB.drew⟩ (fun hHeld => ?_)
          refine wpAnyH_take (i := 0) (v := ?_) rfl (by kernel_rfl) (by kernel_rfl) (by kernel_rfl) (fun _ _ _ h => h) (Or.inl ⟨by rfl, ?hT42⟩) (by assumption) ?_
          case hT42 => ((intro w hSw; (try dsimp only at hSw); go_simp); try (with_reducible rfl))
          try simp only [Act.put, List.setIfInBounds_toArray, List.set_cons_zero, List.set_cons_succ]
          refine wpAnyH_take (i := 1) (v := ?_) rfl (by kernel_rfl) (by kernel_rfl) (by kernel_rfl) (fun _ _ _ h => h) (Or.inl ⟨by rfl, ?hT43⟩) (by assumption) ?_
          case hT43 => ((intro w hSw; (try dsimp only at hSw); go_simp); try (with_reducible rfl))
          try simp only [Act.put, List.setIfInBounds_toArray, List.set_cons_zero, List.set_cons_succ]
          refine wpAnyH_take (i := 2) (v := ?_) rfl (by kernel_rfl) (by kernel_rfl) (by kernel_rfl) (fun _ _ _ h => h) (Or.inl ⟨by rfl, ?hT44⟩) (by assumption) ?_
          case hT44 => ((intro w hSw; (try dsimp only at hSw); go_simp); try (with_reducible rfl))
          try simp only [Act.put, List.setIfInBounds_toArray, List.set_cons_zero, List.set_cons_succ]
          refine wpAnyH_take (i := 3) (v := ?_) rfl (by kernel_rfl) (by kernel_rfl) (by kernel_rfl) (fun _ _ _ h => h) (Or.inl ⟨by rfl, ?hT45⟩) (by assumption) ?_
          case hT45 => ((intro w hSw; (try dsimp only at hSw); go_simp); try (with_reducible rfl))
          try simp only [Act.put, List.setIfInBounds_toArray, List.set_cons_zero, List.set_cons_succ]
          refine wpAnyH_ready (rs := [4]) (by kernel_rfl) (by simp) ?_
          refine AllReadyH.cons rfl (fun K hK => ?_) AllReadyH.nil
          go_simp
          (go_at_call 55; (with_reducible refine (bring_any _ _ _ _).mono ?_); rintro e w1 ⟨rfl, rfl⟩)
          refine hK.out _ _ ?_ (fun hHeldN => ?_)
          · (try dsimp only); (((first | (apply hold1; (focus assumption); intro p0 pB) | skip); refine ⟨Blk.full ?_, ?_⟩; all_goals (first | ((repeat' (first | (with_reducible assumption) | ((with_reducible refine Blk.new ?_); first | rfl | (simp; done)) | (with_reducible refine Blk.later (by assumption) ?_) | (with_reducible refine Blk.alloc ?_) | (with_reducible refine Blk.drewN ?_) | (with_reducible refine Blk.drew ?_) | (with_reducible refine Blk.other ?_ (by first | omega | (simp; done) | (simp; omega))))); done) | ((repeat' (first | (with_reducible exact Below.refl _ _) | (with_reducible assumption) | (with_reducible refine belowThru ?_ (by assumption)) | (with_reducible refine belowAlloc ?_) | (with_reducible refine Below.setCell ?_ (by first | omega | (simp; done) | (simp; omega)) _) | (with_reducible refine Below.drew ?_) | (with_reducible refine below_drewN ?_ _))); done))))
          clear hK K hHeld
          have hHeld := hHeldN
          clear hHeldN
          try simp only [Act.put, List.setIfInBounds_toArray, List.set_cons_zero, List.set_cons_succ]
          refine wpAnyH_take (i := 5) (v := ?_) rfl (by kernel_rfl) (by kernel_rfl) (by kernel_rfl) (fun _ _ _ h => h) (Or.inl ⟨by rfl, ?hT46⟩) (by assumption) ?_
          case hT46 => ((intro w hSw; (try dsimp only at hSw); go_simp); try (with_reducible rfl))
          try simp only [Act.put, List.setIfInBounds_toArray, List.set_cons_zero, List.set_cons_succ]
          refine wpAnyH_ready (rs := [6]) (by kernel_rfl) (by simp) ?_
          refine AllReadyH.cons rfl (fun K hK => ?_) AllReadyH.nil
          go_simp
          refine hK.out _ _ ?_ (fun hHeldN => ?_)
          · (try dsimp only); (((first | (apply hold1; (focus assumption); intro p0 pB) | skip); refine ⟨Blk.full ?_, ?_⟩; all_goals (first | ((repeat' (first | (with_reducible assumption) | ((with_reducible refine Blk.new ?_); first | rfl | (simp; done)) | (with_reducible refine Blk.later (by assumption) ?_) | (with_reducible refine Blk.alloc ?_) | (with_reducible refine Blk.drewN ?_) | (with_reducible refine Blk.drew ?_) | (with_reducible refine Blk.other ?_ (by first | omega | (simp; done) | (simp; omega))))); done) | ((repeat' (first | (with_reducible exact Below.refl _ _) | (with_reducible assumption) | (with_reducible refine belowThru ?_ (by assumption)) | (with_reducible refine belowAlloc ?_) | (with_reducible refine Below.setCell ?_ (by first | omega | (simp; done) | (simp; omega)) _) | (with_reducible refine Below.drew ?_) | (with_reducible refine below_drewN ?_ _))); done))))
          clear hK K hHeld
          have hHeld := hHeldN
          clear hHeldN
          try simp only [Act.put, List.setIfInBounds_toArray, List.set_cons_zero, List.set_cons_succ]
          refine wpAnyH_done (by kernel_rfl) ?_ _
          obtain ⟨⟨r3, -⟩, rB⟩ := hHeld
          have r4 := Blk.set (i := k) (v := .int .i64 (inR u (-65536) 65536)) k4.drew
          rw [ints_set, HS.out] at r4
          go_wp2
          go_roundw
          case rel => exact ⟨k + 1, hlk, by go_num, Blk.other k0.drew (by simp; omega), Blk.other k1.drew (by simp; omega), Blk.other k2.drew (by simp; omega), r3, r4, rB⟩
          case measure => simp [intOf]; omega
        · have hke : k = M := by omega
          subst hke
          have hLz : mixd L k = Z := by rw [← hLl, mixd_all]; exact HZ'.out.symm
          rw [hLz] at k4
          have hZl : Z.length = k := by rw [HZ'.out, List.length_map, hLl]
          go_wp2
          exact bodyPost_ret (v := .tuple #[.agg #[.int .i64 KW, .int .i64 KH, .slice (some ⟨w2.heap.size, 0, none⟩) k k], .int .i64 0]) (by simp only [results, Try.results22]; go_simp) rfl (RetI.made hZl (by omega) (by (repeat' (first | (with_reducible assumption) | ((with_reducible refine Blk.new ?_); first | rfl | (simp; done)) | (with_reducible refine Blk.later (by assumption) ?_) | (with_reducible refine Blk.alloc ?_) | (with_reducible refine Blk.drewN ?_) | (with_reducible refine Blk.drew ?_) | (with_reducible refine Blk.other ?_ (by first | omega | (simp; done) | (simp; omega)))))) (by (repeat' (first | (with_reducible exact Below.refl _ _) | (with_reducible assumption) | (with_reducible refine belowThru ?_ (by assumption)) | (with_reducible refine belowAlloc ?_) | (with_reducible refine Below.setCell ?_ (by first | omega | (simp; done) | (simp; omega)) _) | (with_reducible refine Below.drew ?_) | (with_reducible refine below_drewN ?_ _)))))
end Go.Proofs.Ytghmjdmiaajbnaa
