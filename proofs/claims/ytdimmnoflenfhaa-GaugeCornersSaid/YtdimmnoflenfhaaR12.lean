/-
  The texts that the laws of this seat share, merged: part 12.
-/
import Derived.BigQuiet
import Derived.Deep.CutBlock
import Derived.Deep.DeepCutAuto
import Derived.Deep.Draws
import Derived.Deep.LoopGhost
import Derived.Deep.QuietTactic
import Derived.Deep.RegionHeld3
import Derived.Deep.RegionLaw
import Derived.IntWalk
import Derived.Laws.AppendOwn
import Derived.Laws.Bits64b
import Derived.Lib.Hide
import Derived.Lib.ItoaNum
import Derived.LoopTactic
import Derived.OneCell
import Derived.Orders
import Derived.Shelf.Bits.Mul64
import Derived.Shelf.Small.Bits
import Derived.Shelf.Spec.BitsCarry
import Derived.Shelf.Strconv.Itoa0
import Derived.Test.YtdimmnoflenfhaaProg
import Derived.WalkKit
import Derived.WalkLawsBesides
import Derived.WalkSmall
import Derived.WalkSpells
import Derived.Test.YtdimmnoflenfhaaR11
/-
  The document's own answers, layer 1: the enclosure of four numbers.
-/
namespace Go.Proofs.Ytdimmnoflenfhaa
open Go.RowKit
set_option linter.unusedVariables false
set_option linter.unusedSimpArgs false

/-- What holds of the region whichever operations have come up. -/
def RFour0 (m0 n0 m1 n1 m2 n2 m3 n3 r1 s1 t1 u1 r2 s2 t2 u2 r3 s3 t3 u3 r4 s4 t4 u4 : Int) (w : World) (i27 i28 i29 i30 i31 i32 i33 i34 i35 i36 i37 i38 i39 : Value) (b9 : Act) (L9 : Array Bool) (a9 : Act) (w9 : World) : Prop :=
  ∃ (gg0 gg1 gg2 gg3 gg4 gg5 gg6 gg7 gg8 gg9 gg10 gg11 gg12 gg13 : Bool), L9 = #[gg0, gg1, gg2, gg3, gg4, gg5, gg6, gg7, gg8, gg9, gg10, gg11, gg12, gg13] ∧ a9 = (((((((((((((b9).put (some 27) (cond gg0 (.pointer (some ⟨(w.heap.size + 1 + 1 + 1), 0, none⟩)) (i27))).put (some 28) (cond gg1 (.agg #[.int .i64 m0, .int .i64 n0]) (i28))).put (some 29) (cond gg2 (.int .i64 0) (i29))).put (some 30) (cond gg3 (.pointer (some ⟨w.heap.size, 0, none⟩)) (i30))).put (some 31) (cond gg4 (.agg #[.int .i64 m0, .int .i64 n0]) (i31))).put (some 32) (cond gg5 (.agg #[.int .i64 r1, .int .i64 s1]) (i32))).put (some 33) (cond gg6 (.pointer (some ⟨(w.heap.size + 1 + 1 + 1), 2, none⟩)) (i33))).put (some 34) (cond gg7 (.agg #[.int .i64 m0, .int .i64 n0]) (i34))).put (some 35) (cond gg8 (.int .i64 0) (i35))).put (some 36) (cond gg9 (.pointer (some ⟨w.heap.size, 0, none⟩)) (i36))).put (some 37) (cond gg10 (.agg #[.int .i64 m0, .int .i64 n0]) (i37))).put (some 38) (cond gg11 (.agg #[.int .i64 t1, .int .i64 u1]) (i38))).put (some 39) (cond gg12 (.agg #[.int .i64 r1, .int .i64 s1, .int .i64 t1, .int .i64 u1]) (i39)) ∧ Blk w9 w.heap.size #[.int .i64 m0, .int .i64 n0, .int .i64 m1, .int .i64 n1, .int .i64 m2, .int .i64 n2, .int .i64 m3, .int .i64 n3] 99 ∧ Blk w9 (w.heap.size + 1 + 1) #[.int .i64 0, .int .i64 0, .int .i64 0, .int .i64 0] 30 ∧ Blk w9 (w.heap.size + 1 + 1 + 1) (cond gg13 #[.int .i64 r1, .int .i64 s1, .int .i64 t1, .int .i64 u1] #[.int .i64 m0, .int .i64 n0, .int .i64 m0, .int .i64 n0]) 30 ∧ Below w.heap.size w w9 ∧ (w.heap.size + 1 + 1 + 1 + 1) ≤ w9.heap.size ∧ (gg13 = true → gg1 = true) ∧ (gg13 = true → gg7 = true)

/-- What holds of the region whichever operations have come up. -/
def RFour1 (m0 n0 m1 n1 m2 n2 m3 n3 r1 s1 t1 u1 r2 s2 t2 u2 r3 s3 t3 u3 r4 s4 t4 u4 : Int) (w : World) (i27 i28 i29 i30 i31 i32 i33 i34 i35 i36 i37 i38 i39 : Value) (b9 : Act) (L9 : Array Bool) (a9 : Act) (w9 : World) : Prop :=
  ∃ (gg0 gg1 gg2 gg3 gg4 gg5 gg6 gg7 gg8 gg9 gg10 gg11 gg12 gg13 : Bool), L9 = #[gg0, gg1, gg2, gg3, gg4, gg5, gg6, gg7, gg8, gg9, gg10, gg11, gg12, gg13] ∧ a9 = (((((((((((((b9).put (some 27) (cond gg0 (.pointer (some ⟨(w.heap.size + 1 + 1 + 1), 0, none⟩)) (i27))).put (some 28) (cond gg1 (.agg #[.int .i64 r1, .int .i64 s1]) (i28))).put (some 29) (cond gg2 (.int .i64 1) (i29))).put (some 30) (cond gg3 (.pointer (some ⟨w.heap.size, 2, none⟩)) (i30))).put (some 31) (cond gg4 (.agg #[.int .i64 m1, .int .i64 n1]) (i31))).put (some 32) (cond gg5 (.agg #[.int .i64 r2, .int .i64 s2]) (i32))).put (some 33) (cond gg6 (.pointer (some ⟨(w.heap.size + 1 + 1 + 1), 2, none⟩)) (i33))).put (some 34) (cond gg7 (.agg #[.int .i64 t1, .int .i64 u1]) (i34))).put (some 35) (cond gg8 (.int .i64 1) (i35))).put (some 36) (cond gg9 (.pointer (some ⟨w.heap.size, 2, none⟩)) (i36))).put (some 37) (cond gg10 (.agg #[.int .i64 m1, .int .i64 n1]) (i37))).put (some 38) (cond gg11 (.agg #[.int .i64 t2, .int .i64 u2]) (i38))).put (some 39) (cond gg12 (.agg #[.int .i64 r2, .int .i64 s2, .int .i64 t2, .int .i64 u2]) (i39)) ∧ Blk w9 w.heap.size #[.int .i64 m0, .int .i64 n0, .int .i64 m1, .int .i64 n1, .int .i64 m2, .int .i64 n2, .int .i64 m3, .int .i64 n3] 99 ∧ Blk w9 (w.heap.size + 1 + 1) #[.int .i64 0, .int .i64 0, .int .i64 0, .int .i64 0] 30 ∧ Blk w9 (w.heap.size + 1 + 1 + 1) (cond gg13 #[.int .i64 r2, .int .i64 s2, .int .i64 t2, .int .i64 u2] #[.int .i64 r1, .int .i64 s1, .int .i64 t1, .int .i64 u1]) 30 ∧ Below w.heap.size w w9 ∧ (w.heap.size + 1 + 1 + 1 + 1) ≤ w9.heap.size ∧ (gg13 = true → gg1 = true) ∧ (gg13 = true → gg7 = true)

/-- What holds of the region whichever operations have come up. -/
def RFour2 (m0 n0 m1 n1 m2 n2 m3 n3 r1 s1 t1 u1 r2 s2 t2 u2 r3 s3 t3 u3 r4 s4 t4 u4 : Int) (w : World) (i27 i28 i29 i30 i31 i32 i33 i34 i35 i36 i37 i38 i39 : Value) (b9 : Act) (L9 : Array Bool) (a9 : Act) (w9 : World) : Prop :=
  ∃ (gg0 gg1 gg2 gg3 gg4 gg5 gg6 gg7 gg8 gg9 gg10 gg11 gg12 gg13 : Bool), L9 = #[gg0, gg1, gg2, gg3, gg4, gg5, gg6, gg7, gg8, gg9, gg10, gg11, gg12, gg13] ∧ a9 = (((((((((((((b9).put (some 27) (cond gg0 (.pointer (some ⟨(w.heap.size + 1 + 1 + 1), 0, none⟩)) (i27))).put (some 28) (cond gg1 (.agg #[.int .i64 r2, .int .i64 s2]) (i28))).put (some 29) (cond gg2 (.int .i64 2) (i29))).put (some 30) (cond gg3 (.pointer (some ⟨w.heap.size, 4, none⟩)) (i30))).put (some 31) (cond gg4 (.agg #[.int .i64 m2, .int .i64 n2]) (i31))).put (some 32) (cond gg5 (.agg #[.int .i64 r3, .int .i64 s3]) (i32))).put (some 33) (cond gg6 (.pointer (some ⟨(w.heap.size + 1 + 1 + 1), 2, none⟩)) (i33))).put (some 34) (cond gg7 (.agg #[.int .i64 t2, .int .i64 u2]) (i34))).put (some 35) (cond gg8 (.int .i64 2) (i35))).put (some 36) (cond gg9 (.pointer (some ⟨w.heap.size, 4, none⟩)) (i36))).put (some 37) (cond gg10 (.agg #[.int .i64 m2, .int .i64 n2]) (i37))).put (some 38) (cond gg11 (.agg #[.int .i64 t3, .int .i64 u3]) (i38))).put (some 39) (cond gg12 (.agg #[.int .i64 r3, .int .i64 s3, .int .i64 t3, .int .i64 u3]) (i39)) ∧ Blk w9 w.heap.size #[.int .i64 m0, .int .i64 n0, .int .i64 m1, .int .i64 n1, .int .i64 m2, .int .i64 n2, .int .i64 m3, .int .i64 n3] 99 ∧ Blk w9 (w.heap.size + 1 + 1) #[.int .i64 0, .int .i64 0, .int .i64 0, .int .i64 0] 30 ∧ Blk w9 (w.heap.size + 1 + 1 + 1) (cond gg13 #[.int .i64 r3, .int .i64 s3, .int .i64 t3, .int .i64 u3] #[.int .i64 r2, .int .i64 s2, .int .i64 t2, .int .i64 u2]) 30 ∧ Below w.heap.size w w9 ∧ (w.heap.size + 1 + 1 + 1 + 1) ≤ w9.heap.size ∧ (gg13 = true → gg1 = true) ∧ (gg13 = true → gg7 = true)

/-- What holds of the region whichever operations have come up. -/
def RFour3 (m0 n0 m1 n1 m2 n2 m3 n3 r1 s1 t1 u1 r2 s2 t2 u2 r3 s3 t3 u3 r4 s4 t4 u4 : Int) (w : World) (i27 i28 i29 i30 i31 i32 i33 i34 i35 i36 i37 i38 i39 : Value) (b9 : Act) (L9 : Array Bool) (a9 : Act) (w9 : World) : Prop :=
  ∃ (gg0 gg1 gg2 gg3 gg4 gg5 gg6 gg7 gg8 gg9 gg10 gg11 gg12 gg13 : Bool), L9 = #[gg0, gg1, gg2, gg3, gg4, gg5, gg6, gg7, gg8, gg9, gg10, gg11, gg12, gg13] ∧ a9 = (((((((((((((b9).put (some 27) (cond gg0 (.pointer (some ⟨(w.heap.size + 1 + 1 + 1), 0, none⟩)) (i27))).put (some 28) (cond gg1 (.agg #[.int .i64 r3, .int .i64 s3]) (i28))).put (some 29) (cond gg2 (.int .i64 3) (i29))).put (some 30) (cond gg3 (.pointer (some ⟨w.heap.size, 6, none⟩)) (i30))).put (some 31) (cond gg4 (.agg #[.int .i64 m3, .int .i64 n3]) (i31))).put (some 32) (cond gg5 (.agg #[.int .i64 r4, .int .i64 s4]) (i32))).put (some 33) (cond gg6 (.pointer (some ⟨(w.heap.size + 1 + 1 + 1), 2, none⟩)) (i33))).put (some 34) (cond gg7 (.agg #[.int .i64 t3, .int .i64 u3]) (i34))).put (some 35) (cond gg8 (.int .i64 3) (i35))).put (some 36) (cond gg9 (.pointer (some ⟨w.heap.size, 6, none⟩)) (i36))).put (some 37) (cond gg10 (.agg #[.int .i64 m3, .int .i64 n3]) (i37))).put (some 38) (cond gg11 (.agg #[.int .i64 t4, .int .i64 u4]) (i38))).put (some 39) (cond gg12 (.agg #[.int .i64 r4, .int .i64 s4, .int .i64 t4, .int .i64 u4]) (i39)) ∧ Blk w9 w.heap.size #[.int .i64 m0, .int .i64 n0, .int .i64 m1, .int .i64 n1, .int .i64 m2, .int .i64 n2, .int .i64 m3, .int .i64 n3] 99 ∧ Blk w9 (w.heap.size + 1 + 1) #[.int .i64 0, .int .i64 0, .int .i64 0, .int .i64 0] 30 ∧ Blk w9 (w.heap.size + 1 + 1 + 1) (cond gg13 #[.int .i64 r4, .int .i64 s4, .int .i64 t4, .int .i64 u4] #[.int .i64 r3, .int .i64 s3, .int .i64 t3, .int .i64 u3]) 30 ∧ Below w.heap.size w w9 ∧ (w.heap.size + 1 + 1 + 1 + 1) ≤ w9.heap.size ∧ (gg13 = true → gg1 = true) ∧ (gg13 = true → gg7 = true)

set_option maxRecDepth 100000 in
set_option maxHeartbeats 8000000 in
set_option linter.unusedSimpArgs false in
theorem four_yes (m0 n0 m1 n1 m2 n2 m3 n3 r1 s1 t1 u1 r2 s2 t2 u2 r3 s3 t3 u3 r4 s4 t4 u4 : Int) (w : World)
    (HL0 : Hid (∀ w, Calls Try.prog 122 #[.agg #[.int .i64 m0, .int .i64 n0], .agg #[.int .i64 m0, .int .i64 n0]] w fun e w' => e = .returned (.agg #[.int .i64 r1, .int .i64 s1]) ∧ Below w.heap.size w w'))
    (HM0 : Hid (∀ w, Calls Try.prog 123 #[.agg #[.int .i64 m0, .int .i64 n0], .agg #[.int .i64 m0, .int .i64 n0]] w fun e w' => e = .returned (.agg #[.int .i64 t1, .int .i64 u1]) ∧ Below w.heap.size w w'))
    (HL1 : Hid (∀ w, Calls Try.prog 122 #[.agg #[.int .i64 r1, .int .i64 s1], .agg #[.int .i64 m1, .int .i64 n1]] w fun e w' => e = .returned (.agg #[.int .i64 r2, .int .i64 s2]) ∧ Below w.heap.size w w'))
    (HM1 : Hid (∀ w, Calls Try.prog 123 #[.agg #[.int .i64 t1, .int .i64 u1], .agg #[.int .i64 m1, .int .i64 n1]] w fun e w' => e = .returned (.agg #[.int .i64 t2, .int .i64 u2]) ∧ Below w.heap.size w w'))
    (HL2 : Hid (∀ w, Calls Try.prog 122 #[.agg #[.int .i64 r2, .int .i64 s2], .agg #[.int .i64 m2, .int .i64 n2]] w fun e w' => e = .returned (.agg #[.int .i64 r3, .int .i64 s3]) ∧ Below w.heap.size w w'))
    (HM2 : Hid (∀ w, Calls Try.prog 123 #[.agg #[.int .i64 t2, .int .i64 u2], .agg #[.int .i64 m2, .int .i64 n2]] w fun e w' => e = .returned (.agg #[.int .i64 t3, .int .i64 u3]) ∧ Below w.heap.size w w'))
    (HL3 : Hid (∀ w, Calls Try.prog 122 #[.agg #[.int .i64 r3, .int .i64 s3], .agg #[.int .i64 m3, .int .i64 n3]] w fun e w' => e = .returned (.agg #[.int .i64 r4, .int .i64 s4]) ∧ Below w.heap.size w w'))
    (HM3 : Hid (∀ w, Calls Try.prog 123 #[.agg #[.int .i64 t3, .int .i64 u3], .agg #[.int .i64 m3, .int .i64 n3]] w fun e w' => e = .returned (.agg #[.int .i64 t4, .int .i64 u4]) ∧ Below w.heap.size w w')) :
    Calls Try.prog 98 #[.agg #[.int .i64 m0, .int .i64 n0, .int .i64 m1, .int .i64 n1, .int .i64 m2, .int .i64 n2, .int .i64 m3, .int .i64 n3], .agg #[.bool true, .bool true, .bool true, .bool true]] w fun e w' => e = .returned (.tuple #[.agg #[.int .i64 r4, .int .i64 s4, .int .i64 t4, .int .i64 u4], .int .i64 0]) ∧ Below w.heap.size w w' := by
  obtain ⟨F, hF0, hF1, hF2, hF3, hF4⟩ : ∃ F : Int → Array Value, F 0 = #[.int .i64 m0, .int .i64 n0, .int .i64 m0, .int .i64 n0] ∧ F 1 = #[.int .i64 r1, .int .i64 s1, .int .i64 t1, .int .i64 u1] ∧ F 2 = #[.int .i64 r2, .int .i64 s2, .int .i64 t2, .int .i64 u2] ∧ F 3 = #[.int .i64 r3, .int .i64 s3, .int .i64 t3, .int .i64 u3] ∧ F 4 = #[.int .i64 r4, .int .i64 s4, .int .i64 t4, .int .i64 u4] :=
    ⟨fun k => if k = 0 then #[.int .i64 m0, .int .i64 n0, .int .i64 m0, .int .i64 n0] else if k = 1 then #[.int .i64 r1, .int .i64 s1, .int .i64 t1, .int .i64 u1] else if k = 2 then #[.int .i64 r2, .int .i64 s2, .int .i64 t2, .int .i64 u2] else if k = 3 then #[.int .i64 r3, .int .i64 s3, .int .i64 t3, .int .i64 u3] else #[.int .i64 r4, .int .i64 s4, .int .i64 t4, .int .i64 u4], rfl, rfl, rfl, rfl, rfl⟩
  go_enter Try.func98, Try.ntmps98
  go_wp2
  go_loopw [7] (fun i wr => ∃ k : Int, (0 ≤ k ∧ k ≤ 4) ∧ i = .int .i64 k ∧ Blk wr w.heap.size #[.int .i64 m0, .int .i64 n0, .int .i64 m1, .int .i64 n1, .int .i64 m2, .int .i64 n2, .int .i64 m3, .int .i64 n3] 99 ∧ Blk wr (w.heap.size + 1) #[.bool true, .bool true, .bool true, .bool true] 122 ∧ Blk wr (w.heap.size + 1 + 1) #[.int .i64 0, .int .i64 0, .int .i64 0, .int .i64 0] 30 ∧ Blk wr (w.heap.size + 1 + 1 + 1) #[.int .i64 m0, .int .i64 n0, .int .i64 m0, .int .i64 n0] 30 ∧ Below w.heap.size w wr) (fun i _ => 4 - (intOf i).toNat)
  case atStart => exact ⟨0, by omega, rfl, by (repeat' (first | (with_reducible assumption) | ((with_reducible refine Blk.new ?_); first | rfl | (simp; done)) | (with_reducible refine Blk.later (by assumption) ?_) | (with_reducible refine Blk.alloc ?_) | (with_reducible refine Blk.drewN ?_) | (with_reducible refine Blk.drew ?_) | (with_reducible refine Blk.other ?_ (by first | omega | (simp; done) | (simp; omega))))), by (repeat' (first | (with_reducible assumption) | ((with_reducible refine Blk.new ?_); first | rfl | (simp; done)) | (with_reducible refine Blk.later (by assumption) ?_) | (with_reducible refine Blk.alloc ?_) | (with_reducible refine Blk.drewN ?_) | (with_reducible refine Blk.drew ?_) | (with_reducible refine Blk.other ?_ (by first | omega | (simp; done) | (simp; omega))))), by (repeat' (first | (with_reducible assumption) | ((with_reducible refine Blk.new ?_); first | rfl | (simp; done)) | (with_reducible refine Blk.later (by assumption) ?_) | (with_reducible refine Blk.alloc ?_) | (with_reducible refine Blk.drewN ?_) | (with_reducible refine Blk.drew ?_) | (with_reducible refine Blk.other ?_ (by first | omega | (simp; done) | (simp; omega))))), by (repeat' (first | (with_reducible assumption) | ((with_reducible refine Blk.new ?_); first | rfl | (simp; done)) | (with_reducible refine Blk.later (by assumption) ?_) | (with_reducible refine Blk.alloc ?_) | (with_reducible refine Blk.drewN ?_) | (with_reducible refine Blk.drew ?_) | (with_reducible refine Blk.other ?_ (by first | omega | (simp; done) | (simp; omega))))), by (repeat' (first | (with_reducible exact Below.refl _ _) | (with_reducible assumption) | (with_reducible refine belowThru ?_ (by assumption)) | (with_reducible refine belowAlloc ?_) | (with_reducible refine Below.setCell ?_ (by first | omega | (simp; done) | (simp; omega)) _) | (with_reducible refine Below.drew ?_) | (with_reducible refine below_drewN ?_ _)))⟩
  case round =>
    obtain ⟨k, hk, rfl, kA, kB, kC, kD, hB⟩ := hrel
    obtain ⟨aA, bA⟩ := kA.read; obtain ⟨aB, bB⟩ := kB.read; obtain ⟨aC, bC⟩ := kC.read; obtain ⟨aD, bD⟩ := kD.read
    have hc : (k = 0 ∨ k = 1 ∨ k = 2 ∨ k = 3) ∨ k = 4 := by omega
    rcases hc with hc | rfl
    · clear HL0 HL1 HL2 HL3 HM0 HM1 HM2 HM3
      rcases hc with rfl | rfl | rfl | rfl
      all_goals
        go_wp2_with fail
        go_roundw
        case rel => first | exact ⟨1, by omega, rfl, kA, kB, kC, kD, hB⟩ | exact ⟨2, by omega, rfl, kA, kB, kC, kD, hB⟩ | exact ⟨3, by omega, rfl, kA, kB, kC, kD, hB⟩ | exact ⟨4, by omega, rfl, kA, kB, kC, kD, hB⟩
        case measure => simp [intOf]
    · clear kB aB bB
      go_wp2
      go_loopw [8] (fun i wr => ∃ k : Int, (0 ≤ k ∧ k ≤ 4) ∧ i = .int .i64 k ∧ Blk wr (w.heap.size + 1 + 1 + 1) (F k) 30 ∧ Blk wr w.heap.size #[.int .i64 m0, .int .i64 n0, .int .i64 m1, .int .i64 n1, .int .i64 m2, .int .i64 n2, .int .i64 m3, .int .i64 n3] 99 ∧ Blk wr (w.heap.size + 1 + 1) #[.int .i64 0, .int .i64 0, .int .i64 0, .int .i64 0] 30 ∧ Below w.heap.size w wr) (fun i _ => 4 - (intOf i).toNat)
      case atStart => exact ⟨0, by omega, rfl, by rw [hF0]; exact kD, kA, kC, hB⟩
      case round =>
        clear kA kC kD hB aA bA aC bC aD bD
        obtain ⟨k, hk, rfl, kD, kA, kC, hB⟩ := hrel
        obtain ⟨aA, bA⟩ := kA.read; obtain ⟨aC, bC⟩ := kC.read; obtain ⟨aD, bD⟩ := kD.read
        have zzA := kA.lt; have zzC := kC.lt; have zzD := kD.lt
        have hc : (k = 0 ∨ k = 1 ∨ k = 2 ∨ k = 3) ∨ k = 4 := by omega
        rcases hc with hc | rfl
        · rcases hc with rfl | rfl | rfl | rfl
          · rw [hF0] at kD aD
            go_upto_region 10 with fail
            refine wp_region_inv (RFour0 m0 n0 m1 n1 m2 n2 m3 n3 r1 s1 t1 u1 r2 s2 t2 u2 r3 s3 t3 u3 r4 s4 t4 u4 w ?i27 ?i28 ?i29 ?i30 ?i31 ?i32 ?i33 ?i34 ?i35 ?i36 ?i37 ?i38 ?i39) (by kernel_rfl) (by kernel_rfl) ?hsz ?hst ?hstep ?hfin
            case hst =>
              unfold RFour0
              refine ⟨false, false, false, false, false, false, false, false, false, false, false, false, false, false, rfl, ?_, ?_, ?_, ?_, ?_, ?_, ?_, ?_⟩
              · first | (simp only [Act.put, List.setIfInBounds_toArray, List.set_cons_zero, List.set_cons_succ, cond_false]; done) | (simp only [Act.put, List.setIfInBounds_toArray, List.set_cons_zero, List.set_cons_succ, cond_false]; rfl)
              all_goals (first | (intro h; cases h; done) | ((repeat' (first | (with_reducible assumption) | ((with_reducible refine Blk.new ?_); first | rfl | (simp; done)) | (with_reducible refine Blk.later (by assumption) ?_) | (with_reducible refine Blk.alloc ?_) | (with_reducible refine Blk.drewN ?_) | (with_reducible refine Blk.drew ?_) | (with_reducible refine Blk.other ?_ (by first | omega | (simp; done) | (simp; omega))))); done) | ((repeat' (first | (with_reducible exact Below.refl _ _) | (with_reducible assumption) | (with_reducible refine belowThru ?_ (by assumption)) | (with_reducible refine belowAlloc ?_) | (with_reducible refine Below.setCell ?_ (by first | omega | (simp; done) | (simp; omega)) _) | (with_reducible refine Below.drew ?_) | (with_reducible refine below_drewN ?_ _))); done) | (simp only [cond_false]; (repeat' (first | (with_reducible assumption) | ((with_reducible refine Blk.new ?_); first | rfl | (simp; done)) | (with_reducible refine Blk.later (by assumption) ?_) | (with_reducible refine Blk.alloc ?_) | (with_reducible refine Blk.drewN ?_) | (with_reducible refine Blk.drew ?_) | (with_reducible refine Blk.other ?_ (by first | omega | (simp; done) | (simp; omega))))); done) | (simp only [World.size_drew]; omega) | (simp only [World.size_drew] at *; omega) | (simp; done) | (simp; omega))
            case hsz =>
              intro L a w9 h
              obtain ⟨gg0, gg1, gg2, gg3, gg4, gg5, gg6, gg7, gg8, gg9, gg10, gg11, gg12, gg13, rfl, -⟩ := h; rfl
            case hstep =>
              intro L a w9 hI i hi
              obtain ⟨gg0, gg1, gg2, gg3, gg4, gg5, gg6, gg7, gg8, gg9, gg10, gg11, gg12, gg13, rfl, rfl, fb0, fb1, fb2, fB, fL, h1_13, h7_13⟩ := hI
              obtain ⟨hi1, hi2, o, ho, hall⟩ := inv_mem hi
              clear hi
              rcases i with _ | _ | _ | _ | _ | _ | _ | _ | _ | _ | _ | _ | _ | _ | i
              · have ge0 : gg0 = false := hi2
                clear hall hi1 hi2
                subst ge0
                have ho2 := ho
                simp only [List.getElem?_toArray, List.getElem?_cons_zero, List.getElem?_cons_succ] at ho2
                have ho3 := Option.some.inj ho2; clear ho2; subst ho3
                obtain ⟨ba0, bb0⟩ := fb0.read; have bl0 := fb0.lt
                obtain ⟨ba1, bb1⟩ := fb1.read; have bl1 := fb1.lt
                simp only [Act.put, List.setIfInBounds_toArray, List.set_cons_zero, List.set_cons_succ]
                simp only [cond_true, cond_false]
                refine inv_op ho (by kernel_rfl) (fun K hK => ?_)
                clear ho
                go_simp
                refine hK.out _ _ ?_
                unfold RFour0
                refine ⟨true, gg1, gg2, gg3, gg4, gg5, gg6, gg7, gg8, gg9, gg10, gg11, gg12, gg13, rfl, by simp only [Act.put, List.setIfInBounds_toArray, List.set_cons_zero, List.set_cons_succ, cond_true, cond_false, Bool.cond_self], ?_, ?_, ?_, ?_, ?_, ?_, ?_⟩
                · exact fb0
                · exact fb1
                · exact fb2
                · exact fB
                · exact fL
                · exact h1_13
                · exact h7_13
              · have ge1 : gg1 = false := hi2
                have ge0 : gg0 = true := inv_dep ho hall 0 (by kernel_rfl)
                clear hall hi1 hi2
                subst ge1 ge0
                have ho2 := ho
                simp only [List.getElem?_toArray, List.getElem?_cons_zero, List.getElem?_cons_succ] at ho2
                have ho3 := Option.some.inj ho2; clear ho2; subst ho3
                obtain ⟨ba0, bb0⟩ := fb0.read; have bl0 := fb0.lt
                obtain ⟨ba1, bb1⟩ := fb1.read; have bl1 := fb1.lt
                obtain rfl : gg13 = false := by cases gg13; rfl; exact Bool.noConfusion (h1_13 rfl)
                simp only [cond_true, cond_false] at fb2
                obtain ⟨ba9, bb9⟩ := fb2.read
                simp only [Act.put, List.setIfInBounds_toArray, List.set_cons_zero, List.set_cons_succ]
                simp only [cond_true, cond_false]
                refine inv_op ho (by kernel_rfl) (fun K hK => ?_)
                clear ho
                go_simp
                refine hK.out _ _ ?_
                unfold RFour0
                refine ⟨true, true, gg2, gg3, gg4, gg5, gg6, gg7, gg8, gg9, gg10, gg11, gg12, false, rfl, by simp only [Act.put, List.setIfInBounds_toArray, List.set_cons_zero, List.set_cons_succ, cond_true, cond_false, Bool.cond_self], ?_, ?_, ?_, ?_, ?_, ?_, ?_⟩
                · exact fb0
                · exact fb1
                · exact fb2
                · exact fB
                · exact fL
                · intro _; rfl
                · intro h; cases h
              · have ge2 : gg2 = false := hi2
                clear hall hi1 hi2
                subst ge2
                have ho2 := ho
                simp only [List.getElem?_toArray, List.getElem?_cons_zero, List.getElem?_cons_succ] at ho2
                have ho3 := Option.some.inj ho2; clear ho2; subst ho3
                obtain ⟨ba0, bb0⟩ := fb0.read; have bl0 := fb0.lt
                obtain ⟨ba1, bb1⟩ := fb1.read; have bl1 := fb1.lt
                simp only [Act.put, List.setIfInBounds_toArray, List.set_cons_zero, List.set_cons_succ]
                simp only [cond_true, cond_false]
                refine inv_op ho (by kernel_rfl) (fun K hK => ?_)
                clear ho
                go_simp
                refine hK.out _ _ ?_
                unfold RFour0
                refine ⟨gg0, gg1, true, gg3, gg4, gg5, gg6, gg7, gg8, gg9, gg10, gg11, gg12, gg13, rfl, by simp only [Act.put, List.setIfInBounds_toArray, List.set_cons_zero, List.set_cons_succ, cond_true, cond_false, Bool.cond_self], ?_, ?_, ?_, ?_, ?_, ?_, ?_⟩
                · exact fb0
                · exact fb1
                · exact fb2
                · exact fB
                · exact fL
                · exact h1_13
                · exact h7_13
              · have ge3 : gg3 = false := hi2
                have ge2 : gg2 = true := inv_dep ho hall 2 (by kernel_rfl)
                clear hall hi1 hi2
                subst ge3 ge2
                have ho2 := ho
                simp only [List.getElem?_toArray, List.getElem?_cons_zero, List.getElem?_cons_succ] at ho2
                have ho3 := Option.some.inj ho2; clear ho2; subst ho3
                obtain ⟨ba0, bb0⟩ := fb0.read; have bl0 := fb0.lt
                obtain ⟨ba1, bb1⟩ := fb1.read; have bl1 := fb1.lt
                simp only [Act.put, List.setIfInBounds_toArray, List.set_cons_zero, List.set_cons_succ]
                simp only [cond_true, cond_false]
                refine inv_op ho (by kernel_rfl) (fun K hK => ?_)
                clear ho
                go_simp
                refine hK.out _ _ ?_
                unfold RFour0
                refine ⟨gg0, gg1, true, true, gg4, gg5, gg6, gg7, gg8, gg9, gg10, gg11, gg12, gg13, rfl, by simp only [Act.put, List.setIfInBounds_toArray, List.set_cons_zero, List.set_cons_succ, cond_true, cond_false, Bool.cond_self], ?_, ?_, ?_, ?_, ?_, ?_, ?_⟩
                · exact fb0
                · exact fb1
                · exact fb2
                · exact fB
                · exact fL
                · exact h1_13
                · exact h7_13
              · have ge4 : gg4 = false := hi2
                have ge3 : gg3 = true := inv_dep ho hall 3 (by kernel_rfl)
                clear hall hi1 hi2
                subst ge4 ge3
                have ho2 := ho
                simp only [List.getElem?_toArray, List.getElem?_cons_zero, List.getElem?_cons_succ] at ho2
                have ho3 := Option.some.inj ho2; clear ho2; subst ho3
                obtain ⟨ba0, bb0⟩ := fb0.read; have bl0 := fb0.lt
                obtain ⟨ba1, bb1⟩ := fb1.read; have bl1 := fb1.lt
                simp only [Act.put, List.setIfInBounds_toArray, List.set_cons_zero, List.set_cons_succ]
                simp only [cond_true, cond_false]
                refine inv_op ho (by kernel_rfl) (fun K hK => ?_)
                clear ho
                go_simp
                refine hK.out _ _ ?_
                unfold RFour0
                refine ⟨gg0, gg1, gg2, true, true, gg5, gg6, gg7, gg8, gg9, gg10, gg11, gg12, gg13, rfl, by simp only [Act.put, List.setIfInBounds_toArray, List.set_cons_zero, List.set_cons_succ, cond_true, cond_false, Bool.cond_self], ?_, ?_, ?_, ?_, ?_, ?_, ?_⟩
                · exact fb0
                · exact fb1
                · exact fb2
                · exact fB
                · exact fL
                · exact h1_13
                · exact h7_13
              · have ge5 : gg5 = false := hi2
                have ge1 : gg1 = true := inv_dep ho hall 1 (by kernel_rfl)
                have ge4 : gg4 = true := inv_dep ho hall 4 (by kernel_rfl)
                clear hall hi1 hi2
                subst ge5 ge1 ge4
                have ho2 := ho
                simp only [List.getElem?_toArray, List.getElem?_cons_zero, List.getElem?_cons_succ] at ho2
                have ho3 := Option.some.inj ho2; clear ho2; subst ho3
                obtain ⟨ba0, bb0⟩ := fb0.read; have bl0 := fb0.lt
                obtain ⟨ba1, bb1⟩ := fb1.read; have bl1 := fb1.lt
                simp only [Act.put, List.setIfInBounds_toArray, List.set_cons_zero, List.set_cons_succ]
                simp only [cond_true, cond_false]
                refine inv_op ho (by kernel_rfl) (fun K hK => ?_)
                clear ho
                go_simp
                go_at_call 122; (with_reducible refine (HL0.out _).mono ?_); rintro e w1 ⟨rfl, hb⟩
                refine hK.out _ _ ?_
                unfold RFour0
                refine ⟨gg0, true, gg2, gg3, true, true, gg6, gg7, gg8, gg9, gg10, gg11, gg12, gg13, rfl, by simp only [Act.put, List.setIfInBounds_toArray, List.set_cons_zero, List.set_cons_succ, cond_true, cond_false, Bool.cond_self], ?_, ?_, ?_, ?_, ?_, ?_, ?_⟩
                · exact Blk.later hb fb0
                · exact Blk.later hb fb1
                · exact Blk.later hb fb2
                · exact belowThru fB hb
                · have := hb.size; omega
                · intro _; rfl
                · exact h7_13
              · have ge6 : gg6 = false := hi2
                clear hall hi1 hi2
                subst ge6
                have ho2 := ho
                simp only [List.getElem?_toArray, List.getElem?_cons_zero, List.getElem?_cons_succ] at ho2
                have ho3 := Option.some.inj ho2; clear ho2; subst ho3
                obtain ⟨ba0, bb0⟩ := fb0.read; have bl0 := fb0.lt
                obtain ⟨ba1, bb1⟩ := fb1.read; have bl1 := fb1.lt
                simp only [Act.put, List.setIfInBounds_toArray, List.set_cons_zero, List.set_cons_succ]
                simp only [cond_true, cond_false]
                refine inv_op ho (by kernel_rfl) (fun K hK => ?_)
                clear ho
                go_simp
                refine hK.out _ _ ?_
                unfold RFour0
                refine ⟨gg0, gg1, gg2, gg3, gg4, gg5, true, gg7, gg8, gg9, gg10, gg11, gg12, gg13, rfl, by simp only [Act.put, List.setIfInBounds_toArray, List.set_cons_zero, List.set_cons_succ, cond_true, cond_false, Bool.cond_self], ?_, ?_, ?_, ?_, ?_, ?_, ?_⟩
                · exact fb0
                · exact fb1
                · exact fb2
                · exact fB
                · exact fL
                · exact h1_13
                · exact h7_13
              · have ge7 : gg7 = false := hi2
                have ge6 : gg6 = true := inv_dep ho hall 6 (by kernel_rfl)
                clear hall hi1 hi2
                subst ge7 ge6
                have ho2 := ho
                simp only [List.getElem?_toArray, List.getElem?_cons_zero, List.getElem?_cons_succ] at ho2
                have ho3 := Option.some.inj ho2; clear ho2; subst ho3
                obtain ⟨ba0, bb0⟩ := fb0.read; have bl0 := fb0.lt
                obtain ⟨ba1, bb1⟩ := fb1.read; have bl1 := fb1.lt
                obtain rfl : gg13 = false := by cases gg13; rfl; exact Bool.noConfusion (h7_13 rfl)
                simp only [cond_true, cond_false] at fb2
                obtain ⟨ba9, bb9⟩ := fb2.read
                simp only [Act.put, List.setIfInBounds_toArray, List.set_cons_zero, List.set_cons_succ]
                simp only [cond_true, cond_false]
                refine inv_op ho (by kernel_rfl) (fun K hK => ?_)
                clear ho
                go_simp
                refine hK.out _ _ ?_
                unfold RFour0
                refine ⟨gg0, gg1, gg2, gg3, gg4, gg5, true, true, gg8, gg9, gg10, gg11, gg12, false, rfl, by simp only [Act.put, List.setIfInBounds_toArray, List.set_cons_zero, List.set_cons_succ, cond_true, cond_false, Bool.cond_self], ?_, ?_, ?_, ?_, ?_, ?_, ?_⟩
                · exact fb0
                · exact fb1
                · exact fb2
                · exact fB
                · exact fL
                · intro h; cases h
                · intro _; rfl
              · have ge8 : gg8 = false := hi2
                clear hall hi1 hi2
                subst ge8
                have ho2 := ho
                simp only [List.getElem?_toArray, List.getElem?_cons_zero, List.getElem?_cons_succ] at ho2
                have ho3 := Option.some.inj ho2; clear ho2; subst ho3
                obtain ⟨ba0, bb0⟩ := fb0.read; have bl0 := fb0.lt
                obtain ⟨ba1, bb1⟩ := fb1.read; have bl1 := fb1.lt
                simp only [Act.put, List.setIfInBounds_toArray, List.set_cons_zero, List.set_cons_succ]
                simp only [cond_true, cond_false]
                refine inv_op ho (by kernel_rfl) (fun K hK => ?_)
                clear ho
                go_simp
                refine hK.out _ _ ?_
                unfold RFour0
                refine ⟨gg0, gg1, gg2, gg3, gg4, gg5, gg6, gg7, true, gg9, gg10, gg11, gg12, gg13, rfl, by simp only [Act.put, List.setIfInBounds_toArray, List.set_cons_zero, List.set_cons_succ, cond_true, cond_false, Bool.cond_self], ?_, ?_, ?_, ?_, ?_, ?_, ?_⟩
                · exact fb0
                · exact fb1
                · exact fb2
                · exact fB
                · exact fL
                · exact h1_13
                · exact h7_13
              · have ge9 : gg9 = false := hi2
                have ge8 : gg8 = true := inv_dep ho hall 8 (by kernel_rfl)
                clear hall hi1 hi2
                subst ge9 ge8
                have ho2 := ho
                simp only [List.getElem?_toArray, List.getElem?_cons_zero, List.getElem?_cons_succ] at ho2
                have ho3 := Option.some.inj ho2; clear ho2; subst ho3
                obtain ⟨ba0, bb0⟩ := fb0.read; have bl0 := fb0.lt
                obtain ⟨ba1, bb1⟩ := fb1.read; have bl1 := fb1.lt
                simp only [Act.put, List.setIfInBounds_toArray, List.set_cons_zero, List.set_cons_succ]
                simp only [cond_true, cond_false]
                refine inv_op ho (by kernel_rfl) (fun K hK => ?_)
                clear ho
                go_simp
                refine hK.out _ _ ?_
                unfold RFour0
                refine ⟨gg0, gg1, gg2, gg3, gg4, gg5, gg6, gg7, true, true, gg10, gg11, gg12, gg13, rfl, by simp only [Act.put, List.setIfInBounds_toArray, List.set_cons_zero, List.set_cons_succ, cond_true, cond_false, Bool.cond_self], ?_, ?_, ?_, ?_, ?_, ?_, ?_⟩
                · exact fb0
                · exact fb1
                · exact fb2
                · exact fB
                · exact fL
                · exact h1_13
                · exact h7_13
              · have ge10 : gg10 = false := hi2
                have ge9 : gg9 = true := inv_dep ho hall 9 (by kernel_rfl)
                clear hall hi1 hi2
                subst ge10 ge9
                have ho2 := ho
                simp only [List.getElem?_toArray, List.getElem?_cons_zero, List.getElem?_cons_succ] at ho2
                have ho3 := Option.some.inj ho2; clear ho2; subst ho3
                obtain ⟨ba0, bb0⟩ := fb0.read; have bl0 := fb0.lt
                obtain ⟨ba1, bb1⟩ := fb1.read; have bl1 := fb1.lt
                simp only [Act.put, List.setIfInBounds_toArray, List.set_cons_zero, List.set_cons_succ]
                simp only [cond_true, cond_false]
                refine inv_op ho (by kernel_rfl) (fun K hK => ?_)
                clear ho
                go_simp
                refine hK.out _ _ ?_
                unfold RFour0
                refine ⟨gg0, gg1, gg2, gg3, gg4, gg5, gg6, gg7, gg8, true, true, gg11, gg12, gg13, rfl, by simp only [Act.put, List.setIfInBounds_toArray, List.set_cons_zero, List.set_cons_succ, cond_true, cond_false, Bool.cond_self], ?_, ?_, ?_, ?_, ?_, ?_, ?_⟩
                · exact fb0
                · exact fb1
                · exact fb2
                · exact fB
                · exact fL
                · exact h1_13
                · exact h7_13
              · have ge11 : gg11 = false := hi2
                have ge7 : gg7 = true := inv_dep ho hall 7 (by kernel_rfl)
                have ge10 : gg10 = true := inv_dep ho hall 10 (by kernel_rfl)
                clear hall hi1 hi2
                subst ge11 ge7 ge10
                have ho2 := ho
                simp only [List.getElem?_toArray, List.getElem?_cons_zero, List.getElem?_cons_succ] at ho2
                have ho3 := Option.some.inj ho2; clear ho2; subst ho3
                obtain ⟨ba0, bb0⟩ := fb0.read; have bl0 := fb0.lt
                obtain ⟨ba1, bb1⟩ := fb1.read; have bl1 := fb1.lt
                simp only [Act.put, List.setIfInBounds_toArray, List.set_cons_zero, List.set_cons_succ]
                simp only [cond_true, cond_false]
                refine inv_op ho (by kernel_rfl) (fun K hK => ?_)
                clear ho
                go_simp
                go_at_call 123; (with_reducible refine (HM0.out _).mono ?_); rintro e w1 ⟨rfl, hb⟩
                refine hK.out _ _ ?_
                unfold RFour0
                refine ⟨gg0, gg1, gg2, gg3, gg4, gg5, gg6, true, gg8, gg9, true, true, gg12, gg13, rfl, by simp only [Act.put, List.setIfInBounds_toArray, List.set_cons_zero, List.set_cons_succ, cond_true, cond_false, Bool.cond_self], ?_, ?_, ?_, ?_, ?_, ?_, ?_⟩
                · exact Blk.later hb fb0
                · exact Blk.later hb fb1
                · exact Blk.later hb fb2
                · exact belowThru fB hb
                · have := hb.size; omega
                · exact h1_13
                · intro _; rfl
              · have ge12 : gg12 = false := hi2
                have ge5 : gg5 = true := inv_dep ho hall 5 (by kernel_rfl)
                have ge11 : gg11 = true := inv_dep ho hall 11 (by kernel_rfl)
                clear hall hi1 hi2
                subst ge12 ge5 ge11
                have ho2 := ho
                simp only [List.getElem?_toArray, List.getElem?_cons_zero, List.getElem?_cons_succ] at ho2
                have ho3 := Option.some.inj ho2; clear ho2; subst ho3
                obtain ⟨ba0, bb0⟩ := fb0.read; have bl0 := fb0.lt
                obtain ⟨ba1, bb1⟩ := fb1.read; have bl1 := fb1.lt
                simp only [Act.put, List.setIfInBounds_toArray, List.set_cons_zero, List.set_cons_succ]
                simp only [cond_true, cond_false]
                refine inv_op ho (by kernel_rfl) (fun K hK => ?_)
                clear ho
                go_simp
                refine hK.out _ _ ?_
                unfold RFour0
                refine ⟨gg0, gg1, gg2, gg3, gg4, true, gg6, gg7, gg8, gg9, gg10, true, true, gg13, rfl, by simp only [Act.put, List.setIfInBounds_toArray, List.set_cons_zero, List.set_cons_succ, cond_true, cond_false, Bool.cond_self], ?_, ?_, ?_, ?_, ?_, ?_, ?_⟩
                · exact fb0
                · exact fb1
                · exact fb2
                · exact fB
                · exact fL
                · exact h1_13
                · exact h7_13
              · have ge13 : gg13 = false := hi2
                have ge12 : gg12 = true := inv_dep ho hall 12 (by kernel_rfl)
                have ge1 : gg1 = true := inv_dep ho hall 1 (by kernel_rfl)
                have ge7 : gg7 = true := inv_dep ho hall 7 (by kernel_rfl)
                clear hall hi1 hi2
                subst ge13 ge12 ge1 ge7
                have ho2 := ho
                simp only [List.getElem?_toArray, List.getElem?_cons_zero, List.getElem?_cons_succ] at ho2
                have ho3 := Option.some.inj ho2; clear ho2; subst ho3
                simp only [cond_true, cond_false] at fb2
                obtain ⟨ba0, bb0⟩ := fb0.read; have bl0 := fb0.lt
                obtain ⟨ba1, bb1⟩ := fb1.read; have bl1 := fb1.lt
                obtain ⟨ba2, bb2⟩ := fb2.read; have bl2 := fb2.lt
                simp only [Act.put, List.setIfInBounds_toArray, List.set_cons_zero, List.set_cons_succ]
                simp only [cond_true, cond_false]
                refine inv_op ho (by kernel_rfl) (fun K hK => ?_)
                clear ho
                go_simp
                refine hK.out _ _ ?_
                unfold RFour0
                refine ⟨gg0, true, gg2, gg3, gg4, gg5, gg6, true, gg8, gg9, gg10, gg11, true, true, rfl, by simp only [Act.put, List.setIfInBounds_toArray, List.set_cons_zero, List.set_cons_succ, cond_true, cond_false, Bool.cond_self], ?_, ?_, ?_, ?_, ?_, ?_, ?_⟩
                · (repeat' (first | (with_reducible assumption) | ((with_reducible refine Blk.new ?_); first | rfl | (simp; done)) | (with_reducible refine Blk.later (by assumption) ?_) | (with_reducible refine Blk.alloc ?_) | (with_reducible refine Blk.drewN ?_) | (with_reducible refine Blk.drew ?_) | (with_reducible refine Blk.other ?_ (by first | omega | (simp; done) | (simp; omega)))))
                · (repeat' (first | (with_reducible assumption) | ((with_reducible refine Blk.new ?_); first | rfl | (simp; done)) | (with_reducible refine Blk.later (by assumption) ?_) | (with_reducible refine Blk.alloc ?_) | (with_reducible refine Blk.drewN ?_) | (with_reducible refine Blk.drew ?_) | (with_reducible refine Blk.other ?_ (by first | omega | (simp; done) | (simp; omega)))))
                · exact Blk.set (Blk.set (Blk.set (Blk.set (fb2))))
                · (repeat' (first | (with_reducible exact Below.refl _ _) | (with_reducible assumption) | (with_reducible refine belowThru ?_ (by assumption)) | (with_reducible refine belowAlloc ?_) | (with_reducible refine Below.setCell ?_ (by first | omega | (simp; done) | (simp; omega)) _) | (with_reducible refine Below.drew ?_) | (with_reducible refine below_drewN ?_ _)))
                · first | exact fL | (simp; omega)
                · intro _; rfl
                · intro _; rfl
              · exfalso; simp at hi1; omega
            case hfin =>
              intro a w9 hI
              obtain ⟨gg0, gg1, gg2, gg3, gg4, gg5, gg6, gg7, gg8, gg9, gg10, gg11, gg12, gg13, hL, rfl, fb0, fb1, fb2, fB, fL, h1_13, h7_13⟩ := hI
              have hL2 : #[true, true, true, true, true, true, true, true, true, true, true, true, true, true] = #[gg0, gg1, gg2, gg3, gg4, gg5, gg6, gg7, gg8, gg9, gg10, gg11, gg12, gg13] := hL
              cases hL2
              simp only [Act.put, List.setIfInBounds_toArray, List.set_cons_zero, List.set_cons_succ]
              simp only [cond_true]
              go_wp2_with fail
              go_roundw
              case rel => exact ⟨1, by omega, rfl, by rw [hF1]; simpa only [cond_true] using fb2, fb0, fb1, fB⟩
              case measure => simp [intOf]
          · rw [hF1] at kD aD
            go_upto_region 10 with fail
            refine wp_region_inv (RFour1 m0 n0 m1 n1 m2 n2 m3 n3 r1 s1 t1 u1 r2 s2 t2 u2 r3 s3 t3 u3 r4 s4 t4 u4 w ?i27 ?i28 ?i29 ?i30 ?i31 ?i32 ?i33 ?i34 ?i35 ?i36 ?i37 ?i38 ?i39) (by kernel_rfl) (by kernel_rfl) ?hsz ?hst ?hstep ?hfin
            case hst =>
              unfold RFour1
              refine ⟨false, false, false, false, false, false, false, false, false, false, false, false, false, false, rfl, ?_, ?_, ?_, ?_, ?_, ?_, ?_, ?_⟩
              · first | (simp only [Act.put, List.setIfInBounds_toArray, List.set_cons_zero, List.set_cons_succ, cond_false]; done) | (simp only [Act.put, List.setIfInBounds_toArray, List.set_cons_zero, List.set_cons_succ, cond_false]; rfl)
              all_goals (first | (intro h; cases h; done) | ((repeat' (first | (with_reducible assumption) | ((with_reducible refine Blk.new ?_); first | rfl | (simp; done)) | (with_reducible refine Blk.later (by assumption) ?_) | (with_reducible refine Blk.alloc ?_) | (with_reducible refine Blk.drewN ?_) | (with_reducible refine Blk.drew ?_) | (with_reducible refine Blk.other ?_ (by first | omega | (simp; done) | (simp; omega))))); done) | ((repeat' (first | (with_reducible exact Below.refl _ _) | (with_reducible assumption) | (with_reducible refine belowThru ?_ (by assumption)) | (with_reducible refine belowAlloc ?_) | (with_reducible refine Below.setCell ?_ (by first | omega | (simp; done) | (simp; omega)) _) | (with_reducible refine Below.drew ?_) | (with_reducible refine below_drewN ?_ _))); done) | (simp only [cond_false]; (repeat' (first | (with_reducible assumption) | ((with_reducible refine Blk.new ?_); first | rfl | (simp; done)) | (with_reducible refine Blk.later (by assumption) ?_) | (with_reducible refine Blk.alloc ?_) | (with_reducible refine Blk.drewN ?_) | (with_reducible refine Blk.drew ?_) | (with_reducible refine Blk.other ?_ (by first | omega | (simp; done) | (simp; omega))))); done) | (simp only [World.size_drew]; omega) | (simp only [World.size_drew] at *; omega) | (simp; done) | (simp; omega))
            case hsz =>
              intro L a w9 h
              obtain ⟨gg0, gg1, gg2, gg3, gg4, gg5, gg6, gg7, gg8, gg9, gg10, gg11, gg12, gg13, rfl, -⟩ := h; rfl
            case hstep =>
              intro L a w9 hI i hi
              obtain ⟨gg0, gg1, gg2, gg3, gg4, gg5, gg6, gg7, gg8, gg9, gg10, gg11, gg12, gg13, rfl, rfl, fb0, fb1, fb2, fB, fL, h1_13, h7_13⟩ := hI
              obtain ⟨hi1, hi2, o, ho, hall⟩ := inv_mem hi
              clear hi
              rcases i with _ | _ | _ | _ | _ | _ | _ | _ | _ | _ | _ | _ | _ | _ | i
              · have ge0 : gg0 = false := hi2
                clear hall hi1 hi2
                subst ge0
                have ho2 := ho
                simp only [List.getElem?_toArray, List.getElem?_cons_zero, List.getElem?_cons_succ] at ho2
                have ho3 := Option.some.inj ho2; clear ho2; subst ho3
                obtain ⟨ba0, bb0⟩ := fb0.read; have bl0 := fb0.lt
                obtain ⟨ba1, bb1⟩ := fb1.read; have bl1 := fb1.lt
                simp only [Act.put, List.setIfInBounds_toArray, List.set_cons_zero, List.set_cons_succ]
                simp only [cond_true, cond_false]
                refine inv_op ho (by kernel_rfl) (fun K hK => ?_)
                clear ho
                go_simp
                refine hK.out _ _ ?_
                unfold RFour1
                refine ⟨true, gg1, gg2, gg3, gg4, gg5, gg6, gg7, gg8, gg9, gg10, gg11, gg12, gg13, rfl, by simp only [Act.put, List.setIfInBounds_toArray, List.set_cons_zero, List.set_cons_succ, cond_true, cond_false, Bool.cond_self], ?_, ?_, ?_, ?_, ?_, ?_, ?_⟩
                · exact fb0
                · exact fb1
                · exact fb2
                · exact fB
                · exact fL
                · exact h1_13
                · exact h7_13
              · have ge1 : gg1 = false := hi2
                have ge0 : gg0 = true := inv_dep ho hall 0 (by kernel_rfl)
                clear hall hi1 hi2
                subst ge1 ge0
                have ho2 := ho
                simp only [List.getElem?_toArray, List.getElem?_cons_zero, List.getElem?_cons_succ] at ho2
                have ho3 := Option.some.inj ho2; clear ho2; subst ho3
                obtain ⟨ba0, bb0⟩ := fb0.read; have bl0 := fb0.lt
                obtain ⟨ba1, bb1⟩ := fb1.read; have bl1 := fb1.lt
                obtain rfl : gg13 = false := by cases gg13; rfl; exact Bool.noConfusion (h1_13 rfl)
                simp only [cond_true, cond_false] at fb2
                obtain ⟨ba9, bb9⟩ := fb2.read
                simp only [Act.put, List.setIfInBounds_toArray, List.set_cons_zero, List.set_cons_succ]
                simp only [cond_true, cond_false]
                refine inv_op ho (by kernel_rfl) (fun K hK => ?_)
                clear ho
                go_simp
                refine hK.out _ _ ?_
                unfold RFour1
                refine ⟨true, true, gg2, gg3, gg4, gg5, gg6, gg7, gg8, gg9, gg10, gg11, gg12, false, rfl, by simp only [Act.put, List.setIfInBounds_toArray, List.set_cons_zero, List.set_cons_succ, cond_true, cond_false, Bool.cond_self], ?_, ?_, ?_, ?_, ?_, ?_, ?_⟩
                · exact fb0
                · exact fb1
                · exact fb2
                · exact fB
                · exact fL
                · intro _; rfl
                · intro h; cases h
              · have ge2 : gg2 = false := hi2
                clear hall hi1 hi2
                subst ge2
                have ho2 := ho
                simp only [List.getElem?_toArray, List.getElem?_cons_zero, List.getElem?_cons_succ] at ho2
                have ho3 := Option.some.inj ho2; clear ho2; subst ho3
                obtain ⟨ba0, bb0⟩ := fb0.read; have bl0 := fb0.lt
                obtain ⟨ba1, bb1⟩ := fb1.read; have bl1 := fb1.lt
                simp only [Act.put, List.setIfInBounds_toArray, List.set_cons_zero, List.set_cons_succ]
                simp only [cond_true, cond_false]
                refine inv_op ho (by kernel_rfl) (fun K hK => ?_)
                clear ho
                go_simp
                refine hK.out _ _ ?_
                unfold RFour1
                refine ⟨gg0, gg1, true, gg3, gg4, gg5, gg6, gg7, gg8, gg9, gg10, gg11, gg12, gg13, rfl, by simp only [Act.put, List.setIfInBounds_toArray, List.set_cons_zero, List.set_cons_succ, cond_true, cond_false, Bool.cond_self], ?_, ?_, ?_, ?_, ?_, ?_, ?_⟩
                · exact fb0
                · exact fb1
                · exact fb2
                · exact fB
                · exact fL
                · exact h1_13
                · exact h7_13
              · have ge3 : gg3 = false := hi2
                have ge2 : gg2 = true := inv_dep ho hall 2 (by kernel_rfl)
                clear hall hi1 hi2
                subst ge3 ge2
                have ho2 := ho
                simp only [List.getElem?_toArray, List.getElem?_cons_zero, List.getElem?_cons_succ] at ho2
                have ho3 := Option.some.inj ho2; clear ho2; subst ho3
                obtain ⟨ba0, bb0⟩ := fb0.read; have bl0 := fb0.lt
                obtain ⟨ba1, bb1⟩ := fb1.read; have bl1 := fb1.lt
                simp only [Act.put, List.setIfInBounds_toArray, List.set_cons_zero, List.set_cons_succ]
                simp only [cond_true, cond_false]
                refine inv_op ho (by kernel_rfl) (fun K hK => ?_)
                clear ho
                go_simp
                refine hK.out _ _ ?_
                unfold RFour1
                refine ⟨gg0, gg1, true, true, gg4, gg5, gg6, gg7, gg8, gg9, gg10, gg11, gg12, gg13, rfl, by simp only [Act.put, List.setIfInBounds_toArray, List.set_cons_zero, List.set_cons_succ, cond_true, cond_false, Bool.cond_self], ?_, ?_, ?_, ?_, ?_, ?_, ?_⟩
                · exact fb0
                · exact fb1
                · exact fb2
                · exact fB
                · exact fL
                · exact h1_13
                · exact h7_13
              · have ge4 : gg4 = false := hi2
                have ge3 : gg3 = true := inv_dep ho hall 3 (by kernel_rfl)
                clear hall hi1 hi2
                subst ge4 ge3
                have ho2 := ho
                simp only [List.getElem?_toArray, List.getElem?_cons_zero, List.getElem?_cons_succ] at ho2
                have ho3 := Option.some.inj ho2; clear ho2; subst ho3
                obtain ⟨ba0, bb0⟩ := fb0.read; have bl0 := fb0.lt
                obtain ⟨ba1, bb1⟩ := fb1.read; have bl1 := fb1.lt
                simp only [Act.put, List.setIfInBounds_toArray, List.set_cons_zero, List.set_cons_succ]
                simp only [cond_true, cond_false]
                refine inv_op ho (by kernel_rfl) (fun K hK => ?_)
                clear ho
                go_simp
                refine hK.out _ _ ?_
                unfold RFour1
                refine ⟨gg0, gg1, gg2, true, true, gg5, gg6, gg7, gg8, gg9, gg10, gg11, gg12, gg13, rfl, by simp only [Act.put, List.setIfInBounds_toArray, List.set_cons_zero, List.set_cons_succ, cond_true, cond_false, Bool.cond_self], ?_, ?_, ?_, ?_, ?_, ?_, ?_⟩
                · exact fb0
                · exact fb1
                · exact fb2
                · exact fB
                · exact fL
                · exact h1_13
                · exact h7_13
              · have ge5 : gg5 = false := hi2
                have ge1 : gg1 = true := inv_dep ho hall 1 (by kernel_rfl)
                have ge4 : gg4 = true := inv_dep ho hall 4 (by kernel_rfl)
                clear hall hi1 hi2
                subst ge5 ge1 ge4
                have ho2 := ho
                simp only [List.getElem?_toArray, List.getElem?_cons_zero, List.getElem?_cons_succ] at ho2
                have ho3 := Option.some.inj ho2; clear ho2; subst ho3
                obtain ⟨ba0, bb0⟩ := fb0.read; have bl0 := fb0.lt
                obtain ⟨ba1, bb1⟩ := fb1.read; have bl1 := fb1.lt
                simp only [Act.put, List.setIfInBounds_toArray, List.set_cons_zero, List.set_cons_succ]
                simp only [cond_true, cond_false]
                refine inv_op ho (by kernel_rfl) (fun K hK => ?_)
                clear ho
                go_simp
                go_at_call 122; (with_reducible refine (HL1.out _).mono ?_); rintro e w1 ⟨rfl, hb⟩
                refine hK.out _ _ ?_
                unfold RFour1
                refine ⟨gg0, true, gg2, gg3, true, true, gg6, gg7, gg8, gg9, gg10, gg11, gg12, gg13, rfl, by simp only [Act.put, List.setIfInBounds_toArray, List.set_cons_zero, List.set_cons_succ, cond_true, cond_false, Bool.cond_self], ?_, ?_, ?_, ?_, ?_, ?_, ?_⟩
                · exact Blk.later hb fb0
                · exact Blk.later hb fb1
                · exact Blk.later hb fb2
                · exact belowThru fB hb
                · have := hb.size; omega
                · intro _; rfl
                · exact h7_13
              · have ge6 : gg6 = false := hi2
                clear hall hi1 hi2
                subst ge6
                have ho2 := ho
                simp only [List.getElem?_toArray, List.getElem?_cons_zero, List.getElem?_cons_succ] at ho2
                have ho3 := Option.some.inj ho2; clear ho2; subst ho3
                obtain ⟨ba0, bb0⟩ := fb0.read; have bl0 := fb0.lt
                obtain ⟨ba1, bb1⟩ := fb1.read; have bl1 := fb1.lt
                simp only [Act.put, List.setIfInBounds_toArray, List.set_cons_zero, List.set_cons_succ]
                simp only [cond_true, cond_false]
                refine inv_op ho (by kernel_rfl) (fun K hK => ?_)
                clear ho
                go_simp
                refine hK.out _ _ ?_
                unfold RFour1
                refine ⟨gg0, gg1, gg2, gg3, gg4, gg5, true, gg7, gg8, gg9, gg10, gg11, gg12, gg13, rfl, by simp only [Act.put, List.setIfInBounds_toArray, List.set_cons_zero, List.set_cons_succ, cond_true, cond_false, Bool.cond_self], ?_, ?_, ?_, ?_, ?_, ?_, ?_⟩
                · exact fb0
                · exact fb1
                · exact fb2
                · exact fB
                · exact fL
                · exact h1_13
                · exact h7_13
              · have ge7 : gg7 = false := hi2
                have ge6 : gg6 = true := inv_dep ho hall 6 (by kernel_rfl)
                clear hall hi1 hi2
                subst ge7 ge6
                have ho2 := ho
                simp only [List.getElem?_toArray, List.getElem?_cons_zero, List.getElem?_cons_succ] at ho2
                have ho3 := Option.some.inj ho2; clear ho2; subst ho3
                obtain ⟨ba0, bb0⟩ := fb0.read; have bl0 := fb0.lt
                obtain ⟨ba1, bb1⟩ := fb1.read; have bl1 := fb1.lt
                obtain rfl : gg13 = false := by cases gg13; rfl; exact Bool.noConfusion (h7_13 rfl)
                simp only [cond_true, cond_false] at fb2
                obtain ⟨ba9, bb9⟩ := fb2.read
                simp only [Act.put, List.setIfInBounds_toArray, List.set_cons_zero, List.set_cons_succ]
                simp only [cond_true, cond_false]
                refine inv_op ho (by kernel_rfl) (fun K hK => ?_)
                clear ho
                go_simp
                refine hK.out _ _ ?_
                unfold RFour1
                refine ⟨gg0, gg1, gg2, gg3, gg4, gg5, true, true, gg8, gg9, gg10, gg11, gg12, false, rfl, by simp only [Act.put, List.setIfInBounds_toArray, List.set_cons_zero, List.set_cons_succ, cond_true, cond_false, Bool.cond_self], ?_, ?_, ?_, ?_, ?_, ?_, ?_⟩
                · exact fb0
                · exact fb1
                · exact fb2
                · exact fB
                · exact fL
                · intro h; cases h
                · intro _; rfl
              · have ge8 : gg8 = false := hi2
                clear hall hi1 hi2
                subst ge8
                have ho2 := ho
                simp only [List.getElem?_toArray, List.getElem?_cons_zero, List.getElem?_cons_succ] at ho2
                have ho3 := Option.some.inj ho2; clear ho2; subst ho3
                obtain ⟨ba0, bb0⟩ := fb0.read; have bl0 := fb0.lt
                obtain ⟨ba1, bb1⟩ := fb1.read; have bl1 := fb1.lt
                simp only [Act.put, List.setIfInBounds_toArray, List.set_cons_zero, List.set_cons_succ]
                simp only [cond_true, cond_false]
                refine inv_op ho (by kernel_rfl) (fun K hK => ?_)
                clear ho
                go_simp
                refine hK.out _ _ ?_
                unfold RFour1
                refine ⟨gg0, gg1, gg2, gg3, gg4, gg5, gg6, gg7, true, gg9, gg10, gg11, gg12, gg13, rfl, by simp only [Act.put, List.setIfInBounds_toArray, List.set_cons_zero, List.set_cons_succ, cond_true, cond_false, Bool.cond_self], ?_, ?_, ?_, ?_, ?_, ?_, ?_⟩
                · exact fb0
                · exact fb1
                · exact fb2
                · exact fB
                · exact fL
                · exact h1_13
                · exact h7_13
              · have ge9 : gg9 = false := hi2
                have ge8 : gg8 = true := inv_dep ho hall 8 (by kernel_rfl)
                clear hall hi1 hi2
                subst ge9 ge8
                have ho2 := ho
                simp only [List.getElem?_toArray, List.getElem?_cons_zero, List.getElem?_cons_succ] at ho2
                have ho3 := Option.some.inj ho2; clear ho2; subst ho3
                obtain ⟨ba0, bb0⟩ := fb0.read; have bl0 := fb0.lt
                obtain ⟨ba1, bb1⟩ := fb1.read; have bl1 := fb1.lt
                simp only [Act.put, List.setIfInBounds_toArray, List.set_cons_zero, List.set_cons_succ]
                simp only [cond_true, cond_false]
                refine inv_op ho (by kernel_rfl) (fun K hK => ?_)
                clear ho
                go_simp
                refine hK.out _ _ ?_
                unfold RFour1
                refine ⟨gg0, gg1, gg2, gg3, gg4, gg5, gg6, gg7, true, true, gg10, gg11, gg12, gg13, rfl, by simp only [Act.put, List.setIfInBounds_toArray, List.set_cons_zero, List.set_cons_succ, cond_true, cond_false, Bool.cond_self], ?_, ?_, ?_, ?_, ?_, ?_, ?_⟩
                · exact fb0
                · exact fb1
                · exact fb2
                · exact fB
                · exact fL
                · exact h1_13
                · exact h7_13
              · have ge10 : gg10 = false := hi2
                have ge9 : gg9 = true := inv_dep ho hall 9 (by kernel_rfl)
                clear hall hi1 hi2
                subst ge10 ge9
                have ho2 := ho
                simp only [List.getElem?_toArray, List.getElem?_cons_zero, List.getElem?_cons_succ] at ho2
                have ho3 := Option.some.inj ho2; clear ho2; subst ho3
                obtain ⟨ba0, bb0⟩ := fb0.read; have bl0 := fb0.lt
                obtain ⟨ba1, bb1⟩ := fb1.read; have bl1 := fb1.lt
                simp only [Act.put, List.setIfInBounds_toArray, List.set_cons_zero, List.set_cons_succ]
                simp only [cond_true, cond_false]
                refine inv_op ho (by kernel_rfl) (fun K hK => ?_)
                clear ho
                go_simp
                refine hK.out _ _ ?_
                unfold RFour1
                refine ⟨gg0, gg1, gg2, gg3, gg4, gg5, gg6, gg7, gg8, true, true, gg11, gg12, gg13, rfl, by simp only [Act.put, List.setIfInBounds_toArray, List.set_cons_zero, List.set_cons_succ, cond_true, cond_false, Bool.cond_self], ?_, ?_, ?_, ?_, ?_, ?_, ?_⟩
                · exact fb0
                · exact fb1
                · exact fb2
                · exact fB
                · exact fL
                · exact h1_13
                · exact h7_13
              · have ge11 : gg11 = false := hi2
                have ge7 : gg7 = true := inv_dep ho hall 7 (by kernel_rfl)
                have ge10 : gg10 = true := inv_dep ho hall 10 (by kernel_rfl)
                clear hall hi1 hi2
                subst ge11 ge7 ge10
                have ho2 := ho
                simp only [List.getElem?_toArray, List.getElem?_cons_zero, List.getElem?_cons_succ] at ho2
                have ho3 := Option.some.inj ho2; clear ho2; subst ho3
                obtain ⟨ba0, bb0⟩ := fb0.read; have bl0 := fb0.lt
                obtain ⟨ba1, bb1⟩ := fb1.read; have bl1 := fb1.lt
                simp only [Act.put, List.setIfInBounds_toArray, List.set_cons_zero, List.set_cons_succ]
                simp only [cond_true, cond_false]
                refine inv_op ho (by kernel_rfl) (fun K hK => ?_)
                clear ho
                go_simp
                go_at_call 123; (with_reducible refine (HM1.out _).mono ?_); rintro e w1 ⟨rfl, hb⟩
                refine hK.out _ _ ?_
                unfold RFour1
                refine ⟨gg0, gg1, gg2, gg3, gg4, gg5, gg6, true, gg8, gg9, true, true, gg12, gg13, rfl, by simp only [Act.put, List.setIfInBounds_toArray, List.set_cons_zero, List.set_cons_succ, cond_true, cond_false, Bool.cond_self], ?_, ?_, ?_, ?_, ?_, ?_, ?_⟩
                · exact Blk.later hb fb0
                · exact Blk.later hb fb1
                · exact Blk.later hb fb2
                · exact belowThru fB hb
                · have := hb.size; omega
                · exact h1_13
                · intro _; rfl
              · have ge12 : gg12 = false := hi2
                have ge5 : gg5 = true := inv_dep ho hall 5 (by kernel_rfl)
                have ge11 : gg11 = true := inv_dep ho hall 11 (by kernel_rfl)
                clear hall hi1 hi2
                subst ge12 ge5 ge11
                have ho2 := ho
                simp only [List.getElem?_toArray, List.getElem?_cons_zero, List.getElem?_cons_succ] at ho2
                have ho3 := Option.some.inj ho2; clear ho2; subst ho3
                obtain ⟨ba0, bb0⟩ := fb0.read; have bl0 := fb0.lt
                obtain ⟨ba1, bb1⟩ := fb1.read; have bl1 := fb1.lt
                simp only [Act.put, List.setIfInBounds_toArray, List.set_cons_zero, List.set_cons_succ]
                simp only [cond_true, cond_false]
                refine inv_op ho (by kernel_rfl) (fun K hK => ?_)
                clear ho
                go_simp
                refine hK.out _ _ ?_
                unfold RFour1
                refine ⟨gg0, gg1, gg2, gg3, gg4, true, gg6, gg7, gg8, gg9, gg10, true, true, gg13, rfl, by simp only [Act.put, List.setIfInBounds_toArray, List.set_cons_zero, List.set_cons_succ, cond_true, cond_false, Bool.cond_self], ?_, ?_, ?_, ?_, ?_, ?_, ?_⟩
                · exact fb0
                · exact fb1
                · exact fb2
                · exact fB
                · exact fL
                · exact h1_13
                · exact h7_13
              · have ge13 : gg13 = false := hi2
                have ge12 : gg12 = true := inv_dep ho hall 12 (by kernel_rfl)
                have ge1 : gg1 = true := inv_dep ho hall 1 (by kernel_rfl)
                have ge7 : gg7 = true := inv_dep ho hall 7 (by kernel_rfl)
                clear hall hi1 hi2
                subst ge13 ge12 ge1 ge7
                have ho2 := ho
                simp only [List.getElem?_toArray, List.getElem?_cons_zero, List.getElem?_cons_succ] at ho2
                have ho3 := Option.some.inj ho2; clear ho2; subst ho3
                simp only [cond_true, cond_false] at fb2
                obtain ⟨ba0, bb0⟩ := fb0.read; have bl0 := fb0.lt
                obtain ⟨ba1, bb1⟩ := fb1.read; have bl1 := fb1.lt
                obtain ⟨ba2, bb2⟩ := fb2.read; have bl2 := fb2.lt
                simp only [Act.put, List.setIfInBounds_toArray, List.set_cons_zero, List.set_cons_succ]
                simp only [cond_true, cond_false]
                refine inv_op ho (by kernel_rfl) (fun K hK => ?_)
                clear ho
                go_simp
                refine hK.out _ _ ?_
                unfold RFour1
                refine ⟨gg0, true, gg2, gg3, gg4, gg5, gg6, true, gg8, gg9, gg10, gg11, true, true, rfl, by simp only [Act.put, List.setIfInBounds_toArray, List.set_cons_zero, List.set_cons_succ, cond_true, cond_false, Bool.cond_self], ?_, ?_, ?_, ?_, ?_, ?_, ?_⟩
                · (repeat' (first | (with_reducible assumption) | ((with_reducible refine Blk.new ?_); first | rfl | (simp; done)) | (with_reducible refine Blk.later (by assumption) ?_) | (with_reducible refine Blk.alloc ?_) | (with_reducible refine Blk.drewN ?_) | (with_reducible refine Blk.drew ?_) | (with_reducible refine Blk.other ?_ (by first | omega | (simp; done) | (simp; omega)))))
                · (repeat' (first | (with_reducible assumption) | ((with_reducible refine Blk.new ?_); first | rfl | (simp; done)) | (with_reducible refine Blk.later (by assumption) ?_) | (with_reducible refine Blk.alloc ?_) | (with_reducible refine Blk.drewN ?_) | (with_reducible refine Blk.drew ?_) | (with_reducible refine Blk.other ?_ (by first | omega | (simp; done) | (simp; omega)))))
                · exact Blk.set (Blk.set (Blk.set (Blk.set (fb2))))
                · (repeat' (first | (with_reducible exact Below.refl _ _) | (with_reducible assumption) | (with_reducible refine belowThru ?_ (by assumption)) | (with_reducible refine belowAlloc ?_) | (with_reducible refine Below.setCell ?_ (by first | omega | (simp; done) | (simp; omega)) _) | (with_reducible refine Below.drew ?_) | (with_reducible refine below_drewN ?_ _)))
                · first | exact fL | (simp; omega)
                · intro _; rfl
                · intro _; rfl
              · exfalso; simp at hi1; omega
            case hfin =>
              intro a w9 hI
              obtain ⟨gg0, gg1, gg2, gg3, gg4, gg5, gg6, gg7, gg8, gg9, gg10, gg11, gg12, gg13, hL, rfl, fb0, fb1, fb2, fB, fL, h1_13, h7_13⟩ := hI
              have hL2 : #[true, true, true, true, true, true, true, true, true, true, true, true, true, true] = #[gg0, gg1, gg2, gg3, gg4, gg5, gg6, gg7, gg8, gg9, gg10, gg11, gg12, gg13] := hL
              cases hL2
              simp only [Act.put, List.setIfInBounds_toArray, List.set_cons_zero, List.set_cons_succ]
              simp only [cond_true]
              go_wp2_with fail
              go_roundw
              case rel => exact ⟨2, by omega, rfl, by rw [hF2]; simpa only [cond_true] using fb2, fb0, fb1, fB⟩
              case measure => simp [intOf]
          · rw [hF2] at kD aD
            go_upto_region 10 with fail
            refine wp_region_inv (RFour2 m0 n0 m1 n1 m2 n2 m3 n3 r1 s1 t1 u1 r2 s2 t2 u2 r3 s3 t3 u3 r4 s4 t4 u4 w ?i27 ?i28 ?i29 ?i30 ?i31 ?i32 ?i33 ?i34 ?i35 ?i36 ?i37 ?i38 ?i39) (by kernel_rfl) (by kernel_rfl) ?hsz ?hst ?hstep ?hfin
            case hst =>
              unfold RFour2
              refine ⟨false, false, false, false, false, false, false, false, false, false, false, false, false, false, rfl, ?_, ?_, ?_, ?_, ?_, ?_, ?_, ?_⟩
              · first | (simp only [Act.put, List.setIfInBounds_toArray, List.set_cons_zero, List.set_cons_succ, cond_false]; done) | (simp only [Act.put, List.setIfInBounds_toArray, List.set_cons_zero, List.set_cons_succ, cond_false]; rfl)
              all_goals (first | (intro h; cases h; done) | ((repeat' (first | (with_reducible assumption) | ((with_reducible refine Blk.new ?_); first | rfl | (simp; done)) | (with_reducible refine Blk.later (by assumption) ?_) | (with_reducible refine Blk.alloc ?_) | (with_reducible refine Blk.drewN ?_) | (with_reducible refine Blk.drew ?_) | (with_reducible refine Blk.other ?_ (by first | omega | (simp; done) | (simp; omega))))); done) | ((repeat' (first | (with_reducible exact Below.refl _ _) | (with_reducible assumption) | (with_reducible refine belowThru ?_ (by assumption)) | (with_reducible refine belowAlloc ?_) | (with_reducible refine Below.setCell ?_ (by first | omega | (simp; done) | (simp; omega)) _) | (with_reducible refine Below.drew ?_) | (with_reducible refine below_drewN ?_ _))); done) | (simp only [cond_false]; (repeat' (first | (with_reducible assumption) | ((with_reducible refine Blk.new ?_); first | rfl | (simp; done)) | (with_reducible refine Blk.later (by assumption) ?_) | (with_reducible refine Blk.alloc ?_) | (with_reducible refine Blk.drewN ?_) | (with_reducible refine Blk.drew ?_) | (with_reducible refine Blk.other ?_ (by first | omega | (simp; done) | (simp; omega))))); done) | (simp only [World.size_drew]; omega) | (simp only [World.size_drew] at *; omega) | (simp; done) | (simp; omega))
            case hsz =>
              intro L a w9 h
              obtain ⟨gg0, gg1, gg2, gg3, gg4, gg5, gg6, gg7, gg8, gg9, gg10, gg11, gg12, gg13, rfl, -⟩ := h; rfl
            case hstep =>
              intro L a w9 hI i hi
              obtain ⟨gg0, gg1, gg2, gg3, gg4, gg5, gg6, gg7, gg8, gg9, gg10, gg11, gg12, gg13, rfl, rfl, fb0, fb1, fb2, fB, fL, h1_13, h7_13⟩ := hI
              obtain ⟨hi1, hi2, o, ho, hall⟩ := inv_mem hi
              clear hi
              rcases i with _ | _ | _ | _ | _ | _ | _ | _ | _ | _ | _ | _ | _ | _ | i
              · have ge0 : gg0 = false := hi2
                clear hall hi1 hi2
                subst ge0
                have ho2 := ho
                simp only [List.getElem?_toArray, List.getElem?_cons_zero, List.getElem?_cons_succ] at ho2
                have ho3 := Option.some.inj ho2; clear ho2; subst ho3
                obtain ⟨ba0, bb0⟩ := fb0.read; have bl0 := fb0.lt
                obtain ⟨ba1, bb1⟩ := fb1.read; have bl1 := fb1.lt
                simp only [Act.put, List.setIfInBounds_toArray, List.set_cons_zero, List.set_cons_succ]
                simp only [cond_true, cond_false]
                refine inv_op ho (by kernel_rfl) (fun K hK => ?_)
                clear ho
                go_simp
                refine hK.out _ _ ?_
                unfold RFour2
                refine ⟨true, gg1, gg2, gg3, gg4, gg5, gg6, gg7, gg8, gg9, gg10, gg11, gg12, gg13, rfl, by simp only [Act.put, List.setIfInBounds_toArray, List.set_cons_zero, List.set_cons_succ, cond_true, cond_false, Bool.cond_self], ?_, ?_, ?_, ?_, ?_, ?_, ?_⟩
                · exact fb0
                · exact fb1
                · exact fb2
                · exact fB
                · exact fL
                · exact h1_13
                · exact h7_13
              · have ge1 : gg1 = false := hi2
                have ge0 : gg0 = true := inv_dep ho hall 0 (by kernel_rfl)
                clear hall hi1 hi2
                subst ge1 ge0
                have ho2 := ho
                simp only [List.getElem?_toArray, List.getElem?_cons_zero, List.getElem?_cons_succ] at ho2
                have ho3 := Option.some.inj ho2; clear ho2; subst ho3
                obtain ⟨ba0, bb0⟩ := fb0.read; have bl0 := fb0.lt
                obtain ⟨ba1, bb1⟩ := fb1.read; have bl1 := fb1.lt
                obtain rfl : gg13 = false := by cases gg13; rfl; exact Bool.noConfusion (h1_13 rfl)
                simp only [cond_true, cond_false] at fb2
                obtain ⟨ba9, bb9⟩ := fb2.read
                simp only [Act.put, List.setIfInBounds_toArray, List.set_cons_zero, List.set_cons_succ]
                simp only [cond_true, cond_false]
                refine inv_op ho (by kernel_rfl) (fun K hK => ?_)
                clear ho
                go_simp
                refine hK.out _ _ ?_
                unfold RFour2
                refine ⟨true, true, gg2, gg3, gg4, gg5, gg6, gg7, gg8, gg9, gg10, gg11, gg12, false, rfl, by simp only [Act.put, List.setIfInBounds_toArray, List.set_cons_zero, List.set_cons_succ, cond_true, cond_false, Bool.cond_self], ?_, ?_, ?_, ?_, ?_, ?_, ?_⟩
                · exact fb0
                · exact fb1
                · exact fb2
                · exact fB
                · exact fL
                · intro _; rfl
                · intro h; cases h
              · have ge2 : gg2 = false := hi2
                clear hall hi1 hi2
                subst ge2
                have ho2 := ho
                simp only [List.getElem?_toArray, List.getElem?_cons_zero, List.getElem?_cons_succ] at ho2
                have ho3 := Option.some.inj ho2; clear ho2; subst ho3
                obtain ⟨ba0, bb0⟩ := fb0.read; have bl0 := fb0.lt
                obtain ⟨ba1, bb1⟩ := fb1.read; have bl1 := fb1.lt
                simp only [Act.put, List.setIfInBounds_toArray, List.set_cons_zero, List.set_cons_succ]
                simp only [cond_true, cond_false]
                refine inv_op ho (by kernel_rfl) (fun K hK => ?_)
                clear ho
                go_simp
                refine hK.out _ _ ?_
                unfold RFour2
                refine ⟨gg0, gg1, true, gg3, gg4, gg5, gg6, gg7, gg8, gg9, gg10, gg11, gg12, gg13, rfl, by simp only [Act.put, List.setIfInBounds_toArray, List.set_cons_zero, List.set_cons_succ, cond_true, cond_false, Bool.cond_self], ?_, ?_, ?_, ?_, ?_, ?_, ?_⟩
                · exact fb0
                · exact fb1
                · exact fb2
                · exact fB
                · exact fL
                · exact h1_13
                · exact h7_13
              · have ge3 : gg3 = false := hi2
                have ge2 : gg2 = true := inv_dep ho hall 2 (by kernel_rfl)
                clear hall hi1 hi2
                subst ge3 ge2
                have ho2 := ho
                simp only [List.getElem?_toArray, List.getElem?_cons_zero, List.getElem?_cons_succ] at ho2
                have ho3 := Option.some.inj ho2; clear ho2; subst ho3
                obtain ⟨ba0, bb0⟩ := fb0.read; have bl0 := fb0.lt
                obtain ⟨ba1, bb1⟩ := fb1.read; have bl1 := fb1.lt
                simp only [Act.put, List.setIfInBounds_toArray, List.set_cons_zero, List.set_cons_succ]
                simp only [cond_true, cond_false]
                refine inv_op ho (by kernel_rfl) (fun K hK => ?_)
                clear ho
                go_simp
                refine hK.out _ _ ?_
                unfold RFour2
                refine ⟨gg0, gg1, true, true, gg4, gg5, gg6, gg7, gg8, gg9, gg10, gg11, gg12, gg13, rfl, by simp only [Act.put, List.setIfInBounds_toArray, List.set_cons_zero, List.set_cons_succ, cond_true, cond_false, Bool.cond_self], ?_, ?_, ?_, ?_, ?_, ?_, ?_⟩
                · exact fb0
                · exact fb1
                · exact fb2
                · exact fB
                · exact fL
                · exact h1_13
                · exact h7_13
              · have ge4 : gg4 = false := hi2
                have ge3 : gg3 = true := inv_dep ho hall 3 (by kernel_rfl)
                clear hall hi1 hi2
                subst ge4 ge3
                have ho2 := ho
                simp only [List.getElem?_toArray, List.getElem?_cons_zero, List.getElem?_cons_succ] at ho2
                have ho3 := Option.some.inj ho2; clear ho2; subst ho3
                obtain ⟨ba0, bb0⟩ := fb0.read; have bl0 := fb0.lt
                obtain ⟨ba1, bb1⟩ := fb1.read; have bl1 := fb1.lt
                simp only [Act.put, List.setIfInBounds_toArray, List.set_cons_zero, List.set_cons_succ]
                simp only [cond_true, cond_false]
                refine inv_op ho (by kernel_rfl) (fun K hK => ?_)
                clear ho
                go_simp
                refine hK.out _ _ ?_
                unfold RFour2
                refine ⟨gg0, gg1, gg2, true, true, gg5, gg6, gg7, gg8, gg9, gg10, gg11, gg12, gg13, rfl, by simp only [Act.put, List.setIfInBounds_toArray, List.set_cons_zero, List.set_cons_succ, cond_true, cond_false, Bool.cond_self], ?_, ?_, ?_, ?_, ?_, ?_, ?_⟩
                · exact fb0
                · exact fb1
                · exact fb2
                · exact fB
                · exact fL
                · exact h1_13
                · exact h7_13
              · have ge5 : gg5 = false := hi2
                have ge1 : gg1 = true := inv_dep ho hall 1 (by kernel_rfl)
                have ge4 : gg4 = true := inv_dep ho hall 4 (by kernel_rfl)
                clear hall hi1 hi2
                subst ge5 ge1 ge4
                have ho2 := ho
                simp only [List.getElem?_toArray, List.getElem?_cons_zero, List.getElem?_cons_succ] at ho2
                have ho3 := Option.some.inj ho2; clear ho2; subst ho3
                obtain ⟨ba0, bb0⟩ := fb0.read; have bl0 := fb0.lt
                obtain ⟨ba1, bb1⟩ := fb1.read; have bl1 := fb1.lt
                simp only [Act.put, List.setIfInBounds_toArray, List.set_cons_zero, List.set_cons_succ]
                simp only [cond_true, cond_false]
                refine inv_op ho (by kernel_rfl) (fun K hK => ?_)
                clear ho
                go_simp
                go_at_call 122; (with_reducible refine (HL2.out _).mono ?_); rintro e w1 ⟨rfl, hb⟩
                refine hK.out _ _ ?_
                unfold RFour2
                refine ⟨gg0, true, gg2, gg3, true, true, gg6, gg7, gg8, gg9, gg10, gg11, gg12, gg13, rfl, by simp only [Act.put, List.setIfInBounds_toArray, List.set_cons_zero, List.set_cons_succ, cond_true, cond_false, Bool.cond_self], ?_, ?_, ?_, ?_, ?_, ?_, ?_⟩
                · exact Blk.later hb fb0
                · exact Blk.later hb fb1
                · exact Blk.later hb fb2
                · exact belowThru fB hb
                · have := hb.size; omega
                · intro _; rfl
                · exact h7_13
              · have ge6 : gg6 = false := hi2
                clear hall hi1 hi2
                subst ge6
                have ho2 := ho
                simp only [List.getElem?_toArray, List.getElem?_cons_zero, List.getElem?_cons_succ] at ho2
                have ho3 := Option.some.inj ho2; clear ho2; subst ho3
                obtain ⟨ba0, bb0⟩ := fb0.read; have bl0 := fb0.lt
                obtain ⟨ba1, bb1⟩ := fb1.read; have bl1 := fb1.lt
                simp only [Act.put, List.setIfInBounds_toArray, List.set_cons_zero, List.set_cons_succ]
                simp only [cond_true, cond_false]
                refine inv_op ho (by kernel_rfl) (fun K hK => ?_)
                clear ho
                go_simp
                refine hK.out _ _ ?_
                unfold RFour2
                refine ⟨gg0, gg1, gg2, gg3, gg4, gg5, true, gg7, gg8, gg9, gg10, gg11, gg12, gg13, rfl, by simp only [Act.put, List.setIfInBounds_toArray, List.set_cons_zero, List.set_cons_succ, cond_true, cond_false, Bool.cond_self], ?_, ?_, ?_, ?_, ?_, ?_, ?_⟩
                · exact fb0
                · exact fb1
                · exact fb2
                · exact fB
                · exact fL
                · exact h1_13
                · exact h7_13
              · have ge7 : gg7 = false := hi2
                have ge6 : gg6 = true := inv_dep ho hall 6 (by kernel_rfl)
                clear hall hi1 hi2
                subst ge7 ge6
                have ho2 := ho
                simp only [List.getElem?_toArray, List.getElem?_cons_zero, List.getElem?_cons_succ] at ho2
                have ho3 := Option.some.inj ho2; clear ho2; subst ho3
                obtain ⟨ba0, bb0⟩ := fb0.read; have bl0 := fb0.lt
                obtain ⟨ba1, bb1⟩ := fb1.read; have bl1 := fb1.lt
                obtain rfl : gg13 = false := by cases gg13; rfl; exact Bool.noConfusion (h7_13 rfl)
                simp only [cond_true, cond_false] at fb2
                obtain ⟨ba9, bb9⟩ := fb2.read
                simp only [Act.put, List.setIfInBounds_toArray, List.set_cons_zero, List.set_cons_succ]
                simp only [cond_true, cond_false]
                refine inv_op ho (by kernel_rfl) (fun K hK => ?_)
                clear ho
                go_simp
                refine hK.out _ _ ?_
                unfold RFour2
                refine ⟨gg0, gg1, gg2, gg3, gg4, gg5, true, true, gg8, gg9, gg10, gg11, gg12, false, rfl, by simp only [Act.put, List.setIfInBounds_toArray, List.set_cons_zero, List.set_cons_succ, cond_true, cond_false, Bool.cond_self], ?_, ?_, ?_, ?_, ?_, ?_, ?_⟩
                · exact fb0
                · exact fb1
                · exact fb2
                · exact fB
                · exact fL
                · intro h; cases h
                · intro _; rfl
              · have ge8 : gg8 = false := hi2
                clear hall hi1 hi2
                subst ge8
                have ho2 := ho
                simp only [List.getElem?_toArray, List.getElem?_cons_zero, List.getElem?_cons_succ] at ho2
                have ho3 := Option.some.inj ho2; clear ho2; subst ho3
                obtain ⟨ba0, bb0⟩ := fb0.read; have bl0 := fb0.lt
                obtain ⟨ba1, bb1⟩ := fb1.read; have bl1 := fb1.lt
                simp only [Act.put, List.setIfInBounds_toArray, List.set_cons_zero, List.set_cons_succ]
                simp only [cond_true, cond_false]
                refine inv_op ho (by kernel_rfl) (fun K hK => ?_)
                clear ho
                go_simp
                refine hK.out _ _ ?_
                unfold RFour2
                refine ⟨gg0, gg1, gg2, gg3, gg4, gg5, gg6, gg7, true, gg9, gg10, gg11, gg12, gg13, rfl, by simp only [Act.put, List.setIfInBounds_toArray, List.set_cons_zero, List.set_cons_succ, cond_true, cond_false, Bool.cond_self], ?_, ?_, ?_, ?_, ?_, ?_, ?_⟩
                · exact fb0
                · exact fb1
                · exact fb2
                · exact fB
                · exact fL
                · exact h1_13
                · exact h7_13
              · have ge9 : gg9 = false := hi2
                have ge8 : gg8 = true := inv_dep ho hall 8 (by kernel_rfl)
                clear hall hi1 hi2
                subst ge9 ge8
                have ho2 := ho
                simp only [List.getElem?_toArray, List.getElem?_cons_zero, List.getElem?_cons_succ] at ho2
                have ho3 := Option.some.inj ho2; clear ho2; subst ho3
                obtain ⟨ba0, bb0⟩ := fb0.read; have bl0 := fb0.lt
                obtain ⟨ba1, bb1⟩ := fb1.read; have bl1 := fb1.lt
                simp only [Act.put, List.setIfInBounds_toArray, List.set_cons_zero, List.set_cons_succ]
                simp only [cond_true, cond_false]
                refine inv_op ho (by kernel_rfl) (fun K hK => ?_)
                clear ho
                go_simp
                refine hK.out _ _ ?_
                unfold RFour2
                refine ⟨gg0, gg1, gg2, gg3, gg4, gg5, gg6, gg7, true, true, gg10, gg11, gg12, gg13, rfl, by simp only [Act.put, List.setIfInBounds_toArray, List.set_cons_zero, List.set_cons_succ, cond_true, cond_false, Bool.cond_self], ?_, ?_, ?_, ?_, ?_, ?_, ?_⟩
                · exact fb0
                · exact fb1
                · exact fb2
                · exact fB
                · exact fL
                · exact h1_13
                · exact h7_13
              · have ge10 : gg10 = false := hi2
                have ge9 : gg9 = true := inv_dep ho hall 9 (by kernel_rfl)
                clear hall hi1 hi2
                subst ge10 ge9
                have ho2 := ho
                simp only [List.getElem?_toArray, List.getElem?_cons_zero, List.getElem?_cons_succ] at ho2
                have ho3 := Option.some.inj ho2; clear ho2; subst ho3
                obtain ⟨ba0, bb0⟩ := fb0.read; have bl0 := fb0.lt
                obtain ⟨ba1, bb1⟩ := fb1.read; have bl1 := fb1.lt
                simp only [Act.put, List.setIfInBounds_toArray, List.set_cons_zero, List.set_cons_succ]
                simp only [cond_true, cond_false]
                refine inv_op ho (by kernel_rfl) (fun K hK => ?_)
                clear ho
                go_simp
                refine hK.out _ _ ?_
                unfold RFour2
                refine ⟨gg0, gg1, gg2, gg3, gg4, gg5, gg6, gg7, gg8, true, true, gg11, gg12, gg13, rfl, by simp only [Act.put, List.setIfInBounds_toArray, List.set_cons_zero, List.set_cons_succ, cond_true, cond_false, Bool.cond_self], ?_, ?_, ?_, ?_, ?_, ?_, ?_⟩
                · exact fb0
                · exact fb1
                · exact fb2
                · exact fB
                · exact fL
                · exact h1_13
                · exact h7_13
              · have ge11 : gg11 = false := hi2
                have ge7 : gg7 = true := inv_dep ho hall 7 (by kernel_rfl)
                have ge10 : gg10 = true := inv_dep ho hall 10 (by kernel_rfl)
                clear hall hi1 hi2
                subst ge11 ge7 ge10
                have ho2 := ho
                simp only [List.getElem?_toArray, List.getElem?_cons_zero, List.getElem?_cons_succ] at ho2
                have ho3 := Option.some.inj ho2; clear ho2; subst ho3
                obtain ⟨ba0, bb0⟩ := fb0.read; have bl0 := fb0.lt
                obtain ⟨ba1, bb1⟩ := fb1.read; have bl1 := fb1.lt
                simp only [Act.put, List.setIfInBounds_toArray, List.set_cons_zero, List.set_cons_succ]
                simp only [cond_true, cond_false]
                refine inv_op ho (by kernel_rfl) (fun K hK => ?_)
                clear ho
                go_simp
                go_at_call 123; (with_reducible refine (HM2.out _).mono ?_); rintro e w1 ⟨rfl, hb⟩
                refine hK.out _ _ ?_
                unfold RFour2
                refine ⟨gg0, gg1, gg2, gg3, gg4, gg5, gg6, true, gg8, gg9, true, true, gg12, gg13, rfl, by simp only [Act.put, List.setIfInBounds_toArray, List.set_cons_zero, List.set_cons_succ, cond_true, cond_false, Bool.cond_self], ?_, ?_, ?_, ?_, ?_, ?_, ?_⟩
                · exact Blk.later hb fb0
                · exact Blk.later hb fb1
                · exact Blk.later hb fb2
                · exact belowThru fB hb
                · have := hb.size; omega
                · exact h1_13
                · intro _; rfl
              · have ge12 : gg12 = false := hi2
                have ge5 : gg5 = true := inv_dep ho hall 5 (by kernel_rfl)
                have ge11 : gg11 = true := inv_dep ho hall 11 (by kernel_rfl)
                clear hall hi1 hi2
                subst ge12 ge5 ge11
                have ho2 := ho
                simp only [List.getElem?_toArray, List.getElem?_cons_zero, List.getElem?_cons_succ] at ho2
                have ho3 := Option.some.inj ho2; clear ho2; subst ho3
                obtain ⟨ba0, bb0⟩ := fb0.read; have bl0 := fb0.lt
                obtain ⟨ba1, bb1⟩ := fb1.read; have bl1 := fb1.lt
                simp only [Act.put, List.setIfInBounds_toArray, List.set_cons_zero, List.set_cons_succ]
                simp only [cond_true, cond_false]
                refine inv_op ho (by kernel_rfl) (fun K hK => ?_)
                clear ho
                go_simp
                refine hK.out _ _ ?_
                unfold RFour2
                refine ⟨gg0, gg1, gg2, gg3, gg4, true, gg6, gg7, gg8, gg9, gg10, true, true, gg13, rfl, by simp only [Act.put, List.setIfInBounds_toArray, List.set_cons_zero, List.set_cons_succ, cond_true, cond_false, Bool.cond_self], ?_, ?_, ?_, ?_, ?_, ?_, ?_⟩
                · exact fb0
                · exact fb1
                · exact fb2
                · exact fB
                · exact fL
                · exact h1_13
                · exact h7_13
              · have ge13 : gg13 = false := hi2
                have ge12 : gg12 = true := inv_dep ho hall 12 (by kernel_rfl)
                have ge1 : gg1 = true := inv_dep ho hall 1 (by kernel_rfl)
                have ge7 : gg7 = true := inv_dep ho hall 7 (by kernel_rfl)
                clear hall hi1 hi2
                subst ge13 ge12 ge1 ge7
                have ho2 := ho
                simp only [List.getElem?_toArray, List.getElem?_cons_zero, List.getElem?_cons_succ] at ho2
                have ho3 := Option.some.inj ho2; clear ho2; subst ho3
                simp only [cond_true, cond_false] at fb2
                obtain ⟨ba0, bb0⟩ := fb0.read; have bl0 := fb0.lt
                obtain ⟨ba1, bb1⟩ := fb1.read; have bl1 := fb1.lt
                obtain ⟨ba2, bb2⟩ := fb2.read; have bl2 := fb2.lt
                simp only [Act.put, List.setIfInBounds_toArray, List.set_cons_zero, List.set_cons_succ]
                simp only [cond_true, cond_false]
                refine inv_op ho (by kernel_rfl) (fun K hK => ?_)
                clear ho
                go_simp
                refine hK.out _ _ ?_
                unfold RFour2
                refine ⟨gg0, true, gg2, gg3, gg4, gg5, gg6, true, gg8, gg9, gg10, gg11, true, true, rfl, by simp only [Act.put, List.setIfInBounds_toArray, List.set_cons_zero, List.set_cons_succ, cond_true, cond_false, Bool.cond_self], ?_, ?_, ?_, ?_, ?_, ?_, ?_⟩
                · (repeat' (first | (with_reducible assumption) | ((with_reducible refine Blk.new ?_); first | rfl | (simp; done)) | (with_reducible refine Blk.later (by assumption) ?_) | (with_reducible refine Blk.alloc ?_) | (with_reducible refine Blk.drewN ?_) | (with_reducible refine Blk.drew ?_) | (with_reducible refine Blk.other ?_ (by first | omega | (simp; done) | (simp; omega)))))
                · (repeat' (first | (with_reducible assumption) | ((with_reducible refine Blk.new ?_); first | rfl | (simp; done)) | (with_reducible refine Blk.later (by assumption) ?_) | (with_reducible refine Blk.alloc ?_) | (with_reducible refine Blk.drewN ?_) | (with_reducible refine Blk.drew ?_) | (with_reducible refine Blk.other ?_ (by first | omega | (simp; done) | (simp; omega)))))
                · exact Blk.set (Blk.set (Blk.set (Blk.set (fb2))))
                · (repeat' (first | (with_reducible exact Below.refl _ _) | (with_reducible assumption) | (with_reducible refine belowThru ?_ (by assumption)) | (with_reducible refine belowAlloc ?_) | (with_reducible refine Below.setCell ?_ (by first | omega | (simp; done) | (simp; omega)) _) | (with_reducible refine Below.drew ?_) | (with_reducible refine below_drewN ?_ _)))
                · first | exact fL | (simp; omega)
                · intro _; rfl
                · intro _; rfl
              · exfalso; simp at hi1; omega
            case hfin =>
              intro a w9 hI
              obtain ⟨gg0, gg1, gg2, gg3, gg4, gg5, gg6, gg7, gg8, gg9, gg10, gg11, gg12, gg13, hL, rfl, fb0, fb1, fb2, fB, fL, h1_13, h7_13⟩ := hI
              have hL2 : #[true, true, true, true, true, true, true, true, true, true, true, true, true, true] = #[gg0, gg1, gg2, gg3, gg4, gg5, gg6, gg7, gg8, gg9, gg10, gg11, gg12, gg13] := hL
              cases hL2
              simp only [Act.put, List.setIfInBounds_toArray, List.set_cons_zero, List.set_cons_succ]
              simp only [cond_true]
              go_wp2_with fail
              go_roundw
              case rel => exact ⟨3, by omega, rfl, by rw [hF3]; simpa only [cond_true] using fb2, fb0, fb1, fB⟩
              case measure => simp [intOf]
          · rw [hF3] at kD aD
            go_upto_region 10 with fail
            refine wp_region_inv (RFour3 m0 n0 m1 n1 m2 n2 m3 n3 r1 s1 t1 u1 r2 s2 t2 u2 r3 s3 t3 u3 r4 s4 t4 u4 w ?i27 ?i28 ?i29 ?i30 ?i31 ?i32 ?i33 ?i34 ?i35 ?i36 ?i37 ?i38 ?i39) (by kernel_rfl) (by kernel_rfl) ?hsz ?hst ?hstep ?hfin
            case hst =>
              unfold RFour3
              refine ⟨false, false, false, false, false, false, false, false, false, false, false, false, false, false, rfl, ?_, ?_, ?_, ?_, ?_, ?_, ?_, ?_⟩
              · first | (simp only [Act.put, List.setIfInBounds_toArray, List.set_cons_zero, List.set_cons_succ, cond_false]; done) | (simp only [Act.put, List.setIfInBounds_toArray, List.set_cons_zero, List.set_cons_succ, cond_false]; rfl)
              all_goals (first | (intro h; cases h; done) | ((repeat' (first | (with_reducible assumption) | ((with_reducible refine Blk.new ?_); first | rfl | (simp; done)) | (with_reducible refine Blk.later (by assumption) ?_) | (with_reducible refine Blk.alloc ?_) | (with_reducible refine Blk.drewN ?_) | (with_reducible refine Blk.drew ?_) | (with_reducible refine Blk.other ?_ (by first | omega | (simp; done) | (simp; omega))))); done) | ((repeat' (first | (with_reducible exact Below.refl _ _) | (with_reducible assumption) | (with_reducible refine belowThru ?_ (by assumption)) | (with_reducible refine belowAlloc ?_) | (with_reducible refine Below.setCell ?_ (by first | omega | (simp; done) | (simp; omega)) _) | (with_reducible refine Below.drew ?_) | (with_reducible refine below_drewN ?_ _))); done) | (simp only [cond_false]; (repeat' (first | (with_reducible assumption) | ((with_reducible refine Blk.new ?_); first | rfl | (simp; done)) | (with_reducible refine Blk.later (by assumption) ?_) | (with_reducible refine Blk.alloc ?_) | (with_reducible refine Blk.drewN ?_) | (with_reducible refine Blk.drew ?_) | (with_reducible refine Blk.other ?_ (by first | omega | (simp; done) | (simp; omega))))); done) | (simp only [World.size_drew]; omega) | (simp only [World.size_drew] at *; omega) | (simp; done) | (simp; omega))
            case hsz =>
              intro L a w9 h
              obtain ⟨gg0, gg1, gg2, gg3, gg4, gg5, gg6, gg7, gg8, gg9, gg10, gg11, gg12, gg13, rfl, -⟩ := h; rfl
            case hstep =>
              intro L a w9 hI i hi
              obtain ⟨gg0, gg1, gg2, gg3, gg4, gg5, gg6, gg7, gg8, gg9, gg10, gg11, gg12, gg13, rfl, rfl, fb0, fb1, fb2, fB, fL, h1_13, h7_13⟩ := hI
              obtain ⟨hi1, hi2, o, ho, hall⟩ := inv_mem hi
              clear hi
              rcases i with _ | _ | _ | _ | _ | _ | _ | _ | _ | _ | _ | _ | _ | _ | i
              · have ge0 : gg0 = false := hi2
                clear hall hi1 hi2
                subst ge0
                have ho2 := ho
                simp only [List.getElem?_toArray, List.getElem?_cons_zero, List.getElem?_cons_succ] at ho2
                have ho3 := Option.some.inj ho2; clear ho2; subst ho3
                obtain ⟨ba0, bb0⟩ := fb0.read; have bl0 := fb0.lt
                obtain ⟨ba1, bb1⟩ := fb1.read; have bl1 := fb1.lt
                simp only [Act.put, List.setIfInBounds_toArray, List.set_cons_zero, List.set_cons_succ]
                simp only [cond_true, cond_false]
                refine inv_op ho (by kernel_rfl) (fun K hK => ?_)
                clear ho
                go_simp
                refine hK.out _ _ ?_
                unfold RFour3
                refine ⟨true, gg1, gg2, gg3, gg4, gg5, gg6, gg7, gg8, gg9, gg10, gg11, gg12, gg13, rfl, by simp only [Act.put, List.setIfInBounds_toArray, List.set_cons_zero, List.set_cons_succ, cond_true, cond_false, Bool.cond_self], ?_, ?_, ?_, ?_, ?_, ?_, ?_⟩
                · exact fb0
                · exact fb1
                · exact fb2
                · exact fB
                · exact fL
                · exact h1_13
                · exact h7_13
              · have ge1 : gg1 = false := hi2
                have ge0 : gg0 = true := inv_dep ho hall 0 (by kernel_rfl)
                clear hall hi1 hi2
                subst ge1 ge0
                have ho2 := ho
                simp only [List.getElem?_toArray, List.getElem?_cons_zero, List.getElem?_cons_succ] at ho2
                have ho3 := Option.some.inj ho2; clear ho2; subst ho3
                obtain ⟨ba0, bb0⟩ := fb0.read; have bl0 := fb0.lt
                obtain ⟨ba1, bb1⟩ := fb1.read; have bl1 := fb1.lt
                obtain rfl : gg13 = false := by cases gg13; rfl; exact Bool.noConfusion (h1_13 rfl)
                simp only [cond_true, cond_false] at fb2
                obtain ⟨ba9, bb9⟩ := fb2.read
                simp only [Act.put, List.setIfInBounds_toArray, List.set_cons_zero, List.set_cons_succ]
                simp only [cond_true, cond_false]
                refine inv_op ho (by kernel_rfl) (fun K hK => ?_)
                clear ho
                go_simp
                refine hK.out _ _ ?_
                unfold RFour3
                refine ⟨true, true, gg2, gg3, gg4, gg5, gg6, gg7, gg8, gg9, gg10, gg11, gg12, false, rfl, by simp only [Act.put, List.setIfInBounds_toArray, List.set_cons_zero, List.set_cons_succ, cond_true, cond_false, Bool.cond_self], ?_, ?_, ?_, ?_, ?_, ?_, ?_⟩
                · exact fb0
                · exact fb1
                · exact fb2
                · exact fB
                · exact fL
                · intro _; rfl
                · intro h; cases h
              · have ge2 : gg2 = false := hi2
                clear hall hi1 hi2
                subst ge2
                have ho2 := ho
                simp only [List.getElem?_toArray, List.getElem?_cons_zero, List.getElem?_cons_succ] at ho2
                have ho3 := Option.some.inj ho2; clear ho2; subst ho3
                obtain ⟨ba0, bb0⟩ := fb0.read; have bl0 := fb0.lt
                obtain ⟨ba1, bb1⟩ := fb1.read; have bl1 := fb1.lt
                simp only [Act.put, List.setIfInBounds_toArray, List.set_cons_zero, List.set_cons_succ]
                simp only [cond_true, cond_false]
                refine inv_op ho (by kernel_rfl) (fun K hK => ?_)
                clear ho
                go_simp
                refine hK.out _ _ ?_
                unfold RFour3
                refine ⟨gg0, gg1, true, gg3, gg4, gg5, gg6, gg7, gg8, gg9, gg10, gg11, gg12, gg13, rfl, by simp only [Act.put, List.setIfInBounds_toArray, List.set_cons_zero, List.set_cons_succ, cond_true, cond_false, Bool.cond_self], ?_, ?_, ?_, ?_, ?_, ?_, ?_⟩
                · exact fb0
                · exact fb1
                · exact fb2
                · exact fB
                · exact fL
                · exact h1_13
                · exact h7_13
              · have ge3 : gg3 = false := hi2
                have ge2 : gg2 = true := inv_dep ho hall 2 (by kernel_rfl)
                clear hall hi1 hi2
                subst ge3 ge2
                have ho2 := ho
                simp only [List.getElem?_toArray, List.getElem?_cons_zero, List.getElem?_cons_succ] at ho2
                have ho3 := Option.some.inj ho2; clear ho2; subst ho3
                obtain ⟨ba0, bb0⟩ := fb0.read; have bl0 := fb0.lt
                obtain ⟨ba1, bb1⟩ := fb1.read; have bl1 := fb1.lt
                simp only [Act.put, List.setIfInBounds_toArray, List.set_cons_zero, List.set_cons_succ]
                simp only [cond_true, cond_false]
                refine inv_op ho (by kernel_rfl) (fun K hK => ?_)
                clear ho
                go_simp
                refine hK.out _ _ ?_
                unfold RFour3
                refine ⟨gg0, gg1, true, true, gg4, gg5, gg6, gg7, gg8, gg9, gg10, gg11, gg12, gg13, rfl, by simp only [Act.put, List.setIfInBounds_toArray, List.set_cons_zero, List.set_cons_succ, cond_true, cond_false, Bool.cond_self], ?_, ?_, ?_, ?_, ?_, ?_, ?_⟩
                · exact fb0
                · exact fb1
                · exact fb2
                · exact fB
                · exact fL
                · exact h1_13
                · exact h7_13
              · have ge4 : gg4 = false := hi2
                have ge3 : gg3 = true := inv_dep ho hall 3 (by kernel_rfl)
                clear hall hi1 hi2
                subst ge4 ge3
                have ho2 := ho
                simp only [List.getElem?_toArray, List.getElem?_cons_zero, List.getElem?_cons_succ] at ho2
                have ho3 := Option.some.inj ho2; clear ho2; subst ho3
                obtain ⟨ba0, bb0⟩ := fb0.read; have bl0 := fb0.lt
                obtain ⟨ba1, bb1⟩ := fb1.read; have bl1 := fb1.lt
                simp only [Act.put, List.setIfInBounds_toArray, List.set_cons_zero, List.set_cons_succ]
                simp only [cond_true, cond_false]
                refine inv_op ho (by kernel_rfl) (fun K hK => ?_)
                clear ho
                go_simp
                refine hK.out _ _ ?_
                unfold RFour3
                refine ⟨gg0, gg1, gg2, true, true, gg5, gg6, gg7, gg8, gg9, gg10, gg11, gg12, gg13, rfl, by simp only [Act.put, List.setIfInBounds_toArray, List.set_cons_zero, List.set_cons_succ, cond_true, cond_false, Bool.cond_self], ?_, ?_, ?_, ?_, ?_, ?_, ?_⟩
                · exact fb0
                · exact fb1
                · exact fb2
                · exact fB
                · exact fL
                · exact h1_13
                · exact h7_13
              · have ge5 : gg5 = false := hi2
                have ge1 : gg1 = true := inv_dep ho hall 1 (by kernel_rfl)
                have ge4 : gg4 = true := inv_dep ho hall 4 (by kernel_rfl)
                clear hall hi1 hi2
                subst ge5 ge1 ge4
                have ho2 := ho
                simp only [List.getElem?_toArray, List.getElem?_cons_zero, List.getElem?_cons_succ] at ho2
                have ho3 := Option.some.inj ho2; clear ho2; subst ho3
                obtain ⟨ba0, bb0⟩ := fb0.read; have bl0 := fb0.lt
                obtain ⟨ba1, bb1⟩ := fb1.read; have bl1 := fb1.lt
                simp only [Act.put, List.setIfInBounds_toArray, List.set_cons_zero, List.set_cons_succ]
                simp only [cond_true, cond_false]
                refine inv_op ho (by kernel_rfl) (fun K hK => ?_)
                clear ho
                go_simp
                go_at_call 122; (with_reducible refine (HL3.out _).mono ?_); rintro e w1 ⟨rfl, hb⟩
                refine hK.out _ _ ?_
                unfold RFour3
                refine ⟨gg0, true, gg2, gg3, true, true, gg6, gg7, gg8, gg9, gg10, gg11, gg12, gg13, rfl, by simp only [Act.put, List.setIfInBounds_toArray, List.set_cons_zero, List.set_cons_succ, cond_true, cond_false, Bool.cond_self], ?_, ?_, ?_, ?_, ?_, ?_, ?_⟩
                · exact Blk.later hb fb0
                · exact Blk.later hb fb1
                · exact Blk.later hb fb2
                · exact belowThru fB hb
                · have := hb.size; omega
                · intro _; rfl
                · exact h7_13
              · have ge6 : gg6 = false := hi2
                clear hall hi1 hi2
                subst ge6
                have ho2 := ho
                simp only [List.getElem?_toArray, List.getElem?_cons_zero, List.getElem?_cons_succ] at ho2
                have ho3 := Option.some.inj ho2; clear ho2; subst ho3
                obtain ⟨ba0, bb0⟩ := fb0.read; have bl0 := fb0.lt
                obtain ⟨ba1, bb1⟩ := fb1.read; have bl1 := fb1.lt
                simp only [Act.put, List.setIfInBounds_toArray, List.set_cons_zero, List.set_cons_succ]
                simp only [cond_true, cond_false]
                refine inv_op ho (by kernel_rfl) (fun K hK => ?_)
                clear ho
                go_simp
                refine hK.out _ _ ?_
                unfold RFour3
                refine ⟨gg0, gg1, gg2, gg3, gg4, gg5, true, gg7, gg8, gg9, gg10, gg11, gg12, gg13, rfl, by simp only [Act.put, List.setIfInBounds_toArray, List.set_cons_zero, List.set_cons_succ, cond_true, cond_false, Bool.cond_self], ?_, ?_, ?_, ?_, ?_, ?_, ?_⟩
                · exact fb0
                · exact fb1
                · exact fb2
                · exact fB
                · exact fL
                · exact h1_13
                · exact h7_13
              · have ge7 : gg7 = false := hi2
                have ge6 : gg6 = true := inv_dep ho hall 6 (by kernel_rfl)
                clear hall hi1 hi2
                subst ge7 ge6
                have ho2 := ho
                simp only [List.getElem?_toArray, List.getElem?_cons_zero, List.getElem?_cons_succ] at ho2
                have ho3 := Option.some.inj ho2; clear ho2; subst ho3
                obtain ⟨ba0, bb0⟩ := fb0.read; have bl0 := fb0.lt
                obtain ⟨ba1, bb1⟩ := fb1.read; have bl1 := fb1.lt
                obtain rfl : gg13 = false := by cases gg13; rfl; exact Bool.noConfusion (h7_13 rfl)
                simp only [cond_true, cond_false] at fb2
                obtain ⟨ba9, bb9⟩ := fb2.read
                simp only [Act.put, List.setIfInBounds_toArray, List.set_cons_zero, List.set_cons_succ]
                simp only [cond_true, cond_false]
                refine inv_op ho (by kernel_rfl) (fun K hK => ?_)
                clear ho
                go_simp
                refine hK.out _ _ ?_
                unfold RFour3
                refine ⟨gg0, gg1, gg2, gg3, gg4, gg5, true, true, gg8, gg9, gg10, gg11, gg12, false, rfl, by simp only [Act.put, List.setIfInBounds_toArray, List.set_cons_zero, List.set_cons_succ, cond_true, cond_false, Bool.cond_self], ?_, ?_, ?_, ?_, ?_, ?_, ?_⟩
                · exact fb0
                · exact fb1
                · exact fb2
                · exact fB
                · exact fL
                · intro h; cases h
                · intro _; rfl
              · have ge8 : gg8 = false := hi2
                clear hall hi1 hi2
                subst ge8
                have ho2 := ho
                simp only [List.getElem?_toArray, List.getElem?_cons_zero, List.getElem?_cons_succ] at ho2
                have ho3 := Option.some.inj ho2; clear ho2; subst ho3
                obtain ⟨ba0, bb0⟩ := fb0.read; have bl0 := fb0.lt
                obtain ⟨ba1, bb1⟩ := fb1.read; have bl1 := fb1.lt
                simp only [Act.put, List.setIfInBounds_toArray, List.set_cons_zero, List.set_cons_succ]
                simp only [cond_true, cond_false]
                refine inv_op ho (by kernel_rfl) (fun K hK => ?_)
                clear ho
                go_simp
                refine hK.out _ _ ?_
                unfold RFour3
                refine ⟨gg0, gg1, gg2, gg3, gg4, gg5, gg6, gg7, true, gg9, gg10, gg11, gg12, gg13, rfl, by simp only [Act.put, List.setIfInBounds_toArray, List.set_cons_zero, List.set_cons_succ, cond_true, cond_false, Bool.cond_self], ?_, ?_, ?_, ?_, ?_, ?_, ?_⟩
                · exact fb0
                · exact fb1
                · exact fb2
                · exact fB
                · exact fL
                · exact h1_13
                · exact h7_13
              · have ge9 : gg9 = false := hi2
                have ge8 : gg8 = true := inv_dep ho hall 8 (by kernel_rfl)
                clear hall hi1 hi2
                subst ge9 ge8
                have ho2 := ho
                simp only [List.getElem?_toArray, List.getElem?_cons_zero, List.getElem?_cons_succ] at ho2
                have ho3 := Option.some.inj ho2; clear ho2; subst ho3
                obtain ⟨ba0, bb0⟩ := fb0.read; have bl0 := fb0.lt
                obtain ⟨ba1, bb1⟩ := fb1.read; have bl1 := fb1.lt
                simp only [Act.put, List.setIfInBounds_toArray, List.set_cons_zero, List.set_cons_succ]
                simp only [cond_true, cond_false]
                refine inv_op ho (by kernel_rfl) (fun K hK => ?_)
                clear ho
                go_simp
                refine hK.out _ _ ?_
                unfold RFour3
                refine ⟨gg0, gg1, gg2, gg3, gg4, gg5, gg6, gg7, true, true, gg10, gg11, gg12, gg13, rfl, by simp only [Act.put, List.setIfInBounds_toArray, List.set_cons_zero, List.set_cons_succ, cond_true, cond_false, Bool.cond_self], ?_, ?_, ?_, ?_, ?_, ?_, ?_⟩
                · exact fb0
                · exact fb1
                · exact fb2
                · exact fB
                · exact fL
                · exact h1_13
                · exact h7_13
              · have ge10 : gg10 = false := hi2
                have ge9 : gg9 = true := inv_dep ho hall 9 (by kernel_rfl)
                clear hall hi1 hi2
                subst ge10 ge9
                have ho2 := ho
                simp only [List.getElem?_toArray, List.getElem?_cons_zero, List.getElem?_cons_succ] at ho2
                have ho3 := Option.some.inj ho2; clear ho2; subst ho3
                obtain ⟨ba0, bb0⟩ := fb0.read; have bl0 := fb0.lt
                obtain ⟨ba1, bb1⟩ := fb1.read; have bl1 := fb1.lt
                simp only [Act.put, List.setIfInBounds_toArray, List.set_cons_zero, List.set_cons_succ]
                simp only [cond_true, cond_false]
                refine inv_op ho (by kernel_rfl) (fun K hK => ?_)
                clear ho
                go_simp
                refine hK.out _ _ ?_
                unfold RFour3
                refine ⟨gg0, gg1, gg2, gg3, gg4, gg5, gg6, gg7, gg8, true, true, gg11, gg12, gg13, rfl, by simp only [Act.put, List.setIfInBounds_toArray, List.set_cons_zero, List.set_cons_succ, cond_true, cond_false, Bool.cond_self], ?_, ?_, ?_, ?_, ?_, ?_, ?_⟩
                · exact fb0
                · exact fb1
                · exact fb2
                · exact fB
                · exact fL
                · exact h1_13
                · exact h7_13
              · have ge11 : gg11 = false := hi2
                have ge7 : gg7 = true := inv_dep ho hall 7 (by kernel_rfl)
                have ge10 : gg10 = true := inv_dep ho hall 10 (by kernel_rfl)
                clear hall hi1 hi2
                subst ge11 ge7 ge10
                have ho2 := ho
                simp only [List.getElem?_toArray, List.getElem?_cons_zero, List.getElem?_cons_succ] at ho2
                have ho3 := Option.some.inj ho2; clear ho2; subst ho3
                obtain ⟨ba0, bb0⟩ := fb0.read; have bl0 := fb0.lt
                obtain ⟨ba1, bb1⟩ := fb1.read; have bl1 := fb1.lt
                simp only [Act.put, List.setIfInBounds_toArray, List.set_cons_zero, List.set_cons_succ]
                simp only [cond_true, cond_false]
                refine inv_op ho (by kernel_rfl) (fun K hK => ?_)
                clear ho
                go_simp
                go_at_call 123; (with_reducible refine (HM3.out _).mono ?_); rintro e w1 ⟨rfl, hb⟩
                refine hK.out _ _ ?_
                unfold RFour3
                refine ⟨gg0, gg1, gg2, gg3, gg4, gg5, gg6, true, gg8, gg9, true, true, gg12, gg13, rfl, by simp only [Act.put, List.setIfInBounds_toArray, List.set_cons_zero, List.set_cons_succ, cond_true, cond_false, Bool.cond_self], ?_, ?_, ?_, ?_, ?_, ?_, ?_⟩
                · exact Blk.later hb fb0
                · exact Blk.later hb fb1
                · exact Blk.later hb fb2
                · exact belowThru fB hb
                · have := hb.size; omega
                · exact h1_13
                · intro _; rfl
              · have ge12 : gg12 = false := hi2
                have ge5 : gg5 = true := inv_dep ho hall 5 (by kernel_rfl)
                have ge11 : gg11 = true := inv_dep ho hall 11 (by kernel_rfl)
                clear hall hi1 hi2
                subst ge12 ge5 ge11
                have ho2 := ho
                simp only [List.getElem?_toArray, List.getElem?_cons_zero, List.getElem?_cons_succ] at ho2
                have ho3 := Option.some.inj ho2; clear ho2; subst ho3
                obtain ⟨ba0, bb0⟩ := fb0.read; have bl0 := fb0.lt
                obtain ⟨ba1, bb1⟩ := fb1.read; have bl1 := fb1.lt
                simp only [Act.put, List.setIfInBounds_toArray, List.set_cons_zero, List.set_cons_succ]
                simp only [cond_true, cond_false]
                refine inv_op ho (by kernel_rfl) (fun K hK => ?_)
                clear ho
                go_simp
                refine hK.out _ _ ?_
                unfold RFour3
                refine ⟨gg0, gg1, gg2, gg3, gg4, true, gg6, gg7, gg8, gg9, gg10, true, true, gg13, rfl, by simp only [Act.put, List.setIfInBounds_toArray, List.set_cons_zero, List.set_cons_succ, cond_true, cond_false, Bool.cond_self], ?_, ?_, ?_, ?_, ?_, ?_, ?_⟩
                · exact fb0
                · exact fb1
                · exact fb2
                · exact fB
                · exact fL
                · exact h1_13
                · exact h7_13
              · have ge13 : gg13 = false := hi2
                have ge12 : gg12 = true := inv_dep ho hall 12 (by kernel_rfl)
                have ge1 : gg1 = true := inv_dep ho hall 1 (by kernel_rfl)
                have ge7 : gg7 = true := inv_dep ho hall 7 (by kernel_rfl)
                clear hall hi1 hi2
                subst ge13 ge12 ge1 ge7
                have ho2 := ho
                simp only [List.getElem?_toArray, List.getElem?_cons_zero, List.getElem?_cons_succ] at ho2
                have ho3 := Option.some.inj ho2; clear ho2; subst ho3
                simp only [cond_true, cond_false] at fb2
                obtain ⟨ba0, bb0⟩ := fb0.read; have bl0 := fb0.lt
                obtain ⟨ba1, bb1⟩ := fb1.read; have bl1 := fb1.lt
                obtain ⟨ba2, bb2⟩ := fb2.read; have bl2 := fb2.lt
                simp only [Act.put, List.setIfInBounds_toArray, List.set_cons_zero, List.set_cons_succ]
                simp only [cond_true, cond_false]
                refine inv_op ho (by kernel_rfl) (fun K hK => ?_)
                clear ho
                go_simp
                refine hK.out _ _ ?_
                unfold RFour3
                refine ⟨gg0, true, gg2, gg3, gg4, gg5, gg6, true, gg8, gg9, gg10, gg11, true, true, rfl, by simp only [Act.put, List.setIfInBounds_toArray, List.set_cons_zero, List.set_cons_succ, cond_true, cond_false, Bool.cond_self], ?_, ?_, ?_, ?_, ?_, ?_, ?_⟩
                · (repeat' (first | (with_reducible assumption) | ((with_reducible refine Blk.new ?_); first | rfl | (simp; done)) | (with_reducible refine Blk.later (by assumption) ?_) | (with_reducible refine Blk.alloc ?_) | (with_reducible refine Blk.drewN ?_) | (with_reducible refine Blk.drew ?_) | (with_reducible refine Blk.other ?_ (by first | omega | (simp; done) | (simp; omega)))))
                · (repeat' (first | (with_reducible assumption) | ((with_reducible refine Blk.new ?_); first | rfl | (simp; done)) | (with_reducible refine Blk.later (by assumption) ?_) | (with_reducible refine Blk.alloc ?_) | (with_reducible refine Blk.drewN ?_) | (with_reducible refine Blk.drew ?_) | (with_reducible refine Blk.other ?_ (by first | omega | (simp; done) | (simp; omega)))))
                · exact Blk.set (Blk.set (Blk.set (Blk.set (fb2))))
                · (repeat' (first | (with_reducible exact Below.refl _ _) | (with_reducible assumption) | (with_reducible refine belowThru ?_ (by assumption)) | (with_reducible refine belowAlloc ?_) | (with_reducible refine Below.setCell ?_ (by first | omega | (simp; done) | (simp; omega)) _) | (with_reducible refine Below.drew ?_) | (with_reducible refine below_drewN ?_ _)))
                · first | exact fL | (simp; omega)
                · intro _; rfl
                · intro _; rfl
              · exfalso; simp at hi1; omega
            case hfin =>
              intro a w9 hI
              obtain ⟨gg0, gg1, gg2, gg3, gg4, gg5, gg6, gg7, gg8, gg9, gg10, gg11, gg12, gg13, hL, rfl, fb0, fb1, fb2, fB, fL, h1_13, h7_13⟩ := hI
              have hL2 : #[true, true, true, true, true, true, true, true, true, true, true, true, true, true] = #[gg0, gg1, gg2, gg3, gg4, gg5, gg6, gg7, gg8, gg9, gg10, gg11, gg12, gg13] := hL
              cases hL2
              simp only [Act.put, List.setIfInBounds_toArray, List.set_cons_zero, List.set_cons_succ]
              simp only [cond_true]
              go_wp2_with fail
              go_roundw
              case rel => exact ⟨4, by omega, rfl, by rw [hF4]; simpa only [cond_true] using fb2, fb0, fb1, fB⟩
              case measure => simp [intOf]
        · rw [hF4] at kD aD
          clear HL0 HL1 HL2 HL3 HM0 HM1 HM2 HM3
          go_wp2_with fail
          exact bodyPost_ret (v := .tuple #[.agg #[.int .i64 r4, .int .i64 s4, .int .i64 t4, .int .i64 u4], .int .i64 0]) (by simp only [results, Try.results98]; go_simp) rfl ⟨rfl, by (repeat' (first | (with_reducible exact Below.refl _ _) | (with_reducible assumption) | (with_reducible refine belowThru ?_ (by assumption)) | (with_reducible refine belowAlloc ?_) | (with_reducible refine Below.setCell ?_ (by first | omega | (simp; done) | (simp; omega)) _) | (with_reducible refine Below.drew ?_) | (with_reducible refine below_drewN ?_ _)))⟩

end Go.Proofs.Ytdimmnoflenfhaa
/-
  The document's own answers, layer 1: four numbers not all of which fit.
-/
namespace Go.Proofs.Ytdimmnoflenfhaa
open Go.RowKit
set_option linter.unusedVariables false
set_option linter.unusedSimpArgs false

set_option maxRecDepth 100000 in
set_option maxHeartbeats 4000000 in
theorem four_no (m0 n0 m1 n1 m2 n2 m3 n3 : Int) (v0 v1 v2 v3 : Bool) (w : World) (hv : ¬ (v0 = true ∧ v1 = true ∧ v2 = true ∧ v3 = true)) :
    Calls Try.prog 98 #[.agg #[.int .i64 m0, .int .i64 n0, .int .i64 m1, .int .i64 n1, .int .i64 m2, .int .i64 n2, .int .i64 m3, .int .i64 n3], .agg #[.bool v0, .bool v1, .bool v2, .bool v3]] w fun e w' => e = .returned (.tuple #[.agg #[.int .i64 0, .int .i64 0, .int .i64 0, .int .i64 0], .int .i64 4]) ∧ Below w.heap.size w w' := by
  have HV := Lib.hid hv
  clear hv
  go_enter Try.func98, Try.ntmps98
  go_wp2
  go_loopw [7] (fun i wr => ∃ k : Int, (0 ≤ k ∧ k ≤ 4) ∧ i = .int .i64 k ∧ Hid ((0 < k → v0 = true) ∧ (1 < k → v1 = true) ∧ (2 < k → v2 = true) ∧ (3 < k → v3 = true)) ∧ Blk wr w.heap.size #[.int .i64 m0, .int .i64 n0, .int .i64 m1, .int .i64 n1, .int .i64 m2, .int .i64 n2, .int .i64 m3, .int .i64 n3] 99 ∧ Blk wr (w.heap.size + 1) #[.bool v0, .bool v1, .bool v2, .bool v3] 122 ∧ Blk wr (w.heap.size + 1 + 1) #[.int .i64 0, .int .i64 0, .int .i64 0, .int .i64 0] 30 ∧ Below w.heap.size w wr) (fun i _ => 4 - (intOf i).toNat)
  case atStart => exact ⟨0, by omega, rfl, Lib.hid ⟨fun h => absurd h (by omega), fun h => absurd h (by omega), fun h => absurd h (by omega), fun h => absurd h (by omega)⟩, by (repeat' (first | (with_reducible assumption) | ((with_reducible refine Blk.new ?_); first | rfl | (simp; done)) | (with_reducible refine Blk.later (by assumption) ?_) | (with_reducible refine Blk.alloc ?_) | (with_reducible refine Blk.drewN ?_) | (with_reducible refine Blk.drew ?_) | (with_reducible refine Blk.other ?_ (by first | omega | (simp; done) | (simp; omega))))), by (repeat' (first | (with_reducible assumption) | ((with_reducible refine Blk.new ?_); first | rfl | (simp; done)) | (with_reducible refine Blk.later (by assumption) ?_) | (with_reducible refine Blk.alloc ?_) | (with_reducible refine Blk.drewN ?_) | (with_reducible refine Blk.drew ?_) | (with_reducible refine Blk.other ?_ (by first | omega | (simp; done) | (simp; omega))))), by (repeat' (first | (with_reducible assumption) | ((with_reducible refine Blk.new ?_); first | rfl | (simp; done)) | (with_reducible refine Blk.later (by assumption) ?_) | (with_reducible refine Blk.alloc ?_) | (with_reducible refine Blk.drewN ?_) | (with_reducible refine Blk.drew ?_) | (with_reducible refine Blk.other ?_ (by first | omega | (simp; done) | (simp; omega))))), by (repeat' (first | (with_reducible exact Below.refl _ _) | (with_reducible assumption) | (with_reducible refine belowThru ?_ (by assumption)) | (with_reducible refine belowAlloc ?_) | (with_reducible refine Below.setCell ?_ (by first | omega | (simp; done) | (simp; omega)) _) | (with_reducible refine Below.drew ?_) | (with_reducible refine below_drewN ?_ _)))⟩
  case round =>
    obtain ⟨k, hk, rfl, hp, kA, kB, kC, hB⟩ := hrel
    obtain ⟨aA, bA⟩ := kA.read; obtain ⟨aB, bB⟩ := kB.read; obtain ⟨aC, bC⟩ := kC.read
    have zzC := kC.lt
    have hc : k = 0 ∨ k = 1 ∨ k = 2 ∨ k = 3 ∨ k = 4 := by omega
    rcases hc with rfl | rfl | rfl | rfl | rfl
    · cases v0
      · go_wp2_with fail
        exact bodyPost_ret (v := .tuple #[.agg #[.int .i64 0, .int .i64 0, .int .i64 0, .int .i64 0], .int .i64 4]) (by simp only [results, Try.results98]; go_simp) rfl ⟨rfl, by (repeat' (first | (with_reducible exact Below.refl _ _) | (with_reducible assumption) | (with_reducible refine belowThru ?_ (by assumption)) | (with_reducible refine belowAlloc ?_) | (with_reducible refine Below.setCell ?_ (by first | omega | (simp; done) | (simp; omega)) _) | (with_reducible refine Below.drew ?_) | (with_reducible refine below_drewN ?_ _)))⟩
      · go_wp2_with fail
        go_roundw
        case rel => exact ⟨1, by omega, rfl, Lib.hid ⟨fun _ => by first | trivial | rfl, fun h => absurd h (by omega), fun h => absurd h (by omega), fun h => absurd h (by omega)⟩, kA, kB, kC, hB⟩
        case measure => simp [intOf]
    · cases v1
      · go_wp2_with fail
        exact bodyPost_ret (v := .tuple #[.agg #[.int .i64 0, .int .i64 0, .int .i64 0, .int .i64 0], .int .i64 4]) (by simp only [results, Try.results98]; go_simp) rfl ⟨rfl, by (repeat' (first | (with_reducible exact Below.refl _ _) | (with_reducible assumption) | (with_reducible refine belowThru ?_ (by assumption)) | (with_reducible refine belowAlloc ?_) | (with_reducible refine Below.setCell ?_ (by first | omega | (simp; done) | (simp; omega)) _) | (with_reducible refine Below.drew ?_) | (with_reducible refine below_drewN ?_ _)))⟩
      · go_wp2_with fail
        go_roundw
        case rel => exact ⟨2, by omega, rfl, Lib.hid ⟨fun _ => hp.out.1 (by omega), fun _ => by first | trivial | rfl, fun h => absurd h (by omega), fun h => absurd h (by omega)⟩, kA, kB, kC, hB⟩
        case measure => simp [intOf]
    · cases v2
      · go_wp2_with fail
        exact bodyPost_ret (v := .tuple #[.agg #[.int .i64 0, .int .i64 0, .int .i64 0, .int .i64 0], .int .i64 4]) (by simp only [results, Try.results98]; go_simp) rfl ⟨rfl, by (repeat' (first | (with_reducible exact Below.refl _ _) | (with_reducible assumption) | (with_reducible refine belowThru ?_ (by assumption)) | (with_reducible refine belowAlloc ?_) | (with_reducible refine Below.setCell ?_ (by first | omega | (simp; done) | (simp; omega)) _) | (with_reducible refine Below.drew ?_) | (with_reducible refine below_drewN ?_ _)))⟩
      · go_wp2_with fail
        go_roundw
        case rel => exact ⟨3, by omega, rfl, Lib.hid ⟨fun _ => hp.out.1 (by omega), fun _ => hp.out.2.1 (by omega), fun _ => by first | trivial | rfl, fun h => absurd h (by omega)⟩, kA, kB, kC, hB⟩
        case measure => simp [intOf]
    · cases v3
      · go_wp2_with fail
        exact bodyPost_ret (v := .tuple #[.agg #[.int .i64 0, .int .i64 0, .int .i64 0, .int .i64 0], .int .i64 4]) (by simp only [results, Try.results98]; go_simp) rfl ⟨rfl, by (repeat' (first | (with_reducible exact Below.refl _ _) | (with_reducible assumption) | (with_reducible refine belowThru ?_ (by assumption)) | (with_reducible refine belowAlloc ?_) | (with_reducible refine Below.setCell ?_ (by first | omega | (simp; done) | (simp; omega)) _) | (with_reducible refine Below.drew ?_) | (with_reducible refine below_drewN ?_ _)))⟩
      · exact absurd ⟨hp.out.1 (by omega), hp.out.2.1 (by omega), hp.out.2.2.1 (by omega), rfl⟩ HV.out
    · exact absurd ⟨hp.out.1 (by omega), hp.out.2.1 (by omega), hp.out.2.2.1 (by omega), hp.out.2.2.2 (by omega)⟩ HV.out
end Go.Proofs.Ytdimmnoflenfhaa
