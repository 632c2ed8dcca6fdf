/-
  The texts that the laws of this seat share, merged: part 5.
-/
import Derived.BigQuiet
import Derived.Deep.CutBlock
import Derived.Deep.DeepCutAuto
import Derived.Deep.Draws
import Derived.Deep.LoopGhost
import Derived.Deep.QuietTactic
import Derived.Deep.RegionHeld3
import Derived.Deep.RegionLaw
import Derived.IntWalk
import Derived.Laws.AppendOwn
import Derived.Laws.Bits64b
import Derived.Lib.Hide
import Derived.Lib.ItoaNum
import Derived.LoopTactic
import Derived.OneCell
import Derived.Orders
import Derived.Shelf.Bits.Mul64
import Derived.Shelf.Small.Bits
import Derived.Shelf.Spec.BitsCarry
import Derived.Shelf.Strconv.Itoa0
import Derived.Test.YtdimmnoflenfhaaProg
import Derived.WalkKit
import Derived.WalkLawsBesides
import Derived.WalkSmall
import Derived.WalkSpells
import Derived.Test.YtdimmnoflenfhaaV2
import Derived.Test.YtdimmnoflenfhaaV4
/-
  The document's own answers, layer 1: sums of fractions.
-/
namespace Go.Proofs.Ytdimmnoflenfhaa
open Go.RowKit

/-- What holds of the region whichever operations have come up. -/
def RPlusI1 (a b c d m1 m2 X1 X0 Y1 Y0 : Int) (w : World) (i9 i10 i11 i12 i13 i14 i15 i16 i17 i18 i19 i20 i21 i22 i6 i7 : Value) (b9 : Act) (L9 : Array Bool) (a9 : Act) (w9 : World) : Prop :=
  ∃ (gg0 gg1 gg2 gg3 gg4 gg5 gg6 gg7 gg8 gg9 gg10 gg11 gg12 gg13 gg14 gg15 gg16 gg17 : Bool) (x14 x15 : Nat), L9 = #[gg0, gg1, gg2, gg3, gg4, gg5, gg6, gg7, gg8, gg9, gg10, gg11, gg12, gg13, gg14, gg15, gg16, gg17] ∧ a9 = ((((((((((((((((b9).put (some 9) (cond gg0 (.pointer (some ⟨w.heap.size, 0, none⟩)) (i9))).put (some 10) (cond gg1 (.int .i64 a) (i10))).put (some 11) (cond gg2 (.int .u64 m1) (i11))).put (some 12) (cond gg3 (.pointer (some ⟨(w.heap.size + 1), 1, none⟩)) (i12))).put (some 13) (cond gg4 (.int .i64 d) (i13))).put (some 14) (cond gg5 (.int .u64 d) (i14))).put (some 15) (cond gg6 (.agg #[.int .u64 X1, .int .u64 X0]) (i15))).put (some 16) (cond gg7 (.pointer (some ⟨(w.heap.size + 1), 0, none⟩)) (i16))).put (some 17) (cond gg8 (.int .i64 c) (i17))).put (some 18) (cond gg9 (.int .u64 m2) (i18))).put (some 19) (cond gg10 (.pointer (some ⟨w.heap.size, 1, none⟩)) (i19))).put (some 20) (cond gg11 (.int .i64 b) (i20))).put (some 21) (cond gg12 (.int .u64 b) (i21))).put (some 22) (cond gg13 (.agg #[.int .u64 Y1, .int .u64 Y0]) (i22))).put (some 6) (cond gg14 (.pointer (some ⟨x14, 0, none⟩)) (i6))).put (some 7) (cond gg15 (.pointer (some ⟨x15, 0, none⟩)) (i7)) ∧ Blk w9 w.heap.size #[.int .i64 a, .int .i64 b] 23 ∧ Blk w9 (w.heap.size + 1) #[.int .i64 c, .int .i64 d] 23 ∧ Blk w9 (w.heap.size + 1 + 1) #[.int .i64 0, .int .i64 0] 23 ∧ Below w.heap.size w w9 ∧ (w.heap.size + 1 + 1 + 1) ≤ w9.heap.size ∧ (gg14 = true → Blk w9 x14 (cond gg16 #[.int .u64 X1, .int .u64 X0] #[.int .u64 0, .int .u64 0]) 141 ∧ (w.heap.size + 1 + 1 + 1) ≤ x14) ∧ (gg15 = true → Blk w9 x15 (cond gg17 #[.int .u64 Y1, .int .u64 Y0] #[.int .u64 0, .int .u64 0]) 141 ∧ (w.heap.size + 1 + 1 + 1) ≤ x15) ∧ (gg14 = true → gg15 = true → x14 ≠ x15) ∧ (gg16 = true → gg14 = true) ∧ (gg17 = true → gg15 = true)

/-- What holds of the region whichever operations have come up. -/
def RPlusI2 (a b c d X1 X0 Y1 Y0 Z1 Z0 : Int) (pb qb : Nat) (w wc : World) (i23 i24 i25 i26 i27 i28 i29 i8 : Value) (b9 : Act) (L9 : Array Bool) (a9 : Act) (w9 : World) : Prop :=
  ∃ (gg0 gg1 gg2 gg3 gg4 gg5 gg6 gg7 gg8 : Bool) (x7 : Nat), L9 = #[gg0, gg1, gg2, gg3, gg4, gg5, gg6, gg7, gg8] ∧ a9 = ((((((((b9).put (some 23) (cond gg0 (.pointer (some ⟨w.heap.size, 1, none⟩)) (i23))).put (some 24) (cond gg1 (.int .i64 b) (i24))).put (some 25) (cond gg2 (.int .u64 b) (i25))).put (some 26) (cond gg3 (.pointer (some ⟨(w.heap.size + 1), 1, none⟩)) (i26))).put (some 27) (cond gg4 (.int .i64 d) (i27))).put (some 28) (cond gg5 (.int .u64 d) (i28))).put (some 29) (cond gg6 (.agg #[.int .u64 Z1, .int .u64 Z0]) (i29))).put (some 8) (cond gg7 (.pointer (some ⟨x7, 0, none⟩)) (i8)) ∧ Blk w9 w.heap.size #[.int .i64 a, .int .i64 b] 23 ∧ Blk w9 (w.heap.size + 1) #[.int .i64 c, .int .i64 d] 23 ∧ Blk w9 (w.heap.size + 1 + 1) #[.int .i64 0, .int .i64 0] 23 ∧ Blk w9 pb #[.int .u64 X1, .int .u64 X0] 141 ∧ Blk w9 qb #[.int .u64 Y1, .int .u64 Y0] 141 ∧ Below w.heap.size w w9 ∧ wc.heap.size ≤ w9.heap.size ∧ (gg7 = true → Blk w9 x7 (cond gg8 #[.int .u64 Z1, .int .u64 Z0] #[.int .u64 0, .int .u64 0]) 141 ∧ wc.heap.size ≤ x7) ∧ (gg8 = true → gg7 = true)

/-- What holds of the region whichever operations have come up. -/
def RPlusI4 (a b c d s t y X1 X0 Y1 Y0 Z1 Z0 U1 U0 A B : Int) (ok : Bool) (pb qb zb : Nat) (w : World) (i38 i39 i40 i41 i42 i43 i44 i45 i46 i47 i48 i49 i50 i51 i5 : Value) (b9 : Act) (L9 : Array Bool) (a9 : Act) (w9 : World) : Prop :=
  ∃ (gg0 gg1 gg2 gg3 gg4 gg5 gg6 gg7 gg8 gg9 gg10 gg11 gg12 gg13 gg14 gg15 : Bool), L9 = #[gg0, gg1, gg2, gg3, gg4, gg5, gg6, gg7, gg8, gg9, gg10, gg11, gg12, gg13, gg14, gg15] ∧ a9 = (((((((((((((((b9).put (some 38) (cond gg0 (.pointer (some ⟨w.heap.size, 0, none⟩)) (i38))).put (some 39) (cond gg1 (.int .i64 a) (i39))).put (some 40) (cond gg2 (.int .i64 s) (i40))).put (some 41) (cond gg3 (.pointer (some ⟨(w.heap.size + 1), 0, none⟩)) (i41))).put (some 42) (cond gg4 (.int .i64 c) (i42))).put (some 43) (cond gg5 (.int .i64 t) (i43))).put (some 44) (cond gg6 (.int .i64 y) (i44))).put (some 45) (cond gg7 (.agg #[.int .u64 X1, .int .u64 X0]) (i45))).put (some 46) (cond gg8 (.agg #[.int .u64 Y1, .int .u64 Y0]) (i46))).put (some 47) (cond gg9 (.agg #[.int .u64 U1, .int .u64 U0]) (i47))).put (some 48) (cond gg10 (.agg #[.int .u64 Z1, .int .u64 Z0]) (i48))).put (some 49) (cond gg11 (.tuple #[.agg #[.int .i64 A, .int .i64 B], .bool ok]) (i49))).put (some 50) (cond gg12 (.agg #[.int .i64 A, .int .i64 B]) (i50))).put (some 51) (cond gg13 (.bool ok) (i51))).put (some 5) (cond gg15 (.bool ok) (i5)) ∧ Blk w9 w.heap.size #[.int .i64 a, .int .i64 b] 23 ∧ Blk w9 (w.heap.size + 1) #[.int .i64 c, .int .i64 d] 23 ∧ Blk w9 (w.heap.size + 1 + 1) (cond gg14 #[.int .i64 A, .int .i64 B] #[.int .i64 0, .int .i64 0]) 23 ∧ Blk w9 pb #[.int .u64 X1, .int .u64 X0] 141 ∧ Blk w9 qb #[.int .u64 Y1, .int .u64 Y0] 141 ∧ Blk w9 zb #[.int .u64 Z1, .int .u64 Z0] 141 ∧ Below w.heap.size w w9 ∧ (w.heap.size + 1 + 1 + 1) ≤ w9.heap.size

set_option linter.unusedVariables false in
/-- What holds of the region whichever operations have come up. -/
def RPlusI6 (a b c d s t y X1 X0 Y1 Y0 Z1 Z0 U1 U0 A B : Int) (ok : Bool) (pb qb zb : Nat) (w : World) (i55 i56 i57 i58 i59 i60 i61 i62 i63 i64 i5 : Value) (b9 : Act) (L9 : Array Bool) (a9 : Act) (w9 : World) : Prop :=
  ∃ (gg0 gg1 gg2 gg3 gg4 gg5 gg6 gg7 gg8 gg9 gg10 gg11 : Bool), L9 = #[gg0, gg1, gg2, gg3, gg4, gg5, gg6, gg7, gg8, gg9, gg10, gg11] ∧ a9 = (((((((((((b9).put (some 55) (cond gg0 (.pointer (some ⟨(w.heap.size + 1), 0, none⟩)) (i55))).put (some 56) (cond gg1 (.int .i64 c) (i56))).put (some 57) (cond gg2 (.int .i64 t) (i57))).put (some 58) (cond gg3 (.agg #[.int .u64 Y1, .int .u64 Y0]) (i58))).put (some 59) (cond gg4 (.agg #[.int .u64 X1, .int .u64 X0]) (i59))).put (some 60) (cond gg5 (.agg #[.int .u64 U1, .int .u64 U0]) (i60))).put (some 61) (cond gg6 (.agg #[.int .u64 Z1, .int .u64 Z0]) (i61))).put (some 62) (cond gg7 (.tuple #[.agg #[.int .i64 A, .int .i64 B], .bool ok]) (i62))).put (some 63) (cond gg8 (.agg #[.int .i64 A, .int .i64 B]) (i63))).put (some 64) (cond gg9 (.bool ok) (i64))).put (some 5) (cond gg11 (.bool ok) (i5)) ∧ Blk w9 w.heap.size #[.int .i64 a, .int .i64 b] 23 ∧ Blk w9 (w.heap.size + 1) #[.int .i64 c, .int .i64 d] 23 ∧ Blk w9 (w.heap.size + 1 + 1) (cond gg10 #[.int .i64 A, .int .i64 B] #[.int .i64 0, .int .i64 0]) 23 ∧ Blk w9 pb #[.int .u64 X1, .int .u64 X0] 141 ∧ Blk w9 qb #[.int .u64 Y1, .int .u64 Y0] 141 ∧ Blk w9 zb #[.int .u64 Z1, .int .u64 Z0] 141 ∧ Below w.heap.size w w9 ∧ (w.heap.size + 1 + 1 + 1) ≤ w9.heap.size

set_option linter.unusedVariables false in
/-- What holds of the region whichever operations have come up. -/
def RPlusI7 (a b c d s t y X1 X0 Y1 Y0 Z1 Z0 U1 U0 A B : Int) (ok : Bool) (pb qb zb : Nat) (w : World) (i65 i66 i67 i68 i69 i70 i71 i72 i73 i74 i5 : Value) (b9 : Act) (L9 : Array Bool) (a9 : Act) (w9 : World) : Prop :=
  ∃ (gg0 gg1 gg2 gg3 gg4 gg5 gg6 gg7 gg8 gg9 gg10 gg11 : Bool), L9 = #[gg0, gg1, gg2, gg3, gg4, gg5, gg6, gg7, gg8, gg9, gg10, gg11] ∧ a9 = (((((((((((b9).put (some 65) (cond gg0 (.pointer (some ⟨w.heap.size, 0, none⟩)) (i65))).put (some 66) (cond gg1 (.int .i64 a) (i66))).put (some 67) (cond gg2 (.int .i64 s) (i67))).put (some 68) (cond gg3 (.agg #[.int .u64 X1, .int .u64 X0]) (i68))).put (some 69) (cond gg4 (.agg #[.int .u64 Y1, .int .u64 Y0]) (i69))).put (some 70) (cond gg5 (.agg #[.int .u64 U1, .int .u64 U0]) (i70))).put (some 71) (cond gg6 (.agg #[.int .u64 Z1, .int .u64 Z0]) (i71))).put (some 72) (cond gg7 (.tuple #[.agg #[.int .i64 A, .int .i64 B], .bool ok]) (i72))).put (some 73) (cond gg8 (.agg #[.int .i64 A, .int .i64 B]) (i73))).put (some 74) (cond gg9 (.bool ok) (i74))).put (some 5) (cond gg11 (.bool ok) (i5)) ∧ Blk w9 w.heap.size #[.int .i64 a, .int .i64 b] 23 ∧ Blk w9 (w.heap.size + 1) #[.int .i64 c, .int .i64 d] 23 ∧ Blk w9 (w.heap.size + 1 + 1) (cond gg10 #[.int .i64 A, .int .i64 B] #[.int .i64 0, .int .i64 0]) 23 ∧ Blk w9 pb #[.int .u64 X1, .int .u64 X0] 141 ∧ Blk w9 qb #[.int .u64 Y1, .int .u64 Y0] 141 ∧ Blk w9 zb #[.int .u64 Z1, .int .u64 Z0] 141 ∧ Below w.heap.size w w9 ∧ (w.heap.size + 1 + 1 + 1) ≤ w9.heap.size

set_option maxRecDepth 100000 in
set_option maxHeartbeats 16000000 in
set_option linter.unusedSimpArgs false in
theorem rplus_walk (a b c d s t v y m1 m2 X1 X0 Y1 Y0 Z1 Z0 U1 U0 A B : Int) (ok : Bool) (w : World) (h1 : IntKind.i64.wrap (s * t) = y)
    (HS1 : Hid (∀ w, Calls Try.prog 116 #[.int .i64 a] w fun e w' => e = .returned (.int .i64 s) ∧ w = w'))
    (HS2 : Hid (∀ w, Calls Try.prog 116 #[.int .i64 c] w fun e w' => e = .returned (.int .i64 t) ∧ w = w'))
    (HM1 : Hid (∀ w, Calls Try.prog 115 #[.int .i64 a] w fun e w' => e = .returned (.int .u64 m1) ∧ w = w'))
    (HD : Hid (∀ w, Calls Try.prog 115 #[.int .i64 d] w fun e w' => e = .returned (.int .u64 d) ∧ w = w'))
    (HM2 : Hid (∀ w, Calls Try.prog 115 #[.int .i64 c] w fun e w' => e = .returned (.int .u64 m2) ∧ w = w'))
    (HB : Hid (∀ w, Calls Try.prog 115 #[.int .i64 b] w fun e w' => e = .returned (.int .u64 b) ∧ w = w'))
    (HX : Hid (∀ w, Calls Try.prog 114 #[.int .u64 m1, .int .u64 d] w fun e w' => e = .returned (.agg #[.int .u64 X1, .int .u64 X0]) ∧ Below w.heap.size w w'))
    (HY : Hid (∀ w, Calls Try.prog 114 #[.int .u64 m2, .int .u64 b] w fun e w' => e = .returned (.agg #[.int .u64 Y1, .int .u64 Y0]) ∧ Below w.heap.size w w'))
    (HZ : Hid (∀ w, Calls Try.prog 114 #[.int .u64 b, .int .u64 d] w fun e w' => e = .returned (.agg #[.int .u64 Z1, .int .u64 Z0]) ∧ Below w.heap.size w w'))
    (hv : (0 ≤ y ∧ IntKind.i64.wrap (s + t) = v ∧ Hid (∀ w, Calls Try.prog 118 #[.agg #[.int .u64 X1, .int .u64 X0], .agg #[.int .u64 Y1, .int .u64 Y0]] w fun e w' => e = .returned (.agg #[.int .u64 U1, .int .u64 U0]) ∧ Below w.heap.size w w') ∧ Hid (∀ w, Calls Try.prog 117 #[.int .i64 v, .agg #[.int .u64 U1, .int .u64 U0], .agg #[.int .u64 Z1, .int .u64 Z0]] w fun e w' => e = .returned (.tuple #[.agg #[.int .i64 A, .int .i64 B], .bool ok]) ∧ Below w.heap.size w w')) ∨ (y < 0 ∧ Hid (∀ w, Calls Try.prog 119 #[.agg #[.int .u64 X1, .int .u64 X0], .agg #[.int .u64 Y1, .int .u64 Y0]] w fun e w' => e = .returned (.bool true) ∧ Below w.heap.size w w') ∧ Hid (∀ w, Calls Try.prog 120 #[.agg #[.int .u64 Y1, .int .u64 Y0], .agg #[.int .u64 X1, .int .u64 X0]] w fun e w' => e = .returned (.agg #[.int .u64 U1, .int .u64 U0]) ∧ Below w.heap.size w w') ∧ Hid (∀ w, Calls Try.prog 117 #[.int .i64 t, .agg #[.int .u64 U1, .int .u64 U0], .agg #[.int .u64 Z1, .int .u64 Z0]] w fun e w' => e = .returned (.tuple #[.agg #[.int .i64 A, .int .i64 B], .bool ok]) ∧ Below w.heap.size w w')) ∨ (y < 0 ∧ Hid (∀ w, Calls Try.prog 119 #[.agg #[.int .u64 X1, .int .u64 X0], .agg #[.int .u64 Y1, .int .u64 Y0]] w fun e w' => e = .returned (.bool false) ∧ Below w.heap.size w w') ∧ Hid (∀ w, Calls Try.prog 120 #[.agg #[.int .u64 X1, .int .u64 X0], .agg #[.int .u64 Y1, .int .u64 Y0]] w fun e w' => e = .returned (.agg #[.int .u64 U1, .int .u64 U0]) ∧ Below w.heap.size w w') ∧ Hid (∀ w, Calls Try.prog 117 #[.int .i64 s, .agg #[.int .u64 U1, .int .u64 U0], .agg #[.int .u64 Z1, .int .u64 Z0]] w fun e w' => e = .returned (.tuple #[.agg #[.int .i64 A, .int .i64 B], .bool ok]) ∧ Below w.heap.size w w'))) :
    Calls Try.prog 91 #[.agg #[.int .i64 a, .int .i64 b], .agg #[.int .i64 c, .int .i64 d]] w fun e w' => e = .returned (.tuple #[.agg #[.int .i64 A, .int .i64 B], .bool ok]) ∧ Below w.heap.size w w' := by
  go_enter Try.func91, Try.ntmps91
  go_upto_region 1 with fail
  go_cut [6, 7] (fun s6 s7 wx => At2 wx (w.heap.size + 1 + 1 + 1) #[.int .u64 X1, .int .u64 X0] #[.int .u64 Y1, .int .u64 Y0] 141 s6 s7 ∧ Blk wx w.heap.size #[.int .i64 a, .int .i64 b] 23 ∧ Blk wx (w.heap.size + 1) #[.int .i64 c, .int .i64 d] 23 ∧ Blk wx (w.heap.size + 1 + 1) #[.int .i64 0, .int .i64 0] 23 ∧ Below w.heap.size w wx)
  case first =>
    clear hv
    refine wp_region_inv (RPlusI1 a b c d m1 m2 X1 X0 Y1 Y0 w ?i9 ?i10 ?i11 ?i12 ?i13 ?i14 ?i15 ?i16 ?i17 ?i18 ?i19 ?i20 ?i21 ?i22 ?i6 ?i7) (by kernel_rfl) (by kernel_rfl) ?hsz ?hst ?hstep ?hfin
    case hst =>
      unfold RPlusI1
      refine ⟨false, false, false, false, false, false, false, false, false, false, false, false, false, false, false, false, false, false, 0, 0, rfl, ?_, ?_, ?_, ?_, ?_, ?_, ?_, ?_, ?_, ?_, ?_⟩
      · first | (simp only [Act.put, List.setIfInBounds_toArray, List.set_cons_zero, List.set_cons_succ, cond_false]; done) | (simp only [Act.put, List.setIfInBounds_toArray, List.set_cons_zero, List.set_cons_succ, cond_false]; rfl)
      all_goals (first | (intro h; cases h; done) | ((repeat' (first | (with_reducible assumption) | ((with_reducible refine Blk.new ?_); first | rfl | (simp; done)) | (with_reducible refine Blk.later (by assumption) ?_) | (with_reducible refine Blk.alloc ?_) | (with_reducible refine Blk.drewN ?_) | (with_reducible refine Blk.drew ?_) | (with_reducible refine Blk.other ?_ (by first | omega | (simp; done) | (simp; omega))))); done) | ((repeat' (first | (with_reducible exact Below.refl _ _) | (with_reducible assumption) | (with_reducible refine belowThru ?_ (by assumption)) | (with_reducible refine belowAlloc ?_) | (with_reducible refine Below.setCell ?_ (by first | omega | (simp; done) | (simp; omega)) _) | (with_reducible refine Below.drew ?_) | (with_reducible refine below_drewN ?_ _))); done) | (simp only [cond_false]; (repeat' (first | (with_reducible assumption) | ((with_reducible refine Blk.new ?_); first | rfl | (simp; done)) | (with_reducible refine Blk.later (by assumption) ?_) | (with_reducible refine Blk.alloc ?_) | (with_reducible refine Blk.drewN ?_) | (with_reducible refine Blk.drew ?_) | (with_reducible refine Blk.other ?_ (by first | omega | (simp; done) | (simp; omega))))); done) | (simp only [World.size_drew]; omega) | (simp only [World.size_drew] at *; omega) | (simp; done) | (simp; omega))
    case hsz =>
      intro L a w9 h
      obtain ⟨gg0, gg1, gg2, gg3, gg4, gg5, gg6, gg7, gg8, gg9, gg10, gg11, gg12, gg13, gg14, gg15, gg16, gg17, x14, x15, rfl, -⟩ := h; rfl
    case hstep =>
      intro L a w9 hI i hi
      obtain ⟨gg0, gg1, gg2, gg3, gg4, gg5, gg6, gg7, gg8, gg9, gg10, gg11, gg12, gg13, gg14, gg15, gg16, gg17, x14, x15, rfl, rfl, fb0, fb1, fb2, fB, fL, f14, f15, d14_15, s14, s15⟩ := hI
      obtain ⟨hi1, hi2, o, ho, hall⟩ := inv_mem hi
      clear hi
      rcases i with _ | _ | _ | _ | _ | _ | _ | _ | _ | _ | _ | _ | _ | _ | _ | _ | _ | _ | i
      · have ge0 : gg0 = false := hi2
        clear hall hi1 hi2
        subst ge0
        have ho2 := ho
        simp only [List.getElem?_toArray, List.getElem?_cons_zero, List.getElem?_cons_succ] at ho2
        have ho3 := Option.some.inj ho2; clear ho2; subst ho3
        obtain ⟨ba0, bb0⟩ := fb0.read; have bl0 := fb0.lt
        obtain ⟨ba1, bb1⟩ := fb1.read; have bl1 := fb1.lt
        obtain ⟨ba2, bb2⟩ := fb2.read; have bl2 := fb2.lt
        simp only [Act.put, List.setIfInBounds_toArray, List.set_cons_zero, List.set_cons_succ]
        simp only [cond_true, cond_false]
        refine inv_op ho (by kernel_rfl) (fun K hK => ?_)
        clear ho
        go_simp
        refine hK.out _ _ ?_
        unfold RPlusI1
        refine ⟨true, gg1, gg2, gg3, gg4, gg5, gg6, gg7, gg8, gg9, gg10, gg11, gg12, gg13, gg14, gg15, gg16, gg17, x14, x15, rfl, by simp only [Act.put, List.setIfInBounds_toArray, List.set_cons_zero, List.set_cons_succ, cond_true, cond_false], ?_, ?_, ?_, ?_, ?_, ?_, ?_, ?_, ?_, ?_⟩
        · exact fb0
        · exact fb1
        · exact fb2
        · exact fB
        · exact fL
        · exact f14
        · exact f15
        · exact d14_15
        · exact s14
        · exact s15
      · have ge1 : gg1 = false := hi2
        have ge0 : gg0 = true := inv_dep ho hall 0 (by kernel_rfl)
        clear hall hi1 hi2
        subst ge1 ge0
        have ho2 := ho
        simp only [List.getElem?_toArray, List.getElem?_cons_zero, List.getElem?_cons_succ] at ho2
        have ho3 := Option.some.inj ho2; clear ho2; subst ho3
        obtain ⟨ba0, bb0⟩ := fb0.read; have bl0 := fb0.lt
        obtain ⟨ba1, bb1⟩ := fb1.read; have bl1 := fb1.lt
        obtain ⟨ba2, bb2⟩ := fb2.read; have bl2 := fb2.lt
        simp only [Act.put, List.setIfInBounds_toArray, List.set_cons_zero, List.set_cons_succ]
        simp only [cond_true, cond_false]
        refine inv_op ho (by kernel_rfl) (fun K hK => ?_)
        clear ho
        go_simp
        refine hK.out _ _ ?_
        unfold RPlusI1
        refine ⟨true, true, gg2, gg3, gg4, gg5, gg6, gg7, gg8, gg9, gg10, gg11, gg12, gg13, gg14, gg15, gg16, gg17, x14, x15, rfl, by simp only [Act.put, List.setIfInBounds_toArray, List.set_cons_zero, List.set_cons_succ, cond_true, cond_false], ?_, ?_, ?_, ?_, ?_, ?_, ?_, ?_, ?_, ?_⟩
        · exact fb0
        · exact fb1
        · exact fb2
        · exact fB
        · exact fL
        · exact f14
        · exact f15
        · exact d14_15
        · exact s14
        · exact s15
      · have ge2 : gg2 = false := hi2
        have ge1 : gg1 = true := inv_dep ho hall 1 (by kernel_rfl)
        clear hall hi1 hi2
        subst ge2 ge1
        have ho2 := ho
        simp only [List.getElem?_toArray, List.getElem?_cons_zero, List.getElem?_cons_succ] at ho2
        have ho3 := Option.some.inj ho2; clear ho2; subst ho3
        obtain ⟨ba0, bb0⟩ := fb0.read; have bl0 := fb0.lt
        obtain ⟨ba1, bb1⟩ := fb1.read; have bl1 := fb1.lt
        obtain ⟨ba2, bb2⟩ := fb2.read; have bl2 := fb2.lt
        simp only [Act.put, List.setIfInBounds_toArray, List.set_cons_zero, List.set_cons_succ]
        simp only [cond_true, cond_false]
        refine inv_op ho (by kernel_rfl) (fun K hK => ?_)
        clear ho
        go_simp
        go_at_call 115; (with_reducible refine (HM1.out _).mono ?_); rintro e w1 ⟨rfl, rfl⟩
        refine hK.out _ _ ?_
        unfold RPlusI1
        refine ⟨gg0, true, true, gg3, gg4, gg5, gg6, gg7, gg8, gg9, gg10, gg11, gg12, gg13, gg14, gg15, gg16, gg17, x14, x15, rfl, by simp only [Act.put, List.setIfInBounds_toArray, List.set_cons_zero, List.set_cons_succ, cond_true, cond_false], ?_, ?_, ?_, ?_, ?_, ?_, ?_, ?_, ?_, ?_⟩
        · exact fb0
        · exact fb1
        · exact fb2
        · exact fB
        · exact fL
        · exact f14
        · exact f15
        · exact d14_15
        · exact s14
        · exact s15
      · have ge3 : gg3 = false := hi2
        clear hall hi1 hi2
        subst ge3
        have ho2 := ho
        simp only [List.getElem?_toArray, List.getElem?_cons_zero, List.getElem?_cons_succ] at ho2
        have ho3 := Option.some.inj ho2; clear ho2; subst ho3
        obtain ⟨ba0, bb0⟩ := fb0.read; have bl0 := fb0.lt
        obtain ⟨ba1, bb1⟩ := fb1.read; have bl1 := fb1.lt
        obtain ⟨ba2, bb2⟩ := fb2.read; have bl2 := fb2.lt
        simp only [Act.put, List.setIfInBounds_toArray, List.set_cons_zero, List.set_cons_succ]
        simp only [cond_true, cond_false]
        refine inv_op ho (by kernel_rfl) (fun K hK => ?_)
        clear ho
        go_simp
        refine hK.out _ _ ?_
        unfold RPlusI1
        refine ⟨gg0, gg1, gg2, true, gg4, gg5, gg6, gg7, gg8, gg9, gg10, gg11, gg12, gg13, gg14, gg15, gg16, gg17, x14, x15, rfl, by simp only [Act.put, List.setIfInBounds_toArray, List.set_cons_zero, List.set_cons_succ, cond_true, cond_false], ?_, ?_, ?_, ?_, ?_, ?_, ?_, ?_, ?_, ?_⟩
        · exact fb0
        · exact fb1
        · exact fb2
        · exact fB
        · exact fL
        · exact f14
        · exact f15
        · exact d14_15
        · exact s14
        · exact s15
      · have ge4 : gg4 = false := hi2
        have ge3 : gg3 = true := inv_dep ho hall 3 (by kernel_rfl)
        clear hall hi1 hi2
        subst ge4 ge3
        have ho2 := ho
        simp only [List.getElem?_toArray, List.getElem?_cons_zero, List.getElem?_cons_succ] at ho2
        have ho3 := Option.some.inj ho2; clear ho2; subst ho3
        obtain ⟨ba0, bb0⟩ := fb0.read; have bl0 := fb0.lt
        obtain ⟨ba1, bb1⟩ := fb1.read; have bl1 := fb1.lt
        obtain ⟨ba2, bb2⟩ := fb2.read; have bl2 := fb2.lt
        simp only [Act.put, List.setIfInBounds_toArray, List.set_cons_zero, List.set_cons_succ]
        simp only [cond_true, cond_false]
        refine inv_op ho (by kernel_rfl) (fun K hK => ?_)
        clear ho
        go_simp
        refine hK.out _ _ ?_
        unfold RPlusI1
        refine ⟨gg0, gg1, gg2, true, true, gg5, gg6, gg7, gg8, gg9, gg10, gg11, gg12, gg13, gg14, gg15, gg16, gg17, x14, x15, rfl, by simp only [Act.put, List.setIfInBounds_toArray, List.set_cons_zero, List.set_cons_succ, cond_true, cond_false], ?_, ?_, ?_, ?_, ?_, ?_, ?_, ?_, ?_, ?_⟩
        · exact fb0
        · exact fb1
        · exact fb2
        · exact fB
        · exact fL
        · exact f14
        · exact f15
        · exact d14_15
        · exact s14
        · exact s15
      · have ge5 : gg5 = false := hi2
        have ge4 : gg4 = true := inv_dep ho hall 4 (by kernel_rfl)
        clear hall hi1 hi2
        subst ge5 ge4
        have ho2 := ho
        simp only [List.getElem?_toArray, List.getElem?_cons_zero, List.getElem?_cons_succ] at ho2
        have ho3 := Option.some.inj ho2; clear ho2; subst ho3
        obtain ⟨ba0, bb0⟩ := fb0.read; have bl0 := fb0.lt
        obtain ⟨ba1, bb1⟩ := fb1.read; have bl1 := fb1.lt
        obtain ⟨ba2, bb2⟩ := fb2.read; have bl2 := fb2.lt
        simp only [Act.put, List.setIfInBounds_toArray, List.set_cons_zero, List.set_cons_succ]
        simp only [cond_true, cond_false]
        refine inv_op ho (by kernel_rfl) (fun K hK => ?_)
        clear ho
        go_simp
        go_at_call 115; (with_reducible refine (HD.out _).mono ?_); rintro e w1 ⟨rfl, rfl⟩
        refine hK.out _ _ ?_
        unfold RPlusI1
        refine ⟨gg0, gg1, gg2, gg3, true, true, gg6, gg7, gg8, gg9, gg10, gg11, gg12, gg13, gg14, gg15, gg16, gg17, x14, x15, rfl, by simp only [Act.put, List.setIfInBounds_toArray, List.set_cons_zero, List.set_cons_succ, cond_true, cond_false], ?_, ?_, ?_, ?_, ?_, ?_, ?_, ?_, ?_, ?_⟩
        · exact fb0
        · exact fb1
        · exact fb2
        · exact fB
        · exact fL
        · exact f14
        · exact f15
        · exact d14_15
        · exact s14
        · exact s15
      · have ge6 : gg6 = false := hi2
        have ge2 : gg2 = true := inv_dep ho hall 2 (by kernel_rfl)
        have ge5 : gg5 = true := inv_dep ho hall 5 (by kernel_rfl)
        clear hall hi1 hi2
        subst ge6 ge2 ge5
        have ho2 := ho
        simp only [List.getElem?_toArray, List.getElem?_cons_zero, List.getElem?_cons_succ] at ho2
        have ho3 := Option.some.inj ho2; clear ho2; subst ho3
        obtain ⟨ba0, bb0⟩ := fb0.read; have bl0 := fb0.lt
        obtain ⟨ba1, bb1⟩ := fb1.read; have bl1 := fb1.lt
        obtain ⟨ba2, bb2⟩ := fb2.read; have bl2 := fb2.lt
        simp only [Act.put, List.setIfInBounds_toArray, List.set_cons_zero, List.set_cons_succ]
        simp only [cond_true, cond_false]
        refine inv_op ho (by kernel_rfl) (fun K hK => ?_)
        clear ho
        go_simp
        go_at_call 114; (with_reducible refine (HX.out _).mono ?_); rintro e w1 ⟨rfl, hb⟩
        refine hK.out _ _ ?_
        unfold RPlusI1
        refine ⟨gg0, gg1, true, gg3, gg4, true, true, gg7, gg8, gg9, gg10, gg11, gg12, gg13, gg14, gg15, gg16, gg17, x14, x15, rfl, by simp only [Act.put, List.setIfInBounds_toArray, List.set_cons_zero, List.set_cons_succ, cond_true, cond_false], ?_, ?_, ?_, ?_, ?_, ?_, ?_, ?_, ?_, ?_⟩
        · exact Blk.later hb fb0
        · exact Blk.later hb fb1
        · exact Blk.later hb fb2
        · exact belowThru fB hb
        · have := hb.size; omega
        · intro h; obtain ⟨p, q⟩ := f14 h; exact ⟨Blk.later hb p, q⟩
        · intro h; obtain ⟨p, q⟩ := f15 h; exact ⟨Blk.later hb p, q⟩
        · exact d14_15
        · exact s14
        · exact s15
      · have ge7 : gg7 = false := hi2
        clear hall hi1 hi2
        subst ge7
        have ho2 := ho
        simp only [List.getElem?_toArray, List.getElem?_cons_zero, List.getElem?_cons_succ] at ho2
        have ho3 := Option.some.inj ho2; clear ho2; subst ho3
        obtain ⟨ba0, bb0⟩ := fb0.read; have bl0 := fb0.lt
        obtain ⟨ba1, bb1⟩ := fb1.read; have bl1 := fb1.lt
        obtain ⟨ba2, bb2⟩ := fb2.read; have bl2 := fb2.lt
        simp only [Act.put, List.setIfInBounds_toArray, List.set_cons_zero, List.set_cons_succ]
        simp only [cond_true, cond_false]
        refine inv_op ho (by kernel_rfl) (fun K hK => ?_)
        clear ho
        go_simp
        refine hK.out _ _ ?_
        unfold RPlusI1
        refine ⟨gg0, gg1, gg2, gg3, gg4, gg5, gg6, true, gg8, gg9, gg10, gg11, gg12, gg13, gg14, gg15, gg16, gg17, x14, x15, rfl, by simp only [Act.put, List.setIfInBounds_toArray, List.set_cons_zero, List.set_cons_succ, cond_true, cond_false], ?_, ?_, ?_, ?_, ?_, ?_, ?_, ?_, ?_, ?_⟩
        · exact fb0
        · exact fb1
        · exact fb2
        · exact fB
        · exact fL
        · exact f14
        · exact f15
        · exact d14_15
        · exact s14
        · exact s15
      · have ge8 : gg8 = false := hi2
        have ge7 : gg7 = true := inv_dep ho hall 7 (by kernel_rfl)
        clear hall hi1 hi2
        subst ge8 ge7
        have ho2 := ho
        simp only [List.getElem?_toArray, List.getElem?_cons_zero, List.getElem?_cons_succ] at ho2
        have ho3 := Option.some.inj ho2; clear ho2; subst ho3
        obtain ⟨ba0, bb0⟩ := fb0.read; have bl0 := fb0.lt
        obtain ⟨ba1, bb1⟩ := fb1.read; have bl1 := fb1.lt
        obtain ⟨ba2, bb2⟩ := fb2.read; have bl2 := fb2.lt
        simp only [Act.put, List.setIfInBounds_toArray, List.set_cons_zero, List.set_cons_succ]
        simp only [cond_true, cond_false]
        refine inv_op ho (by kernel_rfl) (fun K hK => ?_)
        clear ho
        go_simp
        refine hK.out _ _ ?_
        unfold RPlusI1
        refine ⟨gg0, gg1, gg2, gg3, gg4, gg5, gg6, true, true, gg9, gg10, gg11, gg12, gg13, gg14, gg15, gg16, gg17, x14, x15, rfl, by simp only [Act.put, List.setIfInBounds_toArray, List.set_cons_zero, List.set_cons_succ, cond_true, cond_false], ?_, ?_, ?_, ?_, ?_, ?_, ?_, ?_, ?_, ?_⟩
        · exact fb0
        · exact fb1
        · exact fb2
        · exact fB
        · exact fL
        · exact f14
        · exact f15
        · exact d14_15
        · exact s14
        · exact s15
      · have ge9 : gg9 = false := hi2
        have ge8 : gg8 = true := inv_dep ho hall 8 (by kernel_rfl)
        clear hall hi1 hi2
        subst ge9 ge8
        have ho2 := ho
        simp only [List.getElem?_toArray, List.getElem?_cons_zero, List.getElem?_cons_succ] at ho2
        have ho3 := Option.some.inj ho2; clear ho2; subst ho3
        obtain ⟨ba0, bb0⟩ := fb0.read; have bl0 := fb0.lt
        obtain ⟨ba1, bb1⟩ := fb1.read; have bl1 := fb1.lt
        obtain ⟨ba2, bb2⟩ := fb2.read; have bl2 := fb2.lt
        simp only [Act.put, List.setIfInBounds_toArray, List.set_cons_zero, List.set_cons_succ]
        simp only [cond_true, cond_false]
        refine inv_op ho (by kernel_rfl) (fun K hK => ?_)
        clear ho
        go_simp
        go_at_call 115; (with_reducible refine (HM2.out _).mono ?_); rintro e w1 ⟨rfl, rfl⟩
        refine hK.out _ _ ?_
        unfold RPlusI1
        refine ⟨gg0, gg1, gg2, gg3, gg4, gg5, gg6, gg7, true, true, gg10, gg11, gg12, gg13, gg14, gg15, gg16, gg17, x14, x15, rfl, by simp only [Act.put, List.setIfInBounds_toArray, List.set_cons_zero, List.set_cons_succ, cond_true, cond_false], ?_, ?_, ?_, ?_, ?_, ?_, ?_, ?_, ?_, ?_⟩
        · exact fb0
        · exact fb1
        · exact fb2
        · exact fB
        · exact fL
        · exact f14
        · exact f15
        · exact d14_15
        · exact s14
        · exact s15
      · have ge10 : gg10 = false := hi2
        clear hall hi1 hi2
        subst ge10
        have ho2 := ho
        simp only [List.getElem?_toArray, List.getElem?_cons_zero, List.getElem?_cons_succ] at ho2
        have ho3 := Option.some.inj ho2; clear ho2; subst ho3
        obtain ⟨ba0, bb0⟩ := fb0.read; have bl0 := fb0.lt
        obtain ⟨ba1, bb1⟩ := fb1.read; have bl1 := fb1.lt
        obtain ⟨ba2, bb2⟩ := fb2.read; have bl2 := fb2.lt
        simp only [Act.put, List.setIfInBounds_toArray, List.set_cons_zero, List.set_cons_succ]
        simp only [cond_true, cond_false]
        refine inv_op ho (by kernel_rfl) (fun K hK => ?_)
        clear ho
        go_simp
        refine hK.out _ _ ?_
        unfold RPlusI1
        refine ⟨gg0, gg1, gg2, gg3, gg4, gg5, gg6, gg7, gg8, gg9, true, gg11, gg12, gg13, gg14, gg15, gg16, gg17, x14, x15, rfl, by simp only [Act.put, List.setIfInBounds_toArray, List.set_cons_zero, List.set_cons_succ, cond_true, cond_false], ?_, ?_, ?_, ?_, ?_, ?_, ?_, ?_, ?_, ?_⟩
        · exact fb0
        · exact fb1
        · exact fb2
        · exact fB
        · exact fL
        · exact f14
        · exact f15
        · exact d14_15
        · exact s14
        · exact s15
      · have ge11 : gg11 = false := hi2
        have ge10 : gg10 = true := inv_dep ho hall 10 (by kernel_rfl)
        clear hall hi1 hi2
        subst ge11 ge10
        have ho2 := ho
        simp only [List.getElem?_toArray, List.getElem?_cons_zero, List.getElem?_cons_succ] at ho2
        have ho3 := Option.some.inj ho2; clear ho2; subst ho3
        obtain ⟨ba0, bb0⟩ := fb0.read; have bl0 := fb0.lt
        obtain ⟨ba1, bb1⟩ := fb1.read; have bl1 := fb1.lt
        obtain ⟨ba2, bb2⟩ := fb2.read; have bl2 := fb2.lt
        simp only [Act.put, List.setIfInBounds_toArray, List.set_cons_zero, List.set_cons_succ]
        simp only [cond_true, cond_false]
        refine inv_op ho (by kernel_rfl) (fun K hK => ?_)
        clear ho
        go_simp
        refine hK.out _ _ ?_
        unfold RPlusI1
        refine ⟨gg0, gg1, gg2, gg3, gg4, gg5, gg6, gg7, gg8, gg9, true, true, gg12, gg13, gg14, gg15, gg16, gg17, x14, x15, rfl, by simp only [Act.put, List.setIfInBounds_toArray, List.set_cons_zero, List.set_cons_succ, cond_true, cond_false], ?_, ?_, ?_, ?_, ?_, ?_, ?_, ?_, ?_, ?_⟩
        · exact fb0
        · exact fb1
        · exact fb2
        · exact fB
        · exact fL
        · exact f14
        · exact f15
        · exact d14_15
        · exact s14
        · exact s15
      · have ge12 : gg12 = false := hi2
        have ge11 : gg11 = true := inv_dep ho hall 11 (by kernel_rfl)
        clear hall hi1 hi2
        subst ge12 ge11
        have ho2 := ho
        simp only [List.getElem?_toArray, List.getElem?_cons_zero, List.getElem?_cons_succ] at ho2
        have ho3 := Option.some.inj ho2; clear ho2; subst ho3
        obtain ⟨ba0, bb0⟩ := fb0.read; have bl0 := fb0.lt
        obtain ⟨ba1, bb1⟩ := fb1.read; have bl1 := fb1.lt
        obtain ⟨ba2, bb2⟩ := fb2.read; have bl2 := fb2.lt
        simp only [Act.put, List.setIfInBounds_toArray, List.set_cons_zero, List.set_cons_succ]
        simp only [cond_true, cond_false]
        refine inv_op ho (by kernel_rfl) (fun K hK => ?_)
        clear ho
        go_simp
        go_at_call 115; (with_reducible refine (HB.out _).mono ?_); rintro e w1 ⟨rfl, rfl⟩
        refine hK.out _ _ ?_
        unfold RPlusI1
        refine ⟨gg0, gg1, gg2, gg3, gg4, gg5, gg6, gg7, gg8, gg9, gg10, true, true, gg13, gg14, gg15, gg16, gg17, x14, x15, rfl, by simp only [Act.put, List.setIfInBounds_toArray, List.set_cons_zero, List.set_cons_succ, cond_true, cond_false], ?_, ?_, ?_, ?_, ?_, ?_, ?_, ?_, ?_, ?_⟩
        · exact fb0
        · exact fb1
        · exact fb2
        · exact fB
        · exact fL
        · exact f14
        · exact f15
        · exact d14_15
        · exact s14
        · exact s15
      · have ge13 : gg13 = false := hi2
        have ge9 : gg9 = true := inv_dep ho hall 9 (by kernel_rfl)
        have ge12 : gg12 = true := inv_dep ho hall 12 (by kernel_rfl)
        clear hall hi1 hi2
        subst ge13 ge9 ge12
        have ho2 := ho
        simp only [List.getElem?_toArray, List.getElem?_cons_zero, List.getElem?_cons_succ] at ho2
        have ho3 := Option.some.inj ho2; clear ho2; subst ho3
        obtain ⟨ba0, bb0⟩ := fb0.read; have bl0 := fb0.lt
        obtain ⟨ba1, bb1⟩ := fb1.read; have bl1 := fb1.lt
        obtain ⟨ba2, bb2⟩ := fb2.read; have bl2 := fb2.lt
        simp only [Act.put, List.setIfInBounds_toArray, List.set_cons_zero, List.set_cons_succ]
        simp only [cond_true, cond_false]
        refine inv_op ho (by kernel_rfl) (fun K hK => ?_)
        clear ho
        go_simp
        go_at_call 114; (with_reducible refine (HY.out _).mono ?_); rintro e w1 ⟨rfl, hb⟩
        refine hK.out _ _ ?_
        unfold RPlusI1
        refine ⟨gg0, gg1, gg2, gg3, gg4, gg5, gg6, gg7, gg8, true, gg10, gg11, true, true, gg14, gg15, gg16, gg17, x14, x15, rfl, by simp only [Act.put, List.setIfInBounds_toArray, List.set_cons_zero, List.set_cons_succ, cond_true, cond_false], ?_, ?_, ?_, ?_, ?_, ?_, ?_, ?_, ?_, ?_⟩
        · exact Blk.later hb fb0
        · exact Blk.later hb fb1
        · exact Blk.later hb fb2
        · exact belowThru fB hb
        · have := hb.size; omega
        · intro h; obtain ⟨p, q⟩ := f14 h; exact ⟨Blk.later hb p, q⟩
        · intro h; obtain ⟨p, q⟩ := f15 h; exact ⟨Blk.later hb p, q⟩
        · exact d14_15
        · exact s14
        · exact s15
      · have ge14 : gg14 = false := hi2
        clear hall hi1 hi2
        subst ge14
        have ho2 := ho
        simp only [List.getElem?_toArray, List.getElem?_cons_zero, List.getElem?_cons_succ] at ho2
        have ho3 := Option.some.inj ho2; clear ho2; subst ho3
        obtain ⟨ba0, bb0⟩ := fb0.read; have bl0 := fb0.lt
        obtain ⟨ba1, bb1⟩ := fb1.read; have bl1 := fb1.lt
        obtain ⟨ba2, bb2⟩ := fb2.read; have bl2 := fb2.lt
        obtain rfl : gg16 = false := by cases gg16; rfl; exact Bool.noConfusion (s14 rfl)
        simp only [Act.put, List.setIfInBounds_toArray, List.set_cons_zero, List.set_cons_succ]
        simp only [cond_true, cond_false]
        refine inv_op ho (by kernel_rfl) (fun K hK => ?_)
        clear ho
        go_simp
        refine hK.out _ _ ?_
        unfold RPlusI1
        refine ⟨gg0, gg1, gg2, gg3, gg4, gg5, gg6, gg7, gg8, gg9, gg10, gg11, gg12, gg13, true, gg15, false, gg17, w9.heap.size, x15, rfl, by simp only [Act.put, List.setIfInBounds_toArray, List.set_cons_zero, List.set_cons_succ, cond_true, cond_false], ?_, ?_, ?_, ?_, ?_, ?_, ?_, ?_, ?_, ?_⟩
        · exact fb0.alloc
        · exact fb1.alloc
        · exact fb2.alloc
        · exact belowAlloc fB
        · simp only [World.size_alloc]; omega
        · intro _; exact ⟨Blk.new rfl, fL⟩
        · intro h; obtain ⟨p, q⟩ := f15 h; exact ⟨p.alloc, q⟩
        · intro _ h; have := (f15 h).1.lt; omega
        · intro _; rfl
        · exact s15
      · have ge15 : gg15 = false := hi2
        clear hall hi1 hi2
        subst ge15
        have ho2 := ho
        simp only [List.getElem?_toArray, List.getElem?_cons_zero, List.getElem?_cons_succ] at ho2
        have ho3 := Option.some.inj ho2; clear ho2; subst ho3
        obtain ⟨ba0, bb0⟩ := fb0.read; have bl0 := fb0.lt
        obtain ⟨ba1, bb1⟩ := fb1.read; have bl1 := fb1.lt
        obtain ⟨ba2, bb2⟩ := fb2.read; have bl2 := fb2.lt
        obtain rfl : gg17 = false := by cases gg17; rfl; exact Bool.noConfusion (s15 rfl)
        simp only [Act.put, List.setIfInBounds_toArray, List.set_cons_zero, List.set_cons_succ]
        simp only [cond_true, cond_false]
        refine inv_op ho (by kernel_rfl) (fun K hK => ?_)
        clear ho
        go_simp
        refine hK.out _ _ ?_
        unfold RPlusI1
        refine ⟨gg0, gg1, gg2, gg3, gg4, gg5, gg6, gg7, gg8, gg9, gg10, gg11, gg12, gg13, gg14, true, gg16, false, x14, w9.heap.size, rfl, by simp only [Act.put, List.setIfInBounds_toArray, List.set_cons_zero, List.set_cons_succ, cond_true, cond_false], ?_, ?_, ?_, ?_, ?_, ?_, ?_, ?_, ?_, ?_⟩
        · exact fb0.alloc
        · exact fb1.alloc
        · exact fb2.alloc
        · exact belowAlloc fB
        · simp only [World.size_alloc]; omega
        · intro h; obtain ⟨p, q⟩ := f14 h; exact ⟨p.alloc, q⟩
        · intro _; exact ⟨Blk.new rfl, fL⟩
        · intro h _; have := (f14 h).1.lt; omega
        · exact s14
        · intro _; rfl
      · have ge16 : gg16 = false := hi2
        have ge6 : gg6 = true := inv_dep ho hall 6 (by kernel_rfl)
        have ge14 : gg14 = true := inv_dep ho hall 14 (by kernel_rfl)
        clear hall hi1 hi2
        subst ge16 ge6 ge14
        have ho2 := ho
        simp only [List.getElem?_toArray, List.getElem?_cons_zero, List.getElem?_cons_succ] at ho2
        have ho3 := Option.some.inj ho2; clear ho2; subst ho3
        obtain ⟨p14, q14⟩ := f14 rfl
        obtain ⟨ra14, rb14⟩ := p14.read
        have rl14 := p14.lt
        obtain ⟨ba0, bb0⟩ := fb0.read; have bl0 := fb0.lt
        obtain ⟨ba1, bb1⟩ := fb1.read; have bl1 := fb1.lt
        obtain ⟨ba2, bb2⟩ := fb2.read; have bl2 := fb2.lt
        have rl14 := p14.lt
        skip
        simp only [Act.put, List.setIfInBounds_toArray, List.set_cons_zero, List.set_cons_succ]
        simp only [cond_true, cond_false]
        refine inv_op ho (by kernel_rfl) (fun K hK => ?_)
        clear ho
        go_simp
        refine hK.out _ _ ?_
        unfold RPlusI1
        refine ⟨gg0, gg1, gg2, gg3, gg4, gg5, true, gg7, gg8, gg9, gg10, gg11, gg12, gg13, true, gg15, true, gg17, x14, x15, rfl, by simp only [Act.put, List.setIfInBounds_toArray, List.set_cons_zero, List.set_cons_succ, cond_true, cond_false], ?_, ?_, ?_, ?_, ?_, ?_, ?_, ?_, ?_, ?_⟩
        · (repeat' (first | (with_reducible assumption) | ((with_reducible refine Blk.new ?_); first | rfl | (simp; done)) | (with_reducible refine Blk.later (by assumption) ?_) | (with_reducible refine Blk.alloc ?_) | (with_reducible refine Blk.drewN ?_) | (with_reducible refine Blk.drew ?_) | (with_reducible refine Blk.other ?_ (by first | omega | (simp; done) | (simp; omega)))))
        · (repeat' (first | (with_reducible assumption) | ((with_reducible refine Blk.new ?_); first | rfl | (simp; done)) | (with_reducible refine Blk.later (by assumption) ?_) | (with_reducible refine Blk.alloc ?_) | (with_reducible refine Blk.drewN ?_) | (with_reducible refine Blk.drew ?_) | (with_reducible refine Blk.other ?_ (by first | omega | (simp; done) | (simp; omega)))))
        · (repeat' (first | (with_reducible assumption) | ((with_reducible refine Blk.new ?_); first | rfl | (simp; done)) | (with_reducible refine Blk.later (by assumption) ?_) | (with_reducible refine Blk.alloc ?_) | (with_reducible refine Blk.drewN ?_) | (with_reducible refine Blk.drew ?_) | (with_reducible refine Blk.other ?_ (by first | omega | (simp; done) | (simp; omega)))))
        · (repeat' (first | (with_reducible exact Below.refl _ _) | (with_reducible assumption) | (with_reducible refine belowThru ?_ (by assumption)) | (with_reducible refine belowAlloc ?_) | (with_reducible refine Below.setCell ?_ (by first | omega | (simp; done) | (simp; omega)) _) | (with_reducible refine Below.drew ?_) | (with_reducible refine below_drewN ?_ _)))
        · first | exact fL | (simp; omega)
        · intro _; exact ⟨by exact Blk.set (Blk.set (p14)), q14⟩
        · intro h; obtain ⟨p, q⟩ := f15 h; have hne := d14_15 rfl h; exact ⟨by (repeat' (first | (with_reducible assumption) | ((with_reducible refine Blk.new ?_); first | rfl | (simp; done)) | (with_reducible refine Blk.later (by assumption) ?_) | (with_reducible refine Blk.alloc ?_) | (with_reducible refine Blk.drewN ?_) | (with_reducible refine Blk.drew ?_) | (with_reducible refine Blk.other ?_ (by first | omega | (simp; done) | (simp; omega))))), q⟩
        · exact d14_15
        · intro _; rfl
        · exact s15
      · have ge17 : gg17 = false := hi2
        have ge13 : gg13 = true := inv_dep ho hall 13 (by kernel_rfl)
        have ge15 : gg15 = true := inv_dep ho hall 15 (by kernel_rfl)
        clear hall hi1 hi2
        subst ge17 ge13 ge15
        have ho2 := ho
        simp only [List.getElem?_toArray, List.getElem?_cons_zero, List.getElem?_cons_succ] at ho2
        have ho3 := Option.some.inj ho2; clear ho2; subst ho3
        obtain ⟨p15, q15⟩ := f15 rfl
        obtain ⟨ra15, rb15⟩ := p15.read
        have rl15 := p15.lt
        obtain ⟨ba0, bb0⟩ := fb0.read; have bl0 := fb0.lt
        obtain ⟨ba1, bb1⟩ := fb1.read; have bl1 := fb1.lt
        obtain ⟨ba2, bb2⟩ := fb2.read; have bl2 := fb2.lt
        have rl15 := p15.lt
        skip
        simp only [Act.put, List.setIfInBounds_toArray, List.set_cons_zero, List.set_cons_succ]
        simp only [cond_true, cond_false]
        refine inv_op ho (by kernel_rfl) (fun K hK => ?_)
        clear ho
        go_simp
        refine hK.out _ _ ?_
        unfold RPlusI1
        refine ⟨gg0, gg1, gg2, gg3, gg4, gg5, gg6, gg7, gg8, gg9, gg10, gg11, gg12, true, gg14, true, gg16, true, x14, x15, rfl, by simp only [Act.put, List.setIfInBounds_toArray, List.set_cons_zero, List.set_cons_succ, cond_true, cond_false], ?_, ?_, ?_, ?_, ?_, ?_, ?_, ?_, ?_, ?_⟩
        · (repeat' (first | (with_reducible assumption) | ((with_reducible refine Blk.new ?_); first | rfl | (simp; done)) | (with_reducible refine Blk.later (by assumption) ?_) | (with_reducible refine Blk.alloc ?_) | (with_reducible refine Blk.drewN ?_) | (with_reducible refine Blk.drew ?_) | (with_reducible refine Blk.other ?_ (by first | omega | (simp; done) | (simp; omega)))))
        · (repeat' (first | (with_reducible assumption) | ((with_reducible refine Blk.new ?_); first | rfl | (simp; done)) | (with_reducible refine Blk.later (by assumption) ?_) | (with_reducible refine Blk.alloc ?_) | (with_reducible refine Blk.drewN ?_) | (with_reducible refine Blk.drew ?_) | (with_reducible refine Blk.other ?_ (by first | omega | (simp; done) | (simp; omega)))))
        · (repeat' (first | (with_reducible assumption) | ((with_reducible refine Blk.new ?_); first | rfl | (simp; done)) | (with_reducible refine Blk.later (by assumption) ?_) | (with_reducible refine Blk.alloc ?_) | (with_reducible refine Blk.drewN ?_) | (with_reducible refine Blk.drew ?_) | (with_reducible refine Blk.other ?_ (by first | omega | (simp; done) | (simp; omega)))))
        · (repeat' (first | (with_reducible exact Below.refl _ _) | (with_reducible assumption) | (with_reducible refine belowThru ?_ (by assumption)) | (with_reducible refine belowAlloc ?_) | (with_reducible refine Below.setCell ?_ (by first | omega | (simp; done) | (simp; omega)) _) | (with_reducible refine Below.drew ?_) | (with_reducible refine below_drewN ?_ _)))
        · first | exact fL | (simp; omega)
        · intro h; obtain ⟨p, q⟩ := f14 h; have hne := d14_15 h rfl; exact ⟨by (repeat' (first | (with_reducible assumption) | ((with_reducible refine Blk.new ?_); first | rfl | (simp; done)) | (with_reducible refine Blk.later (by assumption) ?_) | (with_reducible refine Blk.alloc ?_) | (with_reducible refine Blk.drewN ?_) | (with_reducible refine Blk.drew ?_) | (with_reducible refine Blk.other ?_ (by first | omega | (simp; done) | (simp; omega))))), q⟩
        · intro _; exact ⟨by exact Blk.set (Blk.set (p15)), q15⟩
        · exact d14_15
        · exact s14
        · intro _; rfl
      · exfalso; simp at hi1; omega
    case hfin =>
      intro a w9 hI
      obtain ⟨gg0, gg1, gg2, gg3, gg4, gg5, gg6, gg7, gg8, gg9, gg10, gg11, gg12, gg13, gg14, gg15, gg16, gg17, x14, x15, hL, rfl, fb0, fb1, fb2, fB, fL, f14, f15, d14_15, s14, s15⟩ := hI
      have hL2 : #[true, true, true, true, true, true, true, true, true, true, true, true, true, true, true, true, true, true] = #[gg0, gg1, gg2, gg3, gg4, gg5, gg6, gg7, gg8, gg9, gg10, gg11, gg12, gg13, gg14, gg15, gg16, gg17] := hL
      cases hL2
      obtain ⟨p14, q14⟩ := f14 rfl
      obtain ⟨p15, q15⟩ := f15 rfl
      have n14_15 := d14_15 rfl rfl
      clear f14 f15 d14_15 s14 s15
      simp only [Act.put, List.setIfInBounds_toArray, List.set_cons_zero, List.set_cons_succ]
      simp only [cond_true]
      go_wp2_with fail
      go_meet
      refine ⟨At2.mk q14 q15 n14_15 p14 p15, fb0, fb1, fb2, fB⟩
  case rest =>
    clear HM1 HM2 HX HY
    obtain ⟨⟨pb, qb, rfl, rfl, g1, g2, hn, k3, k4⟩, k0, k1, k2, hB⟩ := hcut
    obtain ⟨a0, b0⟩ := k0.read; obtain ⟨a1, b1⟩ := k1.read; obtain ⟨a2, b2⟩ := k2.read; obtain ⟨a3, b3⟩ := k3.read; obtain ⟨a4, b4⟩ := k4.read
    have zz0 := k0.lt; have zz1 := k1.lt; have zz2 := k2.lt; have zz3 := k3.lt; have zz4 := k4.lt
    go_upto_region 2 with fail
    go_cut [8] (fun s8 wx => (∃ zb : Nat, s8 = .pointer (some ⟨zb, 0, none⟩) ∧ w.heap.size + 1 + 1 + 1 ≤ zb ∧ Blk wx zb #[.int .u64 Z1, .int .u64 Z0] 141) ∧ Blk wx pb #[.int .u64 X1, .int .u64 X0] 141 ∧ Blk wx qb #[.int .u64 Y1, .int .u64 Y0] 141 ∧ Blk wx w.heap.size #[.int .i64 a, .int .i64 b] 23 ∧ Blk wx (w.heap.size + 1) #[.int .i64 c, .int .i64 d] 23 ∧ Blk wx (w.heap.size + 1 + 1) #[.int .i64 0, .int .i64 0] 23 ∧ Below w.heap.size w wx)
    case first =>
      clear hv
      refine wp_region_inv (RPlusI2 a b c d X1 X0 Y1 Y0 Z1 Z0 pb qb w wc ?i23 ?i24 ?i25 ?i26 ?i27 ?i28 ?i29 ?i8) (by kernel_rfl) (by kernel_rfl) ?hsz ?hst ?hstep ?hfin
      case hst =>
        unfold RPlusI2
        refine ⟨false, false, false, false, false, false, false, false, false, 0, rfl, ?_, ?_, ?_, ?_, ?_, ?_, ?_, ?_, ?_, ?_⟩
        · first | (simp only [Act.put, List.setIfInBounds_toArray, List.set_cons_zero, List.set_cons_succ, cond_false]; done) | (simp only [Act.put, List.setIfInBounds_toArray, List.set_cons_zero, List.set_cons_succ, cond_false]; rfl)
        all_goals (first | (intro h; cases h; done) | ((repeat' (first | (with_reducible assumption) | ((with_reducible refine Blk.new ?_); first | rfl | (simp; done)) | (with_reducible refine Blk.later (by assumption) ?_) | (with_reducible refine Blk.alloc ?_) | (with_reducible refine Blk.drewN ?_) | (with_reducible refine Blk.drew ?_) | (with_reducible refine Blk.other ?_ (by first | omega | (simp; done) | (simp; omega))))); done) | ((repeat' (first | (with_reducible exact Below.refl _ _) | (with_reducible assumption) | (with_reducible refine belowThru ?_ (by assumption)) | (with_reducible refine belowAlloc ?_) | (with_reducible refine Below.setCell ?_ (by first | omega | (simp; done) | (simp; omega)) _) | (with_reducible refine Below.drew ?_) | (with_reducible refine below_drewN ?_ _))); done) | (simp only [cond_false]; (repeat' (first | (with_reducible assumption) | ((with_reducible refine Blk.new ?_); first | rfl | (simp; done)) | (with_reducible refine Blk.later (by assumption) ?_) | (with_reducible refine Blk.alloc ?_) | (with_reducible refine Blk.drewN ?_) | (with_reducible refine Blk.drew ?_) | (with_reducible refine Blk.other ?_ (by first | omega | (simp; done) | (simp; omega))))); done) | (simp only [World.size_drew]; omega) | (simp only [World.size_drew] at *; omega) | (simp; done) | (simp; omega))
      case hsz =>
        intro L a w9 h
        obtain ⟨gg0, gg1, gg2, gg3, gg4, gg5, gg6, gg7, gg8, x7, rfl, -⟩ := h; rfl
      case hstep =>
        intro L a w9 hI i hi
        obtain ⟨gg0, gg1, gg2, gg3, gg4, gg5, gg6, gg7, gg8, x7, rfl, rfl, fb0, fb1, fb2, fb3, fb4, fB, fL, f7, s7⟩ := hI
        obtain ⟨hi1, hi2, o, ho, hall⟩ := inv_mem hi
        clear hi
        rcases i with _ | _ | _ | _ | _ | _ | _ | _ | _ | i
        · have ge0 : gg0 = false := hi2
          clear hall hi1 hi2
          subst ge0
          have ho2 := ho
          simp only [List.getElem?_toArray, List.getElem?_cons_zero, List.getElem?_cons_succ] at ho2
          have ho3 := Option.some.inj ho2; clear ho2; subst ho3
          obtain ⟨ba0, bb0⟩ := fb0.read; have bl0 := fb0.lt
          obtain ⟨ba1, bb1⟩ := fb1.read; have bl1 := fb1.lt
          obtain ⟨ba2, bb2⟩ := fb2.read; have bl2 := fb2.lt
          obtain ⟨ba3, bb3⟩ := fb3.read; have bl3 := fb3.lt
          obtain ⟨ba4, bb4⟩ := fb4.read; have bl4 := fb4.lt
          simp only [Act.put, List.setIfInBounds_toArray, List.set_cons_zero, List.set_cons_succ]
          simp only [cond_true, cond_false]
          refine inv_op ho (by kernel_rfl) (fun K hK => ?_)
          clear ho
          go_simp
          refine hK.out _ _ ?_
          unfold RPlusI2
          refine ⟨true, gg1, gg2, gg3, gg4, gg5, gg6, gg7, gg8, x7, rfl, by simp only [Act.put, List.setIfInBounds_toArray, List.set_cons_zero, List.set_cons_succ, cond_true, cond_false], ?_, ?_, ?_, ?_, ?_, ?_, ?_, ?_, ?_⟩
          · exact fb0
          · exact fb1
          · exact fb2
          · exact fb3
          · exact fb4
          · exact fB
          · exact fL
          · exact f7
          · exact s7
        · have ge1 : gg1 = false := hi2
          have ge0 : gg0 = true := inv_dep ho hall 0 (by kernel_rfl)
          clear hall hi1 hi2
          subst ge1 ge0
          have ho2 := ho
          simp only [List.getElem?_toArray, List.getElem?_cons_zero, List.getElem?_cons_succ] at ho2
          have ho3 := Option.some.inj ho2; clear ho2; subst ho3
          obtain ⟨ba0, bb0⟩ := fb0.read; have bl0 := fb0.lt
          obtain ⟨ba1, bb1⟩ := fb1.read; have bl1 := fb1.lt
          obtain ⟨ba2, bb2⟩ := fb2.read; have bl2 := fb2.lt
          obtain ⟨ba3, bb3⟩ := fb3.read; have bl3 := fb3.lt
          obtain ⟨ba4, bb4⟩ := fb4.read; have bl4 := fb4.lt
          simp only [Act.put, List.setIfInBounds_toArray, List.set_cons_zero, List.set_cons_succ]
          simp only [cond_true, cond_false]
          refine inv_op ho (by kernel_rfl) (fun K hK => ?_)
          clear ho
          go_simp
          refine hK.out _ _ ?_
          unfold RPlusI2
          refine ⟨true, true, gg2, gg3, gg4, gg5, gg6, gg7, gg8, x7, rfl, by simp only [Act.put, List.setIfInBounds_toArray, List.set_cons_zero, List.set_cons_succ, cond_true, cond_false], ?_, ?_, ?_, ?_, ?_, ?_, ?_, ?_, ?_⟩
          · exact fb0
          · exact fb1
          · exact fb2
          · exact fb3
          · exact fb4
          · exact fB
          · exact fL
          · exact f7
          · exact s7
        · have ge2 : gg2 = false := hi2
          have ge1 : gg1 = true := inv_dep ho hall 1 (by kernel_rfl)
          clear hall hi1 hi2
          subst ge2 ge1
          have ho2 := ho
          simp only [List.getElem?_toArray, List.getElem?_cons_zero, List.getElem?_cons_succ] at ho2
          have ho3 := Option.some.inj ho2; clear ho2; subst ho3
          obtain ⟨ba0, bb0⟩ := fb0.read; have bl0 := fb0.lt
          obtain ⟨ba1, bb1⟩ := fb1.read; have bl1 := fb1.lt
          obtain ⟨ba2, bb2⟩ := fb2.read; have bl2 := fb2.lt
          obtain ⟨ba3, bb3⟩ := fb3.read; have bl3 := fb3.lt
          obtain ⟨ba4, bb4⟩ := fb4.read; have bl4 := fb4.lt
          simp only [Act.put, List.setIfInBounds_toArray, List.set_cons_zero, List.set_cons_succ]
          simp only [cond_true, cond_false]
          refine inv_op ho (by kernel_rfl) (fun K hK => ?_)
          clear ho
          go_simp
          go_at_call 115; (with_reducible refine (HB.out _).mono ?_); rintro e w1 ⟨rfl, rfl⟩
          refine hK.out _ _ ?_
          unfold RPlusI2
          refine ⟨gg0, true, true, gg3, gg4, gg5, gg6, gg7, gg8, x7, rfl, by simp only [Act.put, List.setIfInBounds_toArray, List.set_cons_zero, List.set_cons_succ, cond_true, cond_false], ?_, ?_, ?_, ?_, ?_, ?_, ?_, ?_, ?_⟩
          · exact fb0
          · exact fb1
          · exact fb2
          · exact fb3
          · exact fb4
          · exact fB
          · exact fL
          · exact f7
          · exact s7
        · have ge3 : gg3 = false := hi2
          clear hall hi1 hi2
          subst ge3
          have ho2 := ho
          simp only [List.getElem?_toArray, List.getElem?_cons_zero, List.getElem?_cons_succ] at ho2
          have ho3 := Option.some.inj ho2; clear ho2; subst ho3
          obtain ⟨ba0, bb0⟩ := fb0.read; have bl0 := fb0.lt
          obtain ⟨ba1, bb1⟩ := fb1.read; have bl1 := fb1.lt
          obtain ⟨ba2, bb2⟩ := fb2.read; have bl2 := fb2.lt
          obtain ⟨ba3, bb3⟩ := fb3.read; have bl3 := fb3.lt
          obtain ⟨ba4, bb4⟩ := fb4.read; have bl4 := fb4.lt
          simp only [Act.put, List.setIfInBounds_toArray, List.set_cons_zero, List.set_cons_succ]
          simp only [cond_true, cond_false]
          refine inv_op ho (by kernel_rfl) (fun K hK => ?_)
          clear ho
          go_simp
          refine hK.out _ _ ?_
          unfold RPlusI2
          refine ⟨gg0, gg1, gg2, true, gg4, gg5, gg6, gg7, gg8, x7, rfl, by simp only [Act.put, List.setIfInBounds_toArray, List.set_cons_zero, List.set_cons_succ, cond_true, cond_false], ?_, ?_, ?_, ?_, ?_, ?_, ?_, ?_, ?_⟩
          · exact fb0
          · exact fb1
          · exact fb2
          · exact fb3
          · exact fb4
          · exact fB
          · exact fL
          · exact f7
          · exact s7
        · have ge4 : gg4 = false := hi2
          have ge3 : gg3 = true := inv_dep ho hall 3 (by kernel_rfl)
          clear hall hi1 hi2
          subst ge4 ge3
          have ho2 := ho
          simp only [List.getElem?_toArray, List.getElem?_cons_zero, List.getElem?_cons_succ] at ho2
          have ho3 := Option.some.inj ho2; clear ho2; subst ho3
          obtain ⟨ba0, bb0⟩ := fb0.read; have bl0 := fb0.lt
          obtain ⟨ba1, bb1⟩ := fb1.read; have bl1 := fb1.lt
          obtain ⟨ba2, bb2⟩ := fb2.read; have bl2 := fb2.lt
          obtain ⟨ba3, bb3⟩ := fb3.read; have bl3 := fb3.lt
          obtain ⟨ba4, bb4⟩ := fb4.read; have bl4 := fb4.lt
          simp only [Act.put, List.setIfInBounds_toArray, List.set_cons_zero, List.set_cons_succ]
          simp only [cond_true, cond_false]
          refine inv_op ho (by kernel_rfl) (fun K hK => ?_)
          clear ho
          go_simp
          refine hK.out _ _ ?_
          unfold RPlusI2
          refine ⟨gg0, gg1, gg2, true, true, gg5, gg6, gg7, gg8, x7, rfl, by simp only [Act.put, List.setIfInBounds_toArray, List.set_cons_zero, List.set_cons_succ, cond_true, cond_false], ?_, ?_, ?_, ?_, ?_, ?_, ?_, ?_, ?_⟩
          · exact fb0
          · exact fb1
          · exact fb2
          · exact fb3
          · exact fb4
          · exact fB
          · exact fL
          · exact f7
          · exact s7
        · have ge5 : gg5 = false := hi2
          have ge4 : gg4 = true := inv_dep ho hall 4 (by kernel_rfl)
          clear hall hi1 hi2
          subst ge5 ge4
          have ho2 := ho
          simp only [List.getElem?_toArray, List.getElem?_cons_zero, List.getElem?_cons_succ] at ho2
          have ho3 := Option.some.inj ho2; clear ho2; subst ho3
          obtain ⟨ba0, bb0⟩ := fb0.read; have bl0 := fb0.lt
          obtain ⟨ba1, bb1⟩ := fb1.read; have bl1 := fb1.lt
          obtain ⟨ba2, bb2⟩ := fb2.read; have bl2 := fb2.lt
          obtain ⟨ba3, bb3⟩ := fb3.read; have bl3 := fb3.lt
          obtain ⟨ba4, bb4⟩ := fb4.read; have bl4 := fb4.lt
          simp only [Act.put, List.setIfInBounds_toArray, List.set_cons_zero, List.set_cons_succ]
          simp only [cond_true, cond_false]
          refine inv_op ho (by kernel_rfl) (fun K hK => ?_)
          clear ho
          go_simp
          go_at_call 115; (with_reducible refine (HD.out _).mono ?_); rintro e w1 ⟨rfl, rfl⟩
          refine hK.out _ _ ?_
          unfold RPlusI2
          refine ⟨gg0, gg1, gg2, gg3, true, true, gg6, gg7, gg8, x7, rfl, by simp only [Act.put, List.setIfInBounds_toArray, List.set_cons_zero, List.set_cons_succ, cond_true, cond_false], ?_, ?_, ?_, ?_, ?_, ?_, ?_, ?_, ?_⟩
          · exact fb0
          · exact fb1
          · exact fb2
          · exact fb3
          · exact fb4
          · exact fB
          · exact fL
          · exact f7
          · exact s7
        · have ge6 : gg6 = false := hi2
          have ge2 : gg2 = true := inv_dep ho hall 2 (by kernel_rfl)
          have ge5 : gg5 = true := inv_dep ho hall 5 (by kernel_rfl)
          clear hall hi1 hi2
          subst ge6 ge2 ge5
          have ho2 := ho
          simp only [List.getElem?_toArray, List.getElem?_cons_zero, List.getElem?_cons_succ] at ho2
          have ho3 := Option.some.inj ho2; clear ho2; subst ho3
          obtain ⟨ba0, bb0⟩ := fb0.read; have bl0 := fb0.lt
          obtain ⟨ba1, bb1⟩ := fb1.read; have bl1 := fb1.lt
          obtain ⟨ba2, bb2⟩ := fb2.read; have bl2 := fb2.lt
          obtain ⟨ba3, bb3⟩ := fb3.read; have bl3 := fb3.lt
          obtain ⟨ba4, bb4⟩ := fb4.read; have bl4 := fb4.lt
          simp only [Act.put, List.setIfInBounds_toArray, List.set_cons_zero, List.set_cons_succ]
          simp only [cond_true, cond_false]
          refine inv_op ho (by kernel_rfl) (fun K hK => ?_)
          clear ho
          go_simp
          go_at_call 114; (with_reducible refine (HZ.out _).mono ?_); rintro e w1 ⟨rfl, hb⟩
          refine hK.out _ _ ?_
          unfold RPlusI2
          refine ⟨gg0, gg1, true, gg3, gg4, true, true, gg7, gg8, x7, rfl, by simp only [Act.put, List.setIfInBounds_toArray, List.set_cons_zero, List.set_cons_succ, cond_true, cond_false], ?_, ?_, ?_, ?_, ?_, ?_, ?_, ?_, ?_⟩
          · exact Blk.later hb fb0
          · exact Blk.later hb fb1
          · exact Blk.later hb fb2
          · exact Blk.later hb fb3
          · exact Blk.later hb fb4
          · exact belowThru fB hb
          · have := hb.size; omega
          · intro h; obtain ⟨p, q⟩ := f7 h; exact ⟨Blk.later hb p, q⟩
          · exact s7
        · have ge7 : gg7 = false := hi2
          clear hall hi1 hi2
          subst ge7
          have ho2 := ho
          simp only [List.getElem?_toArray, List.getElem?_cons_zero, List.getElem?_cons_succ] at ho2
          have ho3 := Option.some.inj ho2; clear ho2; subst ho3
          obtain ⟨ba0, bb0⟩ := fb0.read; have bl0 := fb0.lt
          obtain ⟨ba1, bb1⟩ := fb1.read; have bl1 := fb1.lt
          obtain ⟨ba2, bb2⟩ := fb2.read; have bl2 := fb2.lt
          obtain ⟨ba3, bb3⟩ := fb3.read; have bl3 := fb3.lt
          obtain ⟨ba4, bb4⟩ := fb4.read; have bl4 := fb4.lt
          obtain rfl : gg8 = false := by cases gg8; rfl; exact Bool.noConfusion (s7 rfl)
          simp only [Act.put, List.setIfInBounds_toArray, List.set_cons_zero, List.set_cons_succ]
          simp only [cond_true, cond_false]
          refine inv_op ho (by kernel_rfl) (fun K hK => ?_)
          clear ho
          go_simp
          refine hK.out _ _ ?_
          unfold RPlusI2
          refine ⟨gg0, gg1, gg2, gg3, gg4, gg5, gg6, true, false, w9.heap.size, rfl, by simp only [Act.put, List.setIfInBounds_toArray, List.set_cons_zero, List.set_cons_succ, cond_true, cond_false], ?_, ?_, ?_, ?_, ?_, ?_, ?_, ?_, ?_⟩
          · exact fb0.alloc
          · exact fb1.alloc
          · exact fb2.alloc
          · exact fb3.alloc
          · exact fb4.alloc
          · exact belowAlloc fB
          · simp only [World.size_alloc]; omega
          · intro _; exact ⟨Blk.new rfl, fL⟩
          · intro _; rfl
        · have ge8 : gg8 = false := hi2
          have ge6 : gg6 = true := inv_dep ho hall 6 (by kernel_rfl)
          have ge7 : gg7 = true := inv_dep ho hall 7 (by kernel_rfl)
          clear hall hi1 hi2
          subst ge8 ge6 ge7
          have ho2 := ho
          simp only [List.getElem?_toArray, List.getElem?_cons_zero, List.getElem?_cons_succ] at ho2
          have ho3 := Option.some.inj ho2; clear ho2; subst ho3
          obtain ⟨p7, q7⟩ := f7 rfl
          obtain ⟨ra7, rb7⟩ := p7.read
          have rl7 := p7.lt
          obtain ⟨ba0, bb0⟩ := fb0.read; have bl0 := fb0.lt
          obtain ⟨ba1, bb1⟩ := fb1.read; have bl1 := fb1.lt
          obtain ⟨ba2, bb2⟩ := fb2.read; have bl2 := fb2.lt
          obtain ⟨ba3, bb3⟩ := fb3.read; have bl3 := fb3.lt
          obtain ⟨ba4, bb4⟩ := fb4.read; have bl4 := fb4.lt
          have rl7 := p7.lt
          skip
          simp only [Act.put, List.setIfInBounds_toArray, List.set_cons_zero, List.set_cons_succ]
          simp only [cond_true, cond_false]
          refine inv_op ho (by kernel_rfl) (fun K hK => ?_)
          clear ho
          go_simp
          refine hK.out _ _ ?_
          unfold RPlusI2
          refine ⟨gg0, gg1, gg2, gg3, gg4, gg5, true, true, true, x7, rfl, by simp only [Act.put, List.setIfInBounds_toArray, List.set_cons_zero, List.set_cons_succ, cond_true, cond_false], ?_, ?_, ?_, ?_, ?_, ?_, ?_, ?_, ?_⟩
          · (repeat' (first | (with_reducible assumption) | ((with_reducible refine Blk.new ?_); first | rfl | (simp; done)) | (with_reducible refine Blk.later (by assumption) ?_) | (with_reducible refine Blk.alloc ?_) | (with_reducible refine Blk.drewN ?_) | (with_reducible refine Blk.drew ?_) | (with_reducible refine Blk.other ?_ (by first | omega | (simp; done) | (simp; omega)))))
          · (repeat' (first | (with_reducible assumption) | ((with_reducible refine Blk.new ?_); first | rfl | (simp; done)) | (with_reducible refine Blk.later (by assumption) ?_) | (with_reducible refine Blk.alloc ?_) | (with_reducible refine Blk.drewN ?_) | (with_reducible refine Blk.drew ?_) | (with_reducible refine Blk.other ?_ (by first | omega | (simp; done) | (simp; omega)))))
          · (repeat' (first | (with_reducible assumption) | ((with_reducible refine Blk.new ?_); first | rfl | (simp; done)) | (with_reducible refine Blk.later (by assumption) ?_) | (with_reducible refine Blk.alloc ?_) | (with_reducible refine Blk.drewN ?_) | (with_reducible refine Blk.drew ?_) | (with_reducible refine Blk.other ?_ (by first | omega | (simp; done) | (simp; omega)))))
          · (repeat' (first | (with_reducible assumption) | ((with_reducible refine Blk.new ?_); first | rfl | (simp; done)) | (with_reducible refine Blk.later (by assumption) ?_) | (with_reducible refine Blk.alloc ?_) | (with_reducible refine Blk.drewN ?_) | (with_reducible refine Blk.drew ?_) | (with_reducible refine Blk.other ?_ (by first | omega | (simp; done) | (simp; omega)))))
          · (repeat' (first | (with_reducible assumption) | ((with_reducible refine Blk.new ?_); first | rfl | (simp; done)) | (with_reducible refine Blk.later (by assumption) ?_) | (with_reducible refine Blk.alloc ?_) | (with_reducible refine Blk.drewN ?_) | (with_reducible refine Blk.drew ?_) | (with_reducible refine Blk.other ?_ (by first | omega | (simp; done) | (simp; omega)))))
          · (repeat' (first | (with_reducible exact Below.refl _ _) | (with_reducible assumption) | (with_reducible refine belowThru ?_ (by assumption)) | (with_reducible refine belowAlloc ?_) | (with_reducible refine Below.setCell ?_ (by first | omega | (simp; done) | (simp; omega)) _) | (with_reducible refine Below.drew ?_) | (with_reducible refine below_drewN ?_ _)))
          · first | exact fL | (simp; omega)
          · intro _; exact ⟨by exact Blk.set (Blk.set (p7)), q7⟩
          · intro _; rfl
        · exfalso; simp at hi1; omega
      case hfin =>
        intro a w9 hI
        obtain ⟨gg0, gg1, gg2, gg3, gg4, gg5, gg6, gg7, gg8, x7, hL, rfl, fb0, fb1, fb2, fb3, fb4, fB, fL, f7, s7⟩ := hI
        have hL2 : #[true, true, true, true, true, true, true, true, true] = #[gg0, gg1, gg2, gg3, gg4, gg5, gg6, gg7, gg8] := hL
        cases hL2
        obtain ⟨p7, q7⟩ := f7 rfl
        clear f7 s7
        simp only [Act.put, List.setIfInBounds_toArray, List.set_cons_zero, List.set_cons_succ]
        simp only [cond_true]
        go_wp2_with fail
        go_meet
        refine ⟨⟨x7, rfl, by omega, p7⟩, fb3, fb4, fb0, fb1, fb2, fB⟩
    case rest =>
      clear HZ HB HD k0 k1 k2 k3 k4 a0 a1 a2 a3 a4 b0 b1 b2 b3 b4 zz0 zz1 zz2 zz3 zz4 hB
      obtain ⟨⟨zb, rfl, g3, k5⟩, k3, k4, k0, k1, k2, hB⟩ := hcut
      obtain ⟨a0, b0⟩ := k0.read; obtain ⟨a1, b1⟩ := k1.read; obtain ⟨a2, b2⟩ := k2.read; obtain ⟨a3, b3⟩ := k3.read; obtain ⟨a4, b4⟩ := k4.read; obtain ⟨a5, b5⟩ := k5.read
      have zz0 := k0.lt; have zz1 := k1.lt; have zz2 := k2.lt; have zz3 := k3.lt; have zz4 := k4.lt; have zz5 := k5.lt
      rcases hv with ⟨h2, h3, HU, HL⟩ | ⟨h2, HE, HU, HL⟩ | ⟨h2, HE, HU, HL⟩
      · go_upto_region 3 with fail
        go_region_held3 (fun w' => (Blk w' w.heap.size #[.int .i64 a, .int .i64 b] 23 ∧ (∀ i : Nat, w'.cell? ⟨w.heap.size, i, none⟩ = (#[.int .i64 a, .int .i64 b] : Array Value)[i]?)) ∧ (Blk w' (w.heap.size + 1) #[.int .i64 c, .int .i64 d] 23 ∧ (∀ i : Nat, w'.cell? ⟨(w.heap.size + 1), i, none⟩ = (#[.int .i64 c, .int .i64 d] : Array Value)[i]?)) ∧ (Blk w' (w.heap.size + 1 + 1) #[.int .i64 0, .int .i64 0] 23 ∧ Blk w' pb #[.int .u64 X1, .int .u64 X0] 141 ∧ Blk w' qb #[.int .u64 Y1, .int .u64 Y0] 141 ∧ Blk w' zb #[.int .u64 Z1, .int .u64 Z0] 141) ∧ Below w.heap.size w w')
          (((first | (apply hold2; (focus assumption); intro p0 p1 pB; obtain ⟨⟨p2, p3, p4, p5⟩, pB⟩ := pB) | skip); refine ⟨Blk.full ?_, Blk.full ?_, ⟨?_, ?_, ?_, ?_⟩, ?_⟩; all_goals (first | ((repeat' (first | (with_reducible assumption) | ((with_reducible refine Blk.new ?_); first | rfl | (simp; done)) | (with_reducible refine Blk.later (by assumption) ?_) | (with_reducible refine Blk.alloc ?_) | (with_reducible refine Blk.drewN ?_) | (with_reducible refine Blk.drew ?_) | (with_reducible refine Blk.other ?_ (by first | omega | (simp; done) | (simp; omega))))); done) | ((repeat' (first | (with_reducible exact Below.refl _ _) | (with_reducible assumption) | (with_reducible refine belowThru ?_ (by assumption)) | (with_reducible refine belowAlloc ?_) | (with_reducible refine Below.setCell ?_ (by first | omega | (simp; done) | (simp; omega)) _) | (with_reducible refine Below.drew ?_) | (with_reducible refine below_drewN ?_ _))); done))))
          (first
          | (go_at_call 116; (with_reducible refine (HS1.out _).mono ?_); rintro e w1 ⟨rfl, rfl⟩)
          | (go_at_call 116; (with_reducible refine (HS2.out _).mono ?_); rintro e w1 ⟨rfl, rfl⟩))
        all_goals
          clear k0 k1 k2 k3 k4 k5 a0 a1 a2 a3 a4 a5 b0 b1 b2 b3 b4 b5 zz0 zz1 zz2 zz3 zz4 zz5 hB
          apply hold2; (focus assumption); intro k0 k1 pB; obtain ⟨⟨k2, k3, k4, k5⟩, hB⟩ := pB
          obtain ⟨a0, b0⟩ := k0.read; obtain ⟨a1, b1⟩ := k1.read; obtain ⟨a2, b2⟩ := k2.read; obtain ⟨a3, b3⟩ := k3.read; obtain ⟨a4, b4⟩ := k4.read; obtain ⟨a5, b5⟩ := k5.read
          have zz0 := k0.lt; have zz1 := k1.lt; have zz2 := k2.lt; have zz3 := k3.lt; have zz4 := k4.lt; have zz5 := k5.lt
          go_upto_region 4 with fail
          refine wp_region_inv (RPlusI4 a b c d s t v X1 X0 Y1 Y0 Z1 Z0 U1 U0 A B ok pb qb zb w ?i38 ?i39 ?i40 ?i41 ?i42 ?i43 ?i44 ?i45 ?i46 ?i47 ?i48 ?i49 ?i50 ?i51 ?i5) (by kernel_rfl) (by kernel_rfl) ?hsz ?hst ?hstep ?hfin
          case hst =>
            unfold RPlusI4
            refine ⟨false, false, false, false, false, false, false, false, false, false, false, false, false, false, false, false, rfl, ?_, ?_, ?_, ?_, ?_, ?_, ?_, ?_, ?_⟩
            · first | (simp only [Act.put, List.setIfInBounds_toArray, List.set_cons_zero, List.set_cons_succ, cond_false]; done) | (simp only [Act.put, List.setIfInBounds_toArray, List.set_cons_zero, List.set_cons_succ, cond_false]; rfl)
            all_goals (first | (intro h; cases h; done) | ((repeat' (first | (with_reducible assumption) | ((with_reducible refine Blk.new ?_); first | rfl | (simp; done)) | (with_reducible refine Blk.later (by assumption) ?_) | (with_reducible refine Blk.alloc ?_) | (with_reducible refine Blk.drewN ?_) | (with_reducible refine Blk.drew ?_) | (with_reducible refine Blk.other ?_ (by first | omega | (simp; done) | (simp; omega))))); done) | ((repeat' (first | (with_reducible exact Below.refl _ _) | (with_reducible assumption) | (with_reducible refine belowThru ?_ (by assumption)) | (with_reducible refine belowAlloc ?_) | (with_reducible refine Below.setCell ?_ (by first | omega | (simp; done) | (simp; omega)) _) | (with_reducible refine Below.drew ?_) | (with_reducible refine below_drewN ?_ _))); done) | (simp only [cond_false]; (repeat' (first | (with_reducible assumption) | ((with_reducible refine Blk.new ?_); first | rfl | (simp; done)) | (with_reducible refine Blk.later (by assumption) ?_) | (with_reducible refine Blk.alloc ?_) | (with_reducible refine Blk.drewN ?_) | (with_reducible refine Blk.drew ?_) | (with_reducible refine Blk.other ?_ (by first | omega | (simp; done) | (simp; omega))))); done) | (simp only [World.size_drew]; omega) | (simp only [World.size_drew] at *; omega) | (simp; done) | (simp; omega))
          case hsz =>
            intro L a w9 h
            obtain ⟨gg0, gg1, gg2, gg3, gg4, gg5, gg6, gg7, gg8, gg9, gg10, gg11, gg12, gg13, gg14, gg15, rfl, -⟩ := h; rfl
          case hstep =>
            intro L a w9 hI i hi
            obtain ⟨gg0, gg1, gg2, gg3, gg4, gg5, gg6, gg7, gg8, gg9, gg10, gg11, gg12, gg13, gg14, gg15, rfl, rfl, fb0, fb1, fb2, fb3, fb4, fb5, fB, fL⟩ := hI
            obtain ⟨hi1, hi2, o, ho, hall⟩ := inv_mem hi
            clear hi
            rcases i with _ | _ | _ | _ | _ | _ | _ | _ | _ | _ | _ | _ | _ | _ | _ | _ | i
            · have ge0 : gg0 = false := hi2
              clear hall hi1 hi2
              subst ge0
              have ho2 := ho
              simp only [List.getElem?_toArray, List.getElem?_cons_zero, List.getElem?_cons_succ] at ho2
              have ho3 := Option.some.inj ho2; clear ho2; subst ho3
              obtain ⟨ba0, bb0⟩ := fb0.read; have bl0 := fb0.lt
              obtain ⟨ba1, bb1⟩ := fb1.read; have bl1 := fb1.lt
              obtain ⟨ba3, bb3⟩ := fb3.read; have bl3 := fb3.lt
              obtain ⟨ba4, bb4⟩ := fb4.read; have bl4 := fb4.lt
              obtain ⟨ba5, bb5⟩ := fb5.read; have bl5 := fb5.lt
              simp only [Act.put, List.setIfInBounds_toArray, List.set_cons_zero, List.set_cons_succ]
              simp only [cond_true, cond_false]
              refine inv_op ho (by kernel_rfl) (fun K hK => ?_)
              clear ho
              go_simp
              refine hK.out _ _ ?_
              unfold RPlusI4
              refine ⟨true, gg1, gg2, gg3, gg4, gg5, gg6, gg7, gg8, gg9, gg10, gg11, gg12, gg13, gg14, gg15, rfl, by simp only [Act.put, List.setIfInBounds_toArray, List.set_cons_zero, List.set_cons_succ, cond_true, cond_false], ?_, ?_, ?_, ?_, ?_, ?_, ?_, ?_⟩
              · exact fb0
              · exact fb1
              · exact fb2
              · exact fb3
              · exact fb4
              · exact fb5
              · exact fB
              · exact fL
            · have ge1 : gg1 = false := hi2
              have ge0 : gg0 = true := inv_dep ho hall 0 (by kernel_rfl)
              clear hall hi1 hi2
              subst ge1 ge0
              have ho2 := ho
              simp only [List.getElem?_toArray, List.getElem?_cons_zero, List.getElem?_cons_succ] at ho2
              have ho3 := Option.some.inj ho2; clear ho2; subst ho3
              obtain ⟨ba0, bb0⟩ := fb0.read; have bl0 := fb0.lt
              obtain ⟨ba1, bb1⟩ := fb1.read; have bl1 := fb1.lt
              obtain ⟨ba3, bb3⟩ := fb3.read; have bl3 := fb3.lt
              obtain ⟨ba4, bb4⟩ := fb4.read; have bl4 := fb4.lt
              obtain ⟨ba5, bb5⟩ := fb5.read; have bl5 := fb5.lt
              simp only [Act.put, List.setIfInBounds_toArray, List.set_cons_zero, List.set_cons_succ]
              simp only [cond_true, cond_false]
              refine inv_op ho (by kernel_rfl) (fun K hK => ?_)
              clear ho
              go_simp
              refine hK.out _ _ ?_
              unfold RPlusI4
              refine ⟨true, true, gg2, gg3, gg4, gg5, gg6, gg7, gg8, gg9, gg10, gg11, gg12, gg13, gg14, gg15, rfl, by simp only [Act.put, List.setIfInBounds_toArray, List.set_cons_zero, List.set_cons_succ, cond_true, cond_false], ?_, ?_, ?_, ?_, ?_, ?_, ?_, ?_⟩
              · exact fb0
              · exact fb1
              · exact fb2
              · exact fb3
              · exact fb4
              · exact fb5
              · exact fB
              · exact fL
            · have ge2 : gg2 = false := hi2
              have ge1 : gg1 = true := inv_dep ho hall 1 (by kernel_rfl)
              clear hall hi1 hi2
              subst ge2 ge1
              have ho2 := ho
              simp only [List.getElem?_toArray, List.getElem?_cons_zero, List.getElem?_cons_succ] at ho2
              have ho3 := Option.some.inj ho2; clear ho2; subst ho3
              obtain ⟨ba0, bb0⟩ := fb0.read; have bl0 := fb0.lt
              obtain ⟨ba1, bb1⟩ := fb1.read; have bl1 := fb1.lt
              obtain ⟨ba3, bb3⟩ := fb3.read; have bl3 := fb3.lt
              obtain ⟨ba4, bb4⟩ := fb4.read; have bl4 := fb4.lt
              obtain ⟨ba5, bb5⟩ := fb5.read; have bl5 := fb5.lt
              simp only [Act.put, List.setIfInBounds_toArray, List.set_cons_zero, List.set_cons_succ]
              simp only [cond_true, cond_false]
              refine inv_op ho (by kernel_rfl) (fun K hK => ?_)
              clear ho
              go_simp
              go_at_call 116; (with_reducible refine (HS1.out _).mono ?_); rintro e w1 ⟨rfl, rfl⟩
              refine hK.out _ _ ?_
              unfold RPlusI4
              refine ⟨gg0, true, true, gg3, gg4, gg5, gg6, gg7, gg8, gg9, gg10, gg11, gg12, gg13, gg14, gg15, rfl, by simp only [Act.put, List.setIfInBounds_toArray, List.set_cons_zero, List.set_cons_succ, cond_true, cond_false], ?_, ?_, ?_, ?_, ?_, ?_, ?_, ?_⟩
              · exact fb0
              · exact fb1
              · exact fb2
              · exact fb3
              · exact fb4
              · exact fb5
              · exact fB
              · exact fL
            · have ge3 : gg3 = false := hi2
              clear hall hi1 hi2
              subst ge3
              have ho2 := ho
              simp only [List.getElem?_toArray, List.getElem?_cons_zero, List.getElem?_cons_succ] at ho2
              have ho3 := Option.some.inj ho2; clear ho2; subst ho3
              obtain ⟨ba0, bb0⟩ := fb0.read; have bl0 := fb0.lt
              obtain ⟨ba1, bb1⟩ := fb1.read; have bl1 := fb1.lt
              obtain ⟨ba3, bb3⟩ := fb3.read; have bl3 := fb3.lt
              obtain ⟨ba4, bb4⟩ := fb4.read; have bl4 := fb4.lt
              obtain ⟨ba5, bb5⟩ := fb5.read; have bl5 := fb5.lt
              simp only [Act.put, List.setIfInBounds_toArray, List.set_cons_zero, List.set_cons_succ]
              simp only [cond_true, cond_false]
              refine inv_op ho (by kernel_rfl) (fun K hK => ?_)
              clear ho
              go_simp
              refine hK.out _ _ ?_
              unfold RPlusI4
              refine ⟨gg0, gg1, gg2, true, gg4, gg5, gg6, gg7, gg8, gg9, gg10, gg11, gg12, gg13, gg14, gg15, rfl, by simp only [Act.put, List.setIfInBounds_toArray, List.set_cons_zero, List.set_cons_succ, cond_true, cond_false], ?_, ?_, ?_, ?_, ?_, ?_, ?_, ?_⟩
              · exact fb0
              · exact fb1
              · exact fb2
              · exact fb3
              · exact fb4
              · exact fb5
              · exact fB
              · exact fL
            · have ge4 : gg4 = false := hi2
              have ge3 : gg3 = true := inv_dep ho hall 3 (by kernel_rfl)
              clear hall hi1 hi2
              subst ge4 ge3
              have ho2 := ho
              simp only [List.getElem?_toArray, List.getElem?_cons_zero, List.getElem?_cons_succ] at ho2
              have ho3 := Option.some.inj ho2; clear ho2; subst ho3
              obtain ⟨ba0, bb0⟩ := fb0.read; have bl0 := fb0.lt
              obtain ⟨ba1, bb1⟩ := fb1.read; have bl1 := fb1.lt
              obtain ⟨ba3, bb3⟩ := fb3.read; have bl3 := fb3.lt
              obtain ⟨ba4, bb4⟩ := fb4.read; have bl4 := fb4.lt
              obtain ⟨ba5, bb5⟩ := fb5.read; have bl5 := fb5.lt
              simp only [Act.put, List.setIfInBounds_toArray, List.set_cons_zero, List.set_cons_succ]
              simp only [cond_true, cond_false]
              refine inv_op ho (by kernel_rfl) (fun K hK => ?_)
              clear ho
              go_simp
              refine hK.out _ _ ?_
              unfold RPlusI4
              refine ⟨gg0, gg1, gg2, true, true, gg5, gg6, gg7, gg8, gg9, gg10, gg11, gg12, gg13, gg14, gg15, rfl, by simp only [Act.put, List.setIfInBounds_toArray, List.set_cons_zero, List.set_cons_succ, cond_true, cond_false], ?_, ?_, ?_, ?_, ?_, ?_, ?_, ?_⟩
              · exact fb0
              · exact fb1
              · exact fb2
              · exact fb3
              · exact fb4
              · exact fb5
              · exact fB
              · exact fL
            · have ge5 : gg5 = false := hi2
              have ge4 : gg4 = true := inv_dep ho hall 4 (by kernel_rfl)
              clear hall hi1 hi2
              subst ge5 ge4
              have ho2 := ho
              simp only [List.getElem?_toArray, List.getElem?_cons_zero, List.getElem?_cons_succ] at ho2
              have ho3 := Option.some.inj ho2; clear ho2; subst ho3
              obtain ⟨ba0, bb0⟩ := fb0.read; have bl0 := fb0.lt
              obtain ⟨ba1, bb1⟩ := fb1.read; have bl1 := fb1.lt
              obtain ⟨ba3, bb3⟩ := fb3.read; have bl3 := fb3.lt
              obtain ⟨ba4, bb4⟩ := fb4.read; have bl4 := fb4.lt
              obtain ⟨ba5, bb5⟩ := fb5.read; have bl5 := fb5.lt
              simp only [Act.put, List.setIfInBounds_toArray, List.set_cons_zero, List.set_cons_succ]
              simp only [cond_true, cond_false]
              refine inv_op ho (by kernel_rfl) (fun K hK => ?_)
              clear ho
              go_simp
              go_at_call 116; (with_reducible refine (HS2.out _).mono ?_); rintro e w1 ⟨rfl, rfl⟩
              refine hK.out _ _ ?_
              unfold RPlusI4
              refine ⟨gg0, gg1, gg2, gg3, true, true, gg6, gg7, gg8, gg9, gg10, gg11, gg12, gg13, gg14, gg15, rfl, by simp only [Act.put, List.setIfInBounds_toArray, List.set_cons_zero, List.set_cons_succ, cond_true, cond_false], ?_, ?_, ?_, ?_, ?_, ?_, ?_, ?_⟩
              · exact fb0
              · exact fb1
              · exact fb2
              · exact fb3
              · exact fb4
              · exact fb5
              · exact fB
              · exact fL
            · have ge6 : gg6 = false := hi2
              have ge2 : gg2 = true := inv_dep ho hall 2 (by kernel_rfl)
              have ge5 : gg5 = true := inv_dep ho hall 5 (by kernel_rfl)
              clear hall hi1 hi2
              subst ge6 ge2 ge5
              have ho2 := ho
              simp only [List.getElem?_toArray, List.getElem?_cons_zero, List.getElem?_cons_succ] at ho2
              have ho3 := Option.some.inj ho2; clear ho2; subst ho3
              obtain ⟨ba0, bb0⟩ := fb0.read; have bl0 := fb0.lt
              obtain ⟨ba1, bb1⟩ := fb1.read; have bl1 := fb1.lt
              obtain ⟨ba3, bb3⟩ := fb3.read; have bl3 := fb3.lt
              obtain ⟨ba4, bb4⟩ := fb4.read; have bl4 := fb4.lt
              obtain ⟨ba5, bb5⟩ := fb5.read; have bl5 := fb5.lt
              simp only [Act.put, List.setIfInBounds_toArray, List.set_cons_zero, List.set_cons_succ]
              simp only [cond_true, cond_false]
              refine inv_op ho (by kernel_rfl) (fun K hK => ?_)
              clear ho
              go_simp
              refine hK.out _ _ ?_
              unfold RPlusI4
              refine ⟨gg0, gg1, true, gg3, gg4, true, true, gg7, gg8, gg9, gg10, gg11, gg12, gg13, gg14, gg15, rfl, by simp only [Act.put, List.setIfInBounds_toArray, List.set_cons_zero, List.set_cons_succ, cond_true, cond_false], ?_, ?_, ?_, ?_, ?_, ?_, ?_, ?_⟩
              · exact fb0
              · exact fb1
              · exact fb2
              · exact fb3
              · exact fb4
              · exact fb5
              · exact fB
              · exact fL
            · have ge7 : gg7 = false := hi2
              clear hall hi1 hi2
              subst ge7
              have ho2 := ho
              simp only [List.getElem?_toArray, List.getElem?_cons_zero, List.getElem?_cons_succ] at ho2
              have ho3 := Option.some.inj ho2; clear ho2; subst ho3
              obtain ⟨ba0, bb0⟩ := fb0.read; have bl0 := fb0.lt
              obtain ⟨ba1, bb1⟩ := fb1.read; have bl1 := fb1.lt
              obtain ⟨ba3, bb3⟩ := fb3.read; have bl3 := fb3.lt
              obtain ⟨ba4, bb4⟩ := fb4.read; have bl4 := fb4.lt
              obtain ⟨ba5, bb5⟩ := fb5.read; have bl5 := fb5.lt
              simp only [Act.put, List.setIfInBounds_toArray, List.set_cons_zero, List.set_cons_succ]
              simp only [cond_true, cond_false]
              refine inv_op ho (by kernel_rfl) (fun K hK => ?_)
              clear ho
              go_simp
              refine hK.out _ _ ?_
              unfold RPlusI4
              refine ⟨gg0, gg1, gg2, gg3, gg4, gg5, gg6, true, gg8, gg9, gg10, gg11, gg12, gg13, gg14, gg15, rfl, by simp only [Act.put, List.setIfInBounds_toArray, List.set_cons_zero, List.set_cons_succ, cond_true, cond_false], ?_, ?_, ?_, ?_, ?_, ?_, ?_, ?_⟩
              · exact fb0
              · exact fb1
              · exact fb2
              · exact fb3
              · exact fb4
              · exact fb5
              · exact fB
              · exact fL
            · have ge8 : gg8 = false := hi2
              clear hall hi1 hi2
              subst ge8
              have ho2 := ho
              simp only [List.getElem?_toArray, List.getElem?_cons_zero, List.getElem?_cons_succ] at ho2
              have ho3 := Option.some.inj ho2; clear ho2; subst ho3
              obtain ⟨ba0, bb0⟩ := fb0.read; have bl0 := fb0.lt
              obtain ⟨ba1, bb1⟩ := fb1.read; have bl1 := fb1.lt
              obtain ⟨ba3, bb3⟩ := fb3.read; have bl3 := fb3.lt
              obtain ⟨ba4, bb4⟩ := fb4.read; have bl4 := fb4.lt
              obtain ⟨ba5, bb5⟩ := fb5.read; have bl5 := fb5.lt
              simp only [Act.put, List.setIfInBounds_toArray, List.set_cons_zero, List.set_cons_succ]
              simp only [cond_true, cond_false]
              refine inv_op ho (by kernel_rfl) (fun K hK => ?_)
              clear ho
              go_simp
              refine hK.out _ _ ?_
              unfold RPlusI4
              refine ⟨gg0, gg1, gg2, gg3, gg4, gg5, gg6, gg7, true, gg9, gg10, gg11, gg12, gg13, gg14, gg15, rfl, by simp only [Act.put, List.setIfInBounds_toArray, List.set_cons_zero, List.set_cons_succ, cond_true, cond_false], ?_, ?_, ?_, ?_, ?_, ?_, ?_, ?_⟩
              · exact fb0
              · exact fb1
              · exact fb2
              · exact fb3
              · exact fb4
              · exact fb5
              · exact fB
              · exact fL
            · have ge9 : gg9 = false := hi2
              have ge7 : gg7 = true := inv_dep ho hall 7 (by kernel_rfl)
              have ge8 : gg8 = true := inv_dep ho hall 8 (by kernel_rfl)
              clear hall hi1 hi2
              subst ge9 ge7 ge8
              have ho2 := ho
              simp only [List.getElem?_toArray, List.getElem?_cons_zero, List.getElem?_cons_succ] at ho2
              have ho3 := Option.some.inj ho2; clear ho2; subst ho3
              obtain ⟨ba0, bb0⟩ := fb0.read; have bl0 := fb0.lt
              obtain ⟨ba1, bb1⟩ := fb1.read; have bl1 := fb1.lt
              obtain ⟨ba3, bb3⟩ := fb3.read; have bl3 := fb3.lt
              obtain ⟨ba4, bb4⟩ := fb4.read; have bl4 := fb4.lt
              obtain ⟨ba5, bb5⟩ := fb5.read; have bl5 := fb5.lt
              simp only [Act.put, List.setIfInBounds_toArray, List.set_cons_zero, List.set_cons_succ]
              simp only [cond_true, cond_false]
              refine inv_op ho (by kernel_rfl) (fun K hK => ?_)
              clear ho
              go_simp
              go_at_call 118; (with_reducible refine (HU.out _).mono ?_); rintro e w1 ⟨rfl, hb⟩
              refine hK.out _ _ ?_
              unfold RPlusI4
              refine ⟨gg0, gg1, gg2, gg3, gg4, gg5, gg6, true, true, true, gg10, gg11, gg12, gg13, gg14, gg15, rfl, by simp only [Act.put, List.setIfInBounds_toArray, List.set_cons_zero, List.set_cons_succ, cond_true, cond_false], ?_, ?_, ?_, ?_, ?_, ?_, ?_, ?_⟩
              · exact Blk.later hb fb0
              · exact Blk.later hb fb1
              · exact Blk.later hb fb2
              · exact Blk.later hb fb3
              · exact Blk.later hb fb4
              · exact Blk.later hb fb5
              · exact belowThru fB hb
              · have := hb.size; omega
            · have ge10 : gg10 = false := hi2
              clear hall hi1 hi2
              subst ge10
              have ho2 := ho
              simp only [List.getElem?_toArray, List.getElem?_cons_zero, List.getElem?_cons_succ] at ho2
              have ho3 := Option.some.inj ho2; clear ho2; subst ho3
              obtain ⟨ba0, bb0⟩ := fb0.read; have bl0 := fb0.lt
              obtain ⟨ba1, bb1⟩ := fb1.read; have bl1 := fb1.lt
              obtain ⟨ba3, bb3⟩ := fb3.read; have bl3 := fb3.lt
              obtain ⟨ba4, bb4⟩ := fb4.read; have bl4 := fb4.lt
              obtain ⟨ba5, bb5⟩ := fb5.read; have bl5 := fb5.lt
              simp only [Act.put, List.setIfInBounds_toArray, List.set_cons_zero, List.set_cons_succ]
              simp only [cond_true, cond_false]
              refine inv_op ho (by kernel_rfl) (fun K hK => ?_)
              clear ho
              go_simp
              refine hK.out _ _ ?_
              unfold RPlusI4
              refine ⟨gg0, gg1, gg2, gg3, gg4, gg5, gg6, gg7, gg8, gg9, true, gg11, gg12, gg13, gg14, gg15, rfl, by simp only [Act.put, List.setIfInBounds_toArray, List.set_cons_zero, List.set_cons_succ, cond_true, cond_false], ?_, ?_, ?_, ?_, ?_, ?_, ?_, ?_⟩
              · exact fb0
              · exact fb1
              · exact fb2
              · exact fb3
              · exact fb4
              · exact fb5
              · exact fB
              · exact fL
            · have ge11 : gg11 = false := hi2
              have ge6 : gg6 = true := inv_dep ho hall 6 (by kernel_rfl)
              have ge9 : gg9 = true := inv_dep ho hall 9 (by kernel_rfl)
              have ge10 : gg10 = true := inv_dep ho hall 10 (by kernel_rfl)
              clear hall hi1 hi2
              subst ge11 ge6 ge9 ge10
              have ho2 := ho
              simp only [List.getElem?_toArray, List.getElem?_cons_zero, List.getElem?_cons_succ] at ho2
              have ho3 := Option.some.inj ho2; clear ho2; subst ho3
              obtain ⟨ba0, bb0⟩ := fb0.read; have bl0 := fb0.lt
              obtain ⟨ba1, bb1⟩ := fb1.read; have bl1 := fb1.lt
              obtain ⟨ba3, bb3⟩ := fb3.read; have bl3 := fb3.lt
              obtain ⟨ba4, bb4⟩ := fb4.read; have bl4 := fb4.lt
              obtain ⟨ba5, bb5⟩ := fb5.read; have bl5 := fb5.lt
              simp only [Act.put, List.setIfInBounds_toArray, List.set_cons_zero, List.set_cons_succ]
              simp only [cond_true, cond_false]
              refine inv_op ho (by kernel_rfl) (fun K hK => ?_)
              clear ho
              go_simp
              go_at_call 117; (with_reducible refine (HL.out _).mono ?_); rintro e w1 ⟨rfl, hb⟩
              refine hK.out _ _ ?_
              unfold RPlusI4
              refine ⟨gg0, gg1, gg2, gg3, gg4, gg5, true, gg7, gg8, true, true, true, gg12, gg13, gg14, gg15, rfl, by simp only [Act.put, List.setIfInBounds_toArray, List.set_cons_zero, List.set_cons_succ, cond_true, cond_false], ?_, ?_, ?_, ?_, ?_, ?_, ?_, ?_⟩
              · exact Blk.later hb fb0
              · exact Blk.later hb fb1
              · exact Blk.later hb fb2
              · exact Blk.later hb fb3
              · exact Blk.later hb fb4
              · exact Blk.later hb fb5
              · exact belowThru fB hb
              · have := hb.size; omega
            · have ge12 : gg12 = false := hi2
              have ge11 : gg11 = true := inv_dep ho hall 11 (by kernel_rfl)
              clear hall hi1 hi2
              subst ge12 ge11
              have ho2 := ho
              simp only [List.getElem?_toArray, List.getElem?_cons_zero, List.getElem?_cons_succ] at ho2
              have ho3 := Option.some.inj ho2; clear ho2; subst ho3
              obtain ⟨ba0, bb0⟩ := fb0.read; have bl0 := fb0.lt
              obtain ⟨ba1, bb1⟩ := fb1.read; have bl1 := fb1.lt
              obtain ⟨ba3, bb3⟩ := fb3.read; have bl3 := fb3.lt
              obtain ⟨ba4, bb4⟩ := fb4.read; have bl4 := fb4.lt
              obtain ⟨ba5, bb5⟩ := fb5.read; have bl5 := fb5.lt
              simp only [Act.put, List.setIfInBounds_toArray, List.set_cons_zero, List.set_cons_succ]
              simp only [cond_true, cond_false]
              refine inv_op ho (by kernel_rfl) (fun K hK => ?_)
              clear ho
              go_simp
              refine hK.out _ _ ?_
              unfold RPlusI4
              refine ⟨gg0, gg1, gg2, gg3, gg4, gg5, gg6, gg7, gg8, gg9, gg10, true, true, gg13, gg14, gg15, rfl, by simp only [Act.put, List.setIfInBounds_toArray, List.set_cons_zero, List.set_cons_succ, cond_true, cond_false], ?_, ?_, ?_, ?_, ?_, ?_, ?_, ?_⟩
              · exact fb0
              · exact fb1
              · exact fb2
              · exact fb3
              · exact fb4
              · exact fb5
              · exact fB
              · exact fL
            · have ge13 : gg13 = false := hi2
              have ge11 : gg11 = true := inv_dep ho hall 11 (by kernel_rfl)
              clear hall hi1 hi2
              subst ge13 ge11
              have ho2 := ho
              simp only [List.getElem?_toArray, List.getElem?_cons_zero, List.getElem?_cons_succ] at ho2
              have ho3 := Option.some.inj ho2; clear ho2; subst ho3
              obtain ⟨ba0, bb0⟩ := fb0.read; have bl0 := fb0.lt
              obtain ⟨ba1, bb1⟩ := fb1.read; have bl1 := fb1.lt
              obtain ⟨ba3, bb3⟩ := fb3.read; have bl3 := fb3.lt
              obtain ⟨ba4, bb4⟩ := fb4.read; have bl4 := fb4.lt
              obtain ⟨ba5, bb5⟩ := fb5.read; have bl5 := fb5.lt
              simp only [Act.put, List.setIfInBounds_toArray, List.set_cons_zero, List.set_cons_succ]
              simp only [cond_true, cond_false]
              refine inv_op ho (by kernel_rfl) (fun K hK => ?_)
              clear ho
              go_simp
              refine hK.out _ _ ?_
              unfold RPlusI4
              refine ⟨gg0, gg1, gg2, gg3, gg4, gg5, gg6, gg7, gg8, gg9, gg10, true, gg12, true, gg14, gg15, rfl, by simp only [Act.put, List.setIfInBounds_toArray, List.set_cons_zero, List.set_cons_succ, cond_true, cond_false], ?_, ?_, ?_, ?_, ?_, ?_, ?_, ?_⟩
              · exact fb0
              · exact fb1
              · exact fb2
              · exact fb3
              · exact fb4
              · exact fb5
              · exact fB
              · exact fL
            · have ge14 : gg14 = false := hi2
              have ge12 : gg12 = true := inv_dep ho hall 12 (by kernel_rfl)
              clear hall hi1 hi2
              subst ge14 ge12
              have ho2 := ho
              simp only [List.getElem?_toArray, List.getElem?_cons_zero, List.getElem?_cons_succ] at ho2
              have ho3 := Option.some.inj ho2; clear ho2; subst ho3
              simp only [cond_true, cond_false] at fb2
              obtain ⟨ba0, bb0⟩ := fb0.read; have bl0 := fb0.lt
              obtain ⟨ba1, bb1⟩ := fb1.read; have bl1 := fb1.lt
              obtain ⟨ba2, bb2⟩ := fb2.read; have bl2 := fb2.lt
              obtain ⟨ba3, bb3⟩ := fb3.read; have bl3 := fb3.lt
              obtain ⟨ba4, bb4⟩ := fb4.read; have bl4 := fb4.lt
              obtain ⟨ba5, bb5⟩ := fb5.read; have bl5 := fb5.lt
              simp only [Act.put, List.setIfInBounds_toArray, List.set_cons_zero, List.set_cons_succ]
              simp only [cond_true, cond_false]
              refine inv_op ho (by kernel_rfl) (fun K hK => ?_)
              clear ho
              go_simp
              refine hK.out _ _ ?_
              unfold RPlusI4
              refine ⟨gg0, gg1, gg2, gg3, gg4, gg5, gg6, gg7, gg8, gg9, gg10, gg11, true, gg13, true, gg15, rfl, by simp only [Act.put, List.setIfInBounds_toArray, List.set_cons_zero, List.set_cons_succ, cond_true, cond_false], ?_, ?_, ?_, ?_, ?_, ?_, ?_, ?_⟩
              · (repeat' (first | (with_reducible assumption) | ((with_reducible refine Blk.new ?_); first | rfl | (simp; done)) | (with_reducible refine Blk.later (by assumption) ?_) | (with_reducible refine Blk.alloc ?_) | (with_reducible refine Blk.drewN ?_) | (with_reducible refine Blk.drew ?_) | (with_reducible refine Blk.other ?_ (by first | omega | (simp; done) | (simp; omega)))))
              · (repeat' (first | (with_reducible assumption) | ((with_reducible refine Blk.new ?_); first | rfl | (simp; done)) | (with_reducible refine Blk.later (by assumption) ?_) | (with_reducible refine Blk.alloc ?_) | (with_reducible refine Blk.drewN ?_) | (with_reducible refine Blk.drew ?_) | (with_reducible refine Blk.other ?_ (by first | omega | (simp; done) | (simp; omega)))))
              · exact Blk.set (Blk.set (fb2))
              · (repeat' (first | (with_reducible assumption) | ((with_reducible refine Blk.new ?_); first | rfl | (simp; done)) | (with_reducible refine Blk.later (by assumption) ?_) | (with_reducible refine Blk.alloc ?_) | (with_reducible refine Blk.drewN ?_) | (with_reducible refine Blk.drew ?_) | (with_reducible refine Blk.other ?_ (by first | omega | (simp; done) | (simp; omega)))))
              · (repeat' (first | (with_reducible assumption) | ((with_reducible refine Blk.new ?_); first | rfl | (simp; done)) | (with_reducible refine Blk.later (by assumption) ?_) | (with_reducible refine Blk.alloc ?_) | (with_reducible refine Blk.drewN ?_) | (with_reducible refine Blk.drew ?_) | (with_reducible refine Blk.other ?_ (by first | omega | (simp; done) | (simp; omega)))))
              · (repeat' (first | (with_reducible assumption) | ((with_reducible refine Blk.new ?_); first | rfl | (simp; done)) | (with_reducible refine Blk.later (by assumption) ?_) | (with_reducible refine Blk.alloc ?_) | (with_reducible refine Blk.drewN ?_) | (with_reducible refine Blk.drew ?_) | (with_reducible refine Blk.other ?_ (by first | omega | (simp; done) | (simp; omega)))))
              · (repeat' (first | (with_reducible exact Below.refl _ _) | (with_reducible assumption) | (with_reducible refine belowThru ?_ (by assumption)) | (with_reducible refine belowAlloc ?_) | (with_reducible refine Below.setCell ?_ (by first | omega | (simp; done) | (simp; omega)) _) | (with_reducible refine Below.drew ?_) | (with_reducible refine below_drewN ?_ _)))
              · first | exact fL | (simp; omega)
            · have ge15 : gg15 = false := hi2
              have ge13 : gg13 = true := inv_dep ho hall 13 (by kernel_rfl)
              clear hall hi1 hi2
              subst ge15 ge13
              have ho2 := ho
              simp only [List.getElem?_toArray, List.getElem?_cons_zero, List.getElem?_cons_succ] at ho2
              have ho3 := Option.some.inj ho2; clear ho2; subst ho3
              obtain ⟨ba0, bb0⟩ := fb0.read; have bl0 := fb0.lt
              obtain ⟨ba1, bb1⟩ := fb1.read; have bl1 := fb1.lt
              obtain ⟨ba3, bb3⟩ := fb3.read; have bl3 := fb3.lt
              obtain ⟨ba4, bb4⟩ := fb4.read; have bl4 := fb4.lt
              obtain ⟨ba5, bb5⟩ := fb5.read; have bl5 := fb5.lt
              simp only [Act.put, List.setIfInBounds_toArray, List.set_cons_zero, List.set_cons_succ]
              simp only [cond_true, cond_false]
              refine inv_op ho (by kernel_rfl) (fun K hK => ?_)
              clear ho
              go_simp
              refine hK.out _ _ ?_
              unfold RPlusI4
              refine ⟨gg0, gg1, gg2, gg3, gg4, gg5, gg6, gg7, gg8, gg9, gg10, gg11, gg12, true, gg14, true, rfl, by simp only [Act.put, List.setIfInBounds_toArray, List.set_cons_zero, List.set_cons_succ, cond_true, cond_false], ?_, ?_, ?_, ?_, ?_, ?_, ?_, ?_⟩
              · exact fb0
              · exact fb1
              · exact fb2
              · exact fb3
              · exact fb4
              · exact fb5
              · exact fB
              · exact fL
            · exfalso; simp at hi1; omega
          case hfin =>
            intro a w9 hI
            obtain ⟨gg0, gg1, gg2, gg3, gg4, gg5, gg6, gg7, gg8, gg9, gg10, gg11, gg12, gg13, gg14, gg15, hL, rfl, fb0, fb1, fb2, fb3, fb4, fb5, fB, fL⟩ := hI
            have hL2 : #[true, true, true, true, true, true, true, true, true, true, true, true, true, true, true, true] = #[gg0, gg1, gg2, gg3, gg4, gg5, gg6, gg7, gg8, gg9, gg10, gg11, gg12, gg13, gg14, gg15] := hL
            cases hL2
            simp only [Act.put, List.setIfInBounds_toArray, List.set_cons_zero, List.set_cons_succ]
            simp only [cond_true]
            go_wp2_with fail
            simp only [cond_true] at fb2
            obtain ⟨ra, rb⟩ := fb2.read
            exact bodyPost_ret (v := .tuple #[.agg #[.int .i64 A, .int .i64 B], .bool ok]) (by simp only [results, Try.results91]; go_simp) rfl ⟨rfl, fB⟩
      · go_upto_region 3 with fail
        go_region_held3 (fun w' => (Blk w' w.heap.size #[.int .i64 a, .int .i64 b] 23 ∧ (∀ i : Nat, w'.cell? ⟨w.heap.size, i, none⟩ = (#[.int .i64 a, .int .i64 b] : Array Value)[i]?)) ∧ (Blk w' (w.heap.size + 1) #[.int .i64 c, .int .i64 d] 23 ∧ (∀ i : Nat, w'.cell? ⟨(w.heap.size + 1), i, none⟩ = (#[.int .i64 c, .int .i64 d] : Array Value)[i]?)) ∧ (Blk w' (w.heap.size + 1 + 1) #[.int .i64 0, .int .i64 0] 23 ∧ Blk w' pb #[.int .u64 X1, .int .u64 X0] 141 ∧ Blk w' qb #[.int .u64 Y1, .int .u64 Y0] 141 ∧ Blk w' zb #[.int .u64 Z1, .int .u64 Z0] 141) ∧ Below w.heap.size w w')
          (((first | (apply hold2; (focus assumption); intro p0 p1 pB; obtain ⟨⟨p2, p3, p4, p5⟩, pB⟩ := pB) | skip); refine ⟨Blk.full ?_, Blk.full ?_, ⟨?_, ?_, ?_, ?_⟩, ?_⟩; all_goals (first | ((repeat' (first | (with_reducible assumption) | ((with_reducible refine Blk.new ?_); first | rfl | (simp; done)) | (with_reducible refine Blk.later (by assumption) ?_) | (with_reducible refine Blk.alloc ?_) | (with_reducible refine Blk.drewN ?_) | (with_reducible refine Blk.drew ?_) | (with_reducible refine Blk.other ?_ (by first | omega | (simp; done) | (simp; omega))))); done) | ((repeat' (first | (with_reducible exact Below.refl _ _) | (with_reducible assumption) | (with_reducible refine belowThru ?_ (by assumption)) | (with_reducible refine belowAlloc ?_) | (with_reducible refine Below.setCell ?_ (by first | omega | (simp; done) | (simp; omega)) _) | (with_reducible refine Below.drew ?_) | (with_reducible refine below_drewN ?_ _))); done))))
          (first
          | (go_at_call 116; (with_reducible refine (HS1.out _).mono ?_); rintro e w1 ⟨rfl, rfl⟩)
          | (go_at_call 116; (with_reducible refine (HS2.out _).mono ?_); rintro e w1 ⟨rfl, rfl⟩))
        all_goals
          clear k0 k1 k2 k3 k4 k5 a0 a1 a2 a3 a4 a5 b0 b1 b2 b3 b4 b5 zz0 zz1 zz2 zz3 zz4 zz5 hB
          apply hold2; (focus assumption); intro k0 k1 pB; obtain ⟨⟨k2, k3, k4, k5⟩, hB⟩ := pB
          obtain ⟨a0, b0⟩ := k0.read; obtain ⟨a1, b1⟩ := k1.read; obtain ⟨a2, b2⟩ := k2.read; obtain ⟨a3, b3⟩ := k3.read; obtain ⟨a4, b4⟩ := k4.read; obtain ⟨a5, b5⟩ := k5.read
          have zz0 := k0.lt; have zz1 := k1.lt; have zz2 := k2.lt; have zz3 := k3.lt; have zz4 := k4.lt; have zz5 := k5.lt
          go_upto_region 6 with (go_at_call 119; (with_reducible refine (HE.out _).mono ?_); rintro e w1 ⟨rfl, hb⟩; (try (have zk := k0.lt; (first | ((with_reducible refine Blk.keepG hb k0 (fun h => ?_) ?_); (focus ((repeat' (first | (with_reducible assumption) | ((with_reducible refine Blk.new ?_); first | rfl | (simp; done)) | (with_reducible refine Blk.later (by assumption) ?_) | (with_reducible refine Blk.alloc ?_) | (with_reducible refine Blk.drewN ?_) | (with_reducible refine Blk.drew ?_) | (with_reducible refine Blk.other ?_ (by first | omega | (simp; done) | (simp; omega))))); done)); clear k0; intro k0) | (with_reducible replace k0 := Blk.later hb (Blk.set (Blk.set k0))) | (with_reducible replace k0 := Blk.later hb (Blk.set k0))); clear a0 b0; obtain ⟨a0, b0⟩ := k0.read; have zl := k0.lt)); (try (have zk := k1.lt; (first | ((with_reducible refine Blk.keepG hb k1 (fun h => ?_) ?_); (focus ((repeat' (first | (with_reducible assumption) | ((with_reducible refine Blk.new ?_); first | rfl | (simp; done)) | (with_reducible refine Blk.later (by assumption) ?_) | (with_reducible refine Blk.alloc ?_) | (with_reducible refine Blk.drewN ?_) | (with_reducible refine Blk.drew ?_) | (with_reducible refine Blk.other ?_ (by first | omega | (simp; done) | (simp; omega))))); done)); clear k1; intro k1) | (with_reducible replace k1 := Blk.later hb (Blk.set (Blk.set k1))) | (with_reducible replace k1 := Blk.later hb (Blk.set k1))); clear a1 b1; obtain ⟨a1, b1⟩ := k1.read; have zl := k1.lt)); (try (have zk := k2.lt; (first | ((with_reducible refine Blk.keepG hb k2 (fun h => ?_) ?_); (focus ((repeat' (first | (with_reducible assumption) | ((with_reducible refine Blk.new ?_); first | rfl | (simp; done)) | (with_reducible refine Blk.later (by assumption) ?_) | (with_reducible refine Blk.alloc ?_) | (with_reducible refine Blk.drewN ?_) | (with_reducible refine Blk.drew ?_) | (with_reducible refine Blk.other ?_ (by first | omega | (simp; done) | (simp; omega))))); done)); clear k2; intro k2) | (with_reducible replace k2 := Blk.later hb (Blk.set (Blk.set k2))) | (with_reducible replace k2 := Blk.later hb (Blk.set k2))); clear a2 b2; obtain ⟨a2, b2⟩ := k2.read; have zl := k2.lt)); (try (have zk := k3.lt; (first | ((with_reducible refine Blk.keepG hb k3 (fun h => ?_) ?_); (focus ((repeat' (first | (with_reducible assumption) | ((with_reducible refine Blk.new ?_); first | rfl | (simp; done)) | (with_reducible refine Blk.later (by assumption) ?_) | (with_reducible refine Blk.alloc ?_) | (with_reducible refine Blk.drewN ?_) | (with_reducible refine Blk.drew ?_) | (with_reducible refine Blk.other ?_ (by first | omega | (simp; done) | (simp; omega))))); done)); clear k3; intro k3) | (with_reducible replace k3 := Blk.later hb (Blk.set (Blk.set k3))) | (with_reducible replace k3 := Blk.later hb (Blk.set k3))); clear a3 b3; obtain ⟨a3, b3⟩ := k3.read; have zl := k3.lt)); (try (have zk := k4.lt; (first | ((with_reducible refine Blk.keepG hb k4 (fun h => ?_) ?_); (focus ((repeat' (first | (with_reducible assumption) | ((with_reducible refine Blk.new ?_); first | rfl | (simp; done)) | (with_reducible refine Blk.later (by assumption) ?_) | (with_reducible refine Blk.alloc ?_) | (with_reducible refine Blk.drewN ?_) | (with_reducible refine Blk.drew ?_) | (with_reducible refine Blk.other ?_ (by first | omega | (simp; done) | (simp; omega))))); done)); clear k4; intro k4) | (with_reducible replace k4 := Blk.later hb (Blk.set (Blk.set k4))) | (with_reducible replace k4 := Blk.later hb (Blk.set k4))); clear a4 b4; obtain ⟨a4, b4⟩ := k4.read; have zl := k4.lt)); (try (have zk := k5.lt; (first | ((with_reducible refine Blk.keepG hb k5 (fun h => ?_) ?_); (focus ((repeat' (first | (with_reducible assumption) | ((with_reducible refine Blk.new ?_); first | rfl | (simp; done)) | (with_reducible refine Blk.later (by assumption) ?_) | (with_reducible refine Blk.alloc ?_) | (with_reducible refine Blk.drewN ?_) | (with_reducible refine Blk.drew ?_) | (with_reducible refine Blk.other ?_ (by first | omega | (simp; done) | (simp; omega))))); done)); clear k5; intro k5) | (with_reducible replace k5 := Blk.later hb (Blk.set (Blk.set k5))) | (with_reducible replace k5 := Blk.later hb (Blk.set k5))); clear a5 b5; obtain ⟨a5, b5⟩ := k5.read; have zl := k5.lt)))
          refine wp_region_inv (RPlusI6 a b c d s t y X1 X0 Y1 Y0 Z1 Z0 U1 U0 A B ok pb qb zb w ?i55 ?i56 ?i57 ?i58 ?i59 ?i60 ?i61 ?i62 ?i63 ?i64 ?i5) (by kernel_rfl) (by kernel_rfl) ?hsz ?hst ?hstep ?hfin
          case hst =>
            unfold RPlusI6
            refine ⟨false, false, false, false, false, false, false, false, false, false, false, false, rfl, ?_, ?_, ?_, ?_, ?_, ?_, ?_, ?_, ?_⟩
            · first | (simp only [Act.put, List.setIfInBounds_toArray, List.set_cons_zero, List.set_cons_succ, cond_false]; done) | (simp only [Act.put, List.setIfInBounds_toArray, List.set_cons_zero, List.set_cons_succ, cond_false]; rfl)
            all_goals (first | (intro h; cases h; done) | ((repeat' (first | (with_reducible assumption) | ((with_reducible refine Blk.new ?_); first | rfl | (simp; done)) | (with_reducible refine Blk.later (by assumption) ?_) | (with_reducible refine Blk.alloc ?_) | (with_reducible refine Blk.drewN ?_) | (with_reducible refine Blk.drew ?_) | (with_reducible refine Blk.other ?_ (by first | omega | (simp; done) | (simp; omega))))); done) | ((repeat' (first | (with_reducible exact Below.refl _ _) | (with_reducible assumption) | (with_reducible refine belowThru ?_ (by assumption)) | (with_reducible refine belowAlloc ?_) | (with_reducible refine Below.setCell ?_ (by first | omega | (simp; done) | (simp; omega)) _) | (with_reducible refine Below.drew ?_) | (with_reducible refine below_drewN ?_ _))); done) | (simp only [cond_false]; (repeat' (first | (with_reducible assumption) | ((with_reducible refine Blk.new ?_); first | rfl | (simp; done)) | (with_reducible refine Blk.later (by assumption) ?_) | (with_reducible refine Blk.alloc ?_) | (with_reducible refine Blk.drewN ?_) | (with_reducible refine Blk.drew ?_) | (with_reducible refine Blk.other ?_ (by first | omega | (simp; done) | (simp; omega))))); done) | (simp only [World.size_drew]; omega) | (simp only [World.size_drew] at *; omega) | (simp; done) | (simp; omega))
          case hsz =>
            intro L a w9 h
            obtain ⟨gg0, gg1, gg2, gg3, gg4, gg5, gg6, gg7, gg8, gg9, gg10, gg11, rfl, -⟩ := h; rfl
          case hstep =>
            intro L a w9 hI i hi
            obtain ⟨gg0, gg1, gg2, gg3, gg4, gg5, gg6, gg7, gg8, gg9, gg10, gg11, rfl, rfl, fb0, fb1, fb2, fb3, fb4, fb5, fB, fL⟩ := hI
            obtain ⟨hi1, hi2, o, ho, hall⟩ := inv_mem hi
            clear hi
            rcases i with _ | _ | _ | _ | _ | _ | _ | _ | _ | _ | _ | _ | i
            · have ge0 : gg0 = false := hi2
              clear hall hi1 hi2
              subst ge0
              have ho2 := ho
              simp only [List.getElem?_toArray, List.getElem?_cons_zero, List.getElem?_cons_succ] at ho2
              have ho3 := Option.some.inj ho2; clear ho2; subst ho3
              obtain ⟨ba0, bb0⟩ := fb0.read; have bl0 := fb0.lt
              obtain ⟨ba1, bb1⟩ := fb1.read; have bl1 := fb1.lt
              obtain ⟨ba3, bb3⟩ := fb3.read; have bl3 := fb3.lt
              obtain ⟨ba4, bb4⟩ := fb4.read; have bl4 := fb4.lt
              obtain ⟨ba5, bb5⟩ := fb5.read; have bl5 := fb5.lt
              simp only [Act.put, List.setIfInBounds_toArray, List.set_cons_zero, List.set_cons_succ]
              simp only [cond_true, cond_false]
              refine inv_op ho (by kernel_rfl) (fun K hK => ?_)
              clear ho
              go_simp
              refine hK.out _ _ ?_
              unfold RPlusI6
              refine ⟨true, gg1, gg2, gg3, gg4, gg5, gg6, gg7, gg8, gg9, gg10, gg11, rfl, by simp only [Act.put, List.setIfInBounds_toArray, List.set_cons_zero, List.set_cons_succ, cond_true, cond_false], ?_, ?_, ?_, ?_, ?_, ?_, ?_, ?_⟩
              · exact fb0
              · exact fb1
              · exact fb2
              · exact fb3
              · exact fb4
              · exact fb5
              · exact fB
              · exact fL
            · have ge1 : gg1 = false := hi2
              have ge0 : gg0 = true := inv_dep ho hall 0 (by kernel_rfl)
              clear hall hi1 hi2
              subst ge1 ge0
              have ho2 := ho
              simp only [List.getElem?_toArray, List.getElem?_cons_zero, List.getElem?_cons_succ] at ho2
              have ho3 := Option.some.inj ho2; clear ho2; subst ho3
              obtain ⟨ba0, bb0⟩ := fb0.read; have bl0 := fb0.lt
              obtain ⟨ba1, bb1⟩ := fb1.read; have bl1 := fb1.lt
              obtain ⟨ba3, bb3⟩ := fb3.read; have bl3 := fb3.lt
              obtain ⟨ba4, bb4⟩ := fb4.read; have bl4 := fb4.lt
              obtain ⟨ba5, bb5⟩ := fb5.read; have bl5 := fb5.lt
              simp only [Act.put, List.setIfInBounds_toArray, List.set_cons_zero, List.set_cons_succ]
              simp only [cond_true, cond_false]
              refine inv_op ho (by kernel_rfl) (fun K hK => ?_)
              clear ho
              go_simp
              refine hK.out _ _ ?_
              unfold RPlusI6
              refine ⟨true, true, gg2, gg3, gg4, gg5, gg6, gg7, gg8, gg9, gg10, gg11, rfl, by simp only [Act.put, List.setIfInBounds_toArray, List.set_cons_zero, List.set_cons_succ, cond_true, cond_false], ?_, ?_, ?_, ?_, ?_, ?_, ?_, ?_⟩
              · exact fb0
              · exact fb1
              · exact fb2
              · exact fb3
              · exact fb4
              · exact fb5
              · exact fB
              · exact fL
            · have ge2 : gg2 = false := hi2
              have ge1 : gg1 = true := inv_dep ho hall 1 (by kernel_rfl)
              clear hall hi1 hi2
              subst ge2 ge1
              have ho2 := ho
              simp only [List.getElem?_toArray, List.getElem?_cons_zero, List.getElem?_cons_succ] at ho2
              have ho3 := Option.some.inj ho2; clear ho2; subst ho3
              obtain ⟨ba0, bb0⟩ := fb0.read; have bl0 := fb0.lt
              obtain ⟨ba1, bb1⟩ := fb1.read; have bl1 := fb1.lt
              obtain ⟨ba3, bb3⟩ := fb3.read; have bl3 := fb3.lt
              obtain ⟨ba4, bb4⟩ := fb4.read; have bl4 := fb4.lt
              obtain ⟨ba5, bb5⟩ := fb5.read; have bl5 := fb5.lt
              simp only [Act.put, List.setIfInBounds_toArray, List.set_cons_zero, List.set_cons_succ]
              simp only [cond_true, cond_false]
              refine inv_op ho (by kernel_rfl) (fun K hK => ?_)
              clear ho
              go_simp
              go_at_call 116; (with_reducible refine (HS2.out _).mono ?_); rintro e w1 ⟨rfl, rfl⟩
              refine hK.out _ _ ?_
              unfold RPlusI6
              refine ⟨gg0, true, true, gg3, gg4, gg5, gg6, gg7, gg8, gg9, gg10, gg11, rfl, by simp only [Act.put, List.setIfInBounds_toArray, List.set_cons_zero, List.set_cons_succ, cond_true, cond_false], ?_, ?_, ?_, ?_, ?_, ?_, ?_, ?_⟩
              · exact fb0
              · exact fb1
              · exact fb2
              · exact fb3
              · exact fb4
              · exact fb5
              · exact fB
              · exact fL
            · have ge3 : gg3 = false := hi2
              clear hall hi1 hi2
              subst ge3
              have ho2 := ho
              simp only [List.getElem?_toArray, List.getElem?_cons_zero, List.getElem?_cons_succ] at ho2
              have ho3 := Option.some.inj ho2; clear ho2; subst ho3
              obtain ⟨ba0, bb0⟩ := fb0.read; have bl0 := fb0.lt
              obtain ⟨ba1, bb1⟩ := fb1.read; have bl1 := fb1.lt
              obtain ⟨ba3, bb3⟩ := fb3.read; have bl3 := fb3.lt
              obtain ⟨ba4, bb4⟩ := fb4.read; have bl4 := fb4.lt
              obtain ⟨ba5, bb5⟩ := fb5.read; have bl5 := fb5.lt
              simp only [Act.put, List.setIfInBounds_toArray, List.set_cons_zero, List.set_cons_succ]
              simp only [cond_true, cond_false]
              refine inv_op ho (by kernel_rfl) (fun K hK => ?_)
              clear ho
              go_simp
              refine hK.out _ _ ?_
              unfold RPlusI6
              refine ⟨gg0, gg1, gg2, true, gg4, gg5, gg6, gg7, gg8, gg9, gg10, gg11, rfl, by simp only [Act.put, List.setIfInBounds_toArray, List.set_cons_zero, List.set_cons_succ, cond_true, cond_false], ?_, ?_, ?_, ?_, ?_, ?_, ?_, ?_⟩
              · exact fb0
              · exact fb1
              · exact fb2
              · exact fb3
              · exact fb4
              · exact fb5
              · exact fB
              · exact fL
            · have ge4 : gg4 = false := hi2
              clear hall hi1 hi2
              subst ge4
              have ho2 := ho
              simp only [List.getElem?_toArray, List.getElem?_cons_zero, List.getElem?_cons_succ] at ho2
              have ho3 := Option.some.inj ho2; clear ho2; subst ho3
              obtain ⟨ba0, bb0⟩ := fb0.read; have bl0 := fb0.lt
              obtain ⟨ba1, bb1⟩ := fb1.read; have bl1 := fb1.lt
              obtain ⟨ba3, bb3⟩ := fb3.read; have bl3 := fb3.lt
              obtain ⟨ba4, bb4⟩ := fb4.read; have bl4 := fb4.lt
              obtain ⟨ba5, bb5⟩ := fb5.read; have bl5 := fb5.lt
              simp only [Act.put, List.setIfInBounds_toArray, List.set_cons_zero, List.set_cons_succ]
              simp only [cond_true, cond_false]
              refine inv_op ho (by kernel_rfl) (fun K hK => ?_)
              clear ho
              go_simp
              refine hK.out _ _ ?_
              unfold RPlusI6
              refine ⟨gg0, gg1, gg2, gg3, true, gg5, gg6, gg7, gg8, gg9, gg10, gg11, rfl, by simp only [Act.put, List.setIfInBounds_toArray, List.set_cons_zero, List.set_cons_succ, cond_true, cond_false], ?_, ?_, ?_, ?_, ?_, ?_, ?_, ?_⟩
              · exact fb0
              · exact fb1
              · exact fb2
              · exact fb3
              · exact fb4
              · exact fb5
              · exact fB
              · exact fL
            · have ge5 : gg5 = false := hi2
              have ge3 : gg3 = true := inv_dep ho hall 3 (by kernel_rfl)
              have ge4 : gg4 = true := inv_dep ho hall 4 (by kernel_rfl)
              clear hall hi1 hi2
              subst ge5 ge3 ge4
              have ho2 := ho
              simp only [List.getElem?_toArray, List.getElem?_cons_zero, List.getElem?_cons_succ] at ho2
              have ho3 := Option.some.inj ho2; clear ho2; subst ho3
              obtain ⟨ba0, bb0⟩ := fb0.read; have bl0 := fb0.lt
              obtain ⟨ba1, bb1⟩ := fb1.read; have bl1 := fb1.lt
              obtain ⟨ba3, bb3⟩ := fb3.read; have bl3 := fb3.lt
              obtain ⟨ba4, bb4⟩ := fb4.read; have bl4 := fb4.lt
              obtain ⟨ba5, bb5⟩ := fb5.read; have bl5 := fb5.lt
              simp only [Act.put, List.setIfInBounds_toArray, List.set_cons_zero, List.set_cons_succ]
              simp only [cond_true, cond_false]
              refine inv_op ho (by kernel_rfl) (fun K hK => ?_)
              clear ho
              go_simp
              go_at_call 120; (with_reducible refine (HU.out _).mono ?_); rintro e w1 ⟨rfl, hb⟩
              refine hK.out _ _ ?_
              unfold RPlusI6
              refine ⟨gg0, gg1, gg2, true, true, true, gg6, gg7, gg8, gg9, gg10, gg11, rfl, by simp only [Act.put, List.setIfInBounds_toArray, List.set_cons_zero, List.set_cons_succ, cond_true, cond_false], ?_, ?_, ?_, ?_, ?_, ?_, ?_, ?_⟩
              · exact Blk.later hb fb0
              · exact Blk.later hb fb1
              · exact Blk.later hb fb2
              · exact Blk.later hb fb3
              · exact Blk.later hb fb4
              · exact Blk.later hb fb5
              · exact belowThru fB hb
              · have := hb.size; omega
            · have ge6 : gg6 = false := hi2
              clear hall hi1 hi2
              subst ge6
              have ho2 := ho
              simp only [List.getElem?_toArray, List.getElem?_cons_zero, List.getElem?_cons_succ] at ho2
              have ho3 := Option.some.inj ho2; clear ho2; subst ho3
              obtain ⟨ba0, bb0⟩ := fb0.read; have bl0 := fb0.lt
              obtain ⟨ba1, bb1⟩ := fb1.read; have bl1 := fb1.lt
              obtain ⟨ba3, bb3⟩ := fb3.read; have bl3 := fb3.lt
              obtain ⟨ba4, bb4⟩ := fb4.read; have bl4 := fb4.lt
              obtain ⟨ba5, bb5⟩ := fb5.read; have bl5 := fb5.lt
              simp only [Act.put, List.setIfInBounds_toArray, List.set_cons_zero, List.set_cons_succ]
              simp only [cond_true, cond_false]
              refine inv_op ho (by kernel_rfl) (fun K hK => ?_)
              clear ho
              go_simp
              refine hK.out _ _ ?_
              unfold RPlusI6
              refine ⟨gg0, gg1, gg2, gg3, gg4, gg5, true, gg7, gg8, gg9, gg10, gg11, rfl, by simp only [Act.put, List.setIfInBounds_toArray, List.set_cons_zero, List.set_cons_succ, cond_true, cond_false], ?_, ?_, ?_, ?_, ?_, ?_, ?_, ?_⟩
              · exact fb0
              · exact fb1
              · exact fb2
              · exact fb3
              · exact fb4
              · exact fb5
              · exact fB
              · exact fL
            · have ge7 : gg7 = false := hi2
              have ge2 : gg2 = true := inv_dep ho hall 2 (by kernel_rfl)
              have ge5 : gg5 = true := inv_dep ho hall 5 (by kernel_rfl)
              have ge6 : gg6 = true := inv_dep ho hall 6 (by kernel_rfl)
              clear hall hi1 hi2
              subst ge7 ge2 ge5 ge6
              have ho2 := ho
              simp only [List.getElem?_toArray, List.getElem?_cons_zero, List.getElem?_cons_succ] at ho2
              have ho3 := Option.some.inj ho2; clear ho2; subst ho3
              obtain ⟨ba0, bb0⟩ := fb0.read; have bl0 := fb0.lt
              obtain ⟨ba1, bb1⟩ := fb1.read; have bl1 := fb1.lt
              obtain ⟨ba3, bb3⟩ := fb3.read; have bl3 := fb3.lt
              obtain ⟨ba4, bb4⟩ := fb4.read; have bl4 := fb4.lt
              obtain ⟨ba5, bb5⟩ := fb5.read; have bl5 := fb5.lt
              simp only [Act.put, List.setIfInBounds_toArray, List.set_cons_zero, List.set_cons_succ]
              simp only [cond_true, cond_false]
              refine inv_op ho (by kernel_rfl) (fun K hK => ?_)
              clear ho
              go_simp
              go_at_call 117; (with_reducible refine (HL.out _).mono ?_); rintro e w1 ⟨rfl, hb⟩
              refine hK.out _ _ ?_
              unfold RPlusI6
              refine ⟨gg0, gg1, true, gg3, gg4, true, true, true, gg8, gg9, gg10, gg11, rfl, by simp only [Act.put, List.setIfInBounds_toArray, List.set_cons_zero, List.set_cons_succ, cond_true, cond_false], ?_, ?_, ?_, ?_, ?_, ?_, ?_, ?_⟩
              · exact Blk.later hb fb0
              · exact Blk.later hb fb1
              · exact Blk.later hb fb2
              · exact Blk.later hb fb3
              · exact Blk.later hb fb4
              · exact Blk.later hb fb5
              · exact belowThru fB hb
              · have := hb.size; omega
            · have ge8 : gg8 = false := hi2
              have ge7 : gg7 = true := inv_dep ho hall 7 (by kernel_rfl)
              clear hall hi1 hi2
              subst ge8 ge7
              have ho2 := ho
              simp only [List.getElem?_toArray, List.getElem?_cons_zero, List.getElem?_cons_succ] at ho2
              have ho3 := Option.some.inj ho2; clear ho2; subst ho3
              obtain ⟨ba0, bb0⟩ := fb0.read; have bl0 := fb0.lt
              obtain ⟨ba1, bb1⟩ := fb1.read; have bl1 := fb1.lt
              obtain ⟨ba3, bb3⟩ := fb3.read; have bl3 := fb3.lt
              obtain ⟨ba4, bb4⟩ := fb4.read; have bl4 := fb4.lt
              obtain ⟨ba5, bb5⟩ := fb5.read; have bl5 := fb5.lt
              simp only [Act.put, List.setIfInBounds_toArray, List.set_cons_zero, List.set_cons_succ]
              simp only [cond_true, cond_false]
              refine inv_op ho (by kernel_rfl) (fun K hK => ?_)
              clear ho
              go_simp
              refine hK.out _ _ ?_
              unfold RPlusI6
              refine ⟨gg0, gg1, gg2, gg3, gg4, gg5, gg6, true, true, gg9, gg10, gg11, rfl, by simp only [Act.put, List.setIfInBounds_toArray, List.set_cons_zero, List.set_cons_succ, cond_true, cond_false], ?_, ?_, ?_, ?_, ?_, ?_, ?_, ?_⟩
              · exact fb0
              · exact fb1
              · exact fb2
              · exact fb3
              · exact fb4
              · exact fb5
              · exact fB
              · exact fL
            · have ge9 : gg9 = false := hi2
              have ge7 : gg7 = true := inv_dep ho hall 7 (by kernel_rfl)
              clear hall hi1 hi2
              subst ge9 ge7
              have ho2 := ho
              simp only [List.getElem?_toArray, List.getElem?_cons_zero, List.getElem?_cons_succ] at ho2
              have ho3 := Option.some.inj ho2; clear ho2; subst ho3
              obtain ⟨ba0, bb0⟩ := fb0.read; have bl0 := fb0.lt
              obtain ⟨ba1, bb1⟩ := fb1.read; have bl1 := fb1.lt
              obtain ⟨ba3, bb3⟩ := fb3.read; have bl3 := fb3.lt
              obtain ⟨ba4, bb4⟩ := fb4.read; have bl4 := fb4.lt
              obtain ⟨ba5, bb5⟩ := fb5.read; have bl5 := fb5.lt
              simp only [Act.put, List.setIfInBounds_toArray, List.set_cons_zero, List.set_cons_succ]
              simp only [cond_true, cond_false]
              refine inv_op ho (by kernel_rfl) (fun K hK => ?_)
              clear ho
              go_simp
              refine hK.out _ _ ?_
              unfold RPlusI6
              refine ⟨gg0, gg1, gg2, gg3, gg4, gg5, gg6, true, gg8, true, gg10, gg11, rfl, by simp only [Act.put, List.setIfInBounds_toArray, List.set_cons_zero, List.set_cons_succ, cond_true, cond_false], ?_, ?_, ?_, ?_, ?_, ?_, ?_, ?_⟩
              · exact fb0
              · exact fb1
              · exact fb2
              · exact fb3
              · exact fb4
              · exact fb5
              · exact fB
              · exact fL
            · have ge10 : gg10 = false := hi2
              have ge8 : gg8 = true := inv_dep ho hall 8 (by kernel_rfl)
              clear hall hi1 hi2
              subst ge10 ge8
              have ho2 := ho
              simp only [List.getElem?_toArray, List.getElem?_cons_zero, List.getElem?_cons_succ] at ho2
              have ho3 := Option.some.inj ho2; clear ho2; subst ho3
              simp only [cond_true, cond_false] at fb2
              obtain ⟨ba0, bb0⟩ := fb0.read; have bl0 := fb0.lt
              obtain ⟨ba1, bb1⟩ := fb1.read; have bl1 := fb1.lt
              obtain ⟨ba2, bb2⟩ := fb2.read; have bl2 := fb2.lt
              obtain ⟨ba3, bb3⟩ := fb3.read; have bl3 := fb3.lt
              obtain ⟨ba4, bb4⟩ := fb4.read; have bl4 := fb4.lt
              obtain ⟨ba5, bb5⟩ := fb5.read; have bl5 := fb5.lt
              simp only [Act.put, List.setIfInBounds_toArray, List.set_cons_zero, List.set_cons_succ]
              simp only [cond_true, cond_false]
              refine inv_op ho (by kernel_rfl) (fun K hK => ?_)
              clear ho
              go_simp
              refine hK.out _ _ ?_
              unfold RPlusI6
              refine ⟨gg0, gg1, gg2, gg3, gg4, gg5, gg6, gg7, true, gg9, true, gg11, rfl, by simp only [Act.put, List.setIfInBounds_toArray, List.set_cons_zero, List.set_cons_succ, cond_true, cond_false], ?_, ?_, ?_, ?_, ?_, ?_, ?_, ?_⟩
              · (repeat' (first | (with_reducible assumption) | ((with_reducible refine Blk.new ?_); first | rfl | (simp; done)) | (with_reducible refine Blk.later (by assumption) ?_) | (with_reducible refine Blk.alloc ?_) | (with_reducible refine Blk.drewN ?_) | (with_reducible refine Blk.drew ?_) | (with_reducible refine Blk.other ?_ (by first | omega | (simp; done) | (simp; omega)))))
              · (repeat' (first | (with_reducible assumption) | ((with_reducible refine Blk.new ?_); first | rfl | (simp; done)) | (with_reducible refine Blk.later (by assumption) ?_) | (with_reducible refine Blk.alloc ?_) | (with_reducible refine Blk.drewN ?_) | (with_reducible refine Blk.drew ?_) | (with_reducible refine Blk.other ?_ (by first | omega | (simp; done) | (simp; omega)))))
              · exact Blk.set (Blk.set (fb2))
              · (repeat' (first | (with_reducible assumption) | ((with_reducible refine Blk.new ?_); first | rfl | (simp; done)) | (with_reducible refine Blk.later (by assumption) ?_) | (with_reducible refine Blk.alloc ?_) | (with_reducible refine Blk.drewN ?_) | (with_reducible refine Blk.drew ?_) | (with_reducible refine Blk.other ?_ (by first | omega | (simp; done) | (simp; omega)))))
              · (repeat' (first | (with_reducible assumption) | ((with_reducible refine Blk.new ?_); first | rfl | (simp; done)) | (with_reducible refine Blk.later (by assumption) ?_) | (with_reducible refine Blk.alloc ?_) | (with_reducible refine Blk.drewN ?_) | (with_reducible refine Blk.drew ?_) | (with_reducible refine Blk.other ?_ (by first | omega | (simp; done) | (simp; omega)))))
              · (repeat' (first | (with_reducible assumption) | ((with_reducible refine Blk.new ?_); first | rfl | (simp; done)) | (with_reducible refine Blk.later (by assumption) ?_) | (with_reducible refine Blk.alloc ?_) | (with_reducible refine Blk.drewN ?_) | (with_reducible refine Blk.drew ?_) | (with_reducible refine Blk.other ?_ (by first | omega | (simp; done) | (simp; omega)))))
              · (repeat' (first | (with_reducible exact Below.refl _ _) | (with_reducible assumption) | (with_reducible refine belowThru ?_ (by assumption)) | (with_reducible refine belowAlloc ?_) | (with_reducible refine Below.setCell ?_ (by first | omega | (simp; done) | (simp; omega)) _) | (with_reducible refine Below.drew ?_) | (with_reducible refine below_drewN ?_ _)))
              · first | exact fL | (simp; omega)
            · have ge11 : gg11 = false := hi2
              have ge9 : gg9 = true := inv_dep ho hall 9 (by kernel_rfl)
              clear hall hi1 hi2
              subst ge11 ge9
              have ho2 := ho
              simp only [List.getElem?_toArray, List.getElem?_cons_zero, List.getElem?_cons_succ] at ho2
              have ho3 := Option.some.inj ho2; clear ho2; subst ho3
              obtain ⟨ba0, bb0⟩ := fb0.read; have bl0 := fb0.lt
              obtain ⟨ba1, bb1⟩ := fb1.read; have bl1 := fb1.lt
              obtain ⟨ba3, bb3⟩ := fb3.read; have bl3 := fb3.lt
              obtain ⟨ba4, bb4⟩ := fb4.read; have bl4 := fb4.lt
              obtain ⟨ba5, bb5⟩ := fb5.read; have bl5 := fb5.lt
              simp only [Act.put, List.setIfInBounds_toArray, List.set_cons_zero, List.set_cons_succ]
              simp only [cond_true, cond_false]
              refine inv_op ho (by kernel_rfl) (fun K hK => ?_)
              clear ho
              go_simp
              refine hK.out _ _ ?_
              unfold RPlusI6
              refine ⟨gg0, gg1, gg2, gg3, gg4, gg5, gg6, gg7, gg8, true, gg10, true, rfl, by simp only [Act.put, List.setIfInBounds_toArray, List.set_cons_zero, List.set_cons_succ, cond_true, cond_false], ?_, ?_, ?_, ?_, ?_, ?_, ?_, ?_⟩
              · exact fb0
              · exact fb1
              · exact fb2
              · exact fb3
              · exact fb4
              · exact fb5
              · exact fB
              · exact fL
            · exfalso; simp at hi1; omega
          case hfin =>
            intro a w9 hI
            obtain ⟨gg0, gg1, gg2, gg3, gg4, gg5, gg6, gg7, gg8, gg9, gg10, gg11, hL, rfl, fb0, fb1, fb2, fb3, fb4, fb5, fB, fL⟩ := hI
            have hL2 : #[true, true, true, true, true, true, true, true, true, true, true, true] = #[gg0, gg1, gg2, gg3, gg4, gg5, gg6, gg7, gg8, gg9, gg10, gg11] := hL
            cases hL2
            simp only [Act.put, List.setIfInBounds_toArray, List.set_cons_zero, List.set_cons_succ]
            simp only [cond_true]
            go_wp2_with fail
            simp only [cond_true] at fb2
            obtain ⟨ra, rb⟩ := fb2.read
            exact bodyPost_ret (v := .tuple #[.agg #[.int .i64 A, .int .i64 B], .bool ok]) (by simp only [results, Try.results91]; go_simp) rfl ⟨rfl, fB⟩
      · go_upto_region 3 with fail
        go_region_held3 (fun w' => (Blk w' w.heap.size #[.int .i64 a, .int .i64 b] 23 ∧ (∀ i : Nat, w'.cell? ⟨w.heap.size, i, none⟩ = (#[.int .i64 a, .int .i64 b] : Array Value)[i]?)) ∧ (Blk w' (w.heap.size + 1) #[.int .i64 c, .int .i64 d] 23 ∧ (∀ i : Nat, w'.cell? ⟨(w.heap.size + 1), i, none⟩ = (#[.int .i64 c, .int .i64 d] : Array Value)[i]?)) ∧ (Blk w' (w.heap.size + 1 + 1) #[.int .i64 0, .int .i64 0] 23 ∧ Blk w' pb #[.int .u64 X1, .int .u64 X0] 141 ∧ Blk w' qb #[.int .u64 Y1, .int .u64 Y0] 141 ∧ Blk w' zb #[.int .u64 Z1, .int .u64 Z0] 141) ∧ Below w.heap.size w w')
          (((first | (apply hold2; (focus assumption); intro p0 p1 pB; obtain ⟨⟨p2, p3, p4, p5⟩, pB⟩ := pB) | skip); refine ⟨Blk.full ?_, Blk.full ?_, ⟨?_, ?_, ?_, ?_⟩, ?_⟩; all_goals (first | ((repeat' (first | (with_reducible assumption) | ((with_reducible refine Blk.new ?_); first | rfl | (simp; done)) | (with_reducible refine Blk.later (by assumption) ?_) | (with_reducible refine Blk.alloc ?_) | (with_reducible refine Blk.drewN ?_) | (with_reducible refine Blk.drew ?_) | (with_reducible refine Blk.other ?_ (by first | omega | (simp; done) | (simp; omega))))); done) | ((repeat' (first | (with_reducible exact Below.refl _ _) | (with_reducible assumption) | (with_reducible refine belowThru ?_ (by assumption)) | (with_reducible refine belowAlloc ?_) | (with_reducible refine Below.setCell ?_ (by first | omega | (simp; done) | (simp; omega)) _) | (with_reducible refine Below.drew ?_) | (with_reducible refine below_drewN ?_ _))); done))))
          (first
          | (go_at_call 116; (with_reducible refine (HS1.out _).mono ?_); rintro e w1 ⟨rfl, rfl⟩)
          | (go_at_call 116; (with_reducible refine (HS2.out _).mono ?_); rintro e w1 ⟨rfl, rfl⟩))
        all_goals
          clear k0 k1 k2 k3 k4 k5 a0 a1 a2 a3 a4 a5 b0 b1 b2 b3 b4 b5 zz0 zz1 zz2 zz3 zz4 zz5 hB
          apply hold2; (focus assumption); intro k0 k1 pB; obtain ⟨⟨k2, k3, k4, k5⟩, hB⟩ := pB
          obtain ⟨a0, b0⟩ := k0.read; obtain ⟨a1, b1⟩ := k1.read; obtain ⟨a2, b2⟩ := k2.read; obtain ⟨a3, b3⟩ := k3.read; obtain ⟨a4, b4⟩ := k4.read; obtain ⟨a5, b5⟩ := k5.read
          have zz0 := k0.lt; have zz1 := k1.lt; have zz2 := k2.lt; have zz3 := k3.lt; have zz4 := k4.lt; have zz5 := k5.lt
          go_upto_region 7 with (go_at_call 119; (with_reducible refine (HE.out _).mono ?_); rintro e w1 ⟨rfl, hb⟩; (try (have zk := k0.lt; (first | ((with_reducible refine Blk.keepG hb k0 (fun h => ?_) ?_); (focus ((repeat' (first | (with_reducible assumption) | ((with_reducible refine Blk.new ?_); first | rfl | (simp; done)) | (with_reducible refine Blk.later (by assumption) ?_) | (with_reducible refine Blk.alloc ?_) | (with_reducible refine Blk.drewN ?_) | (with_reducible refine Blk.drew ?_) | (with_reducible refine Blk.other ?_ (by first | omega | (simp; done) | (simp; omega))))); done)); clear k0; intro k0) | (with_reducible replace k0 := Blk.later hb (Blk.set (Blk.set k0))) | (with_reducible replace k0 := Blk.later hb (Blk.set k0))); clear a0 b0; obtain ⟨a0, b0⟩ := k0.read; have zl := k0.lt)); (try (have zk := k1.lt; (first | ((with_reducible refine Blk.keepG hb k1 (fun h => ?_) ?_); (focus ((repeat' (first | (with_reducible assumption) | ((with_reducible refine Blk.new ?_); first | rfl | (simp; done)) | (with_reducible refine Blk.later (by assumption) ?_) | (with_reducible refine Blk.alloc ?_) | (with_reducible refine Blk.drewN ?_) | (with_reducible refine Blk.drew ?_) | (with_reducible refine Blk.other ?_ (by first | omega | (simp; done) | (simp; omega))))); done)); clear k1; intro k1) | (with_reducible replace k1 := Blk.later hb (Blk.set (Blk.set k1))) | (with_reducible replace k1 := Blk.later hb (Blk.set k1))); clear a1 b1; obtain ⟨a1, b1⟩ := k1.read; have zl := k1.lt)); (try (have zk := k2.lt; (first | ((with_reducible refine Blk.keepG hb k2 (fun h => ?_) ?_); (focus ((repeat' (first | (with_reducible assumption) | ((with_reducible refine Blk.new ?_); first | rfl | (simp; done)) | (with_reducible refine Blk.later (by assumption) ?_) | (with_reducible refine Blk.alloc ?_) | (with_reducible refine Blk.drewN ?_) | (with_reducible refine Blk.drew ?_) | (with_reducible refine Blk.other ?_ (by first | omega | (simp; done) | (simp; omega))))); done)); clear k2; intro k2) | (with_reducible replace k2 := Blk.later hb (Blk.set (Blk.set k2))) | (with_reducible replace k2 := Blk.later hb (Blk.set k2))); clear a2 b2; obtain ⟨a2, b2⟩ := k2.read; have zl := k2.lt)); (try (have zk := k3.lt; (first | ((with_reducible refine Blk.keepG hb k3 (fun h => ?_) ?_); (focus ((repeat' (first | (with_reducible assumption) | ((with_reducible refine Blk.new ?_); first | rfl | (simp; done)) | (with_reducible refine Blk.later (by assumption) ?_) | (with_reducible refine Blk.alloc ?_) | (with_reducible refine Blk.drewN ?_) | (with_reducible refine Blk.drew ?_) | (with_reducible refine Blk.other ?_ (by first | omega | (simp; done) | (simp; omega))))); done)); clear k3; intro k3) | (with_reducible replace k3 := Blk.later hb (Blk.set (Blk.set k3))) | (with_reducible replace k3 := Blk.later hb (Blk.set k3))); clear a3 b3; obtain ⟨a3, b3⟩ := k3.read; have zl := k3.lt)); (try (have zk := k4.lt; (first | ((with_reducible refine Blk.keepG hb k4 (fun h => ?_) ?_); (focus ((repeat' (first | (with_reducible assumption) | ((with_reducible refine Blk.new ?_); first | rfl | (simp; done)) | (with_reducible refine Blk.later (by assumption) ?_) | (with_reducible refine Blk.alloc ?_) | (with_reducible refine Blk.drewN ?_) | (with_reducible refine Blk.drew ?_) | (with_reducible refine Blk.other ?_ (by first | omega | (simp; done) | (simp; omega))))); done)); clear k4; intro k4) | (with_reducible replace k4 := Blk.later hb (Blk.set (Blk.set k4))) | (with_reducible replace k4 := Blk.later hb (Blk.set k4))); clear a4 b4; obtain ⟨a4, b4⟩ := k4.read; have zl := k4.lt)); (try (have zk := k5.lt; (first | ((with_reducible refine Blk.keepG hb k5 (fun h => ?_) ?_); (focus ((repeat' (first | (with_reducible assumption) | ((with_reducible refine Blk.new ?_); first | rfl | (simp; done)) | (with_reducible refine Blk.later (by assumption) ?_) | (with_reducible refine Blk.alloc ?_) | (with_reducible refine Blk.drewN ?_) | (with_reducible refine Blk.drew ?_) | (with_reducible refine Blk.other ?_ (by first | omega | (simp; done) | (simp; omega))))); done)); clear k5; intro k5) | (with_reducible replace k5 := Blk.later hb (Blk.set (Blk.set k5))) | (with_reducible replace k5 := Blk.later hb (Blk.set k5))); clear a5 b5; obtain ⟨a5, b5⟩ := k5.read; have zl := k5.lt)))
          refine wp_region_inv (RPlusI7 a b c d s t y X1 X0 Y1 Y0 Z1 Z0 U1 U0 A B ok pb qb zb w ?i65 ?i66 ?i67 ?i68 ?i69 ?i70 ?i71 ?i72 ?i73 ?i74 ?i5) (by kernel_rfl) (by kernel_rfl) ?hsz ?hst ?hstep ?hfin
          case hst =>
            unfold RPlusI7
            refine ⟨false, false, false, false, false, false, false, false, false, false, false, false, rfl, ?_, ?_, ?_, ?_, ?_, ?_, ?_, ?_, ?_⟩
            · first | (simp only [Act.put, List.setIfInBounds_toArray, List.set_cons_zero, List.set_cons_succ, cond_false]; done) | (simp only [Act.put, List.setIfInBounds_toArray, List.set_cons_zero, List.set_cons_succ, cond_false]; rfl)
            all_goals (first | (intro h; cases h; done) | ((repeat' (first | (with_reducible assumption) | ((with_reducible refine Blk.new ?_); first | rfl | (simp; done)) | (with_reducible refine Blk.later (by assumption) ?_) | (with_reducible refine Blk.alloc ?_) | (with_reducible refine Blk.drewN ?_) | (with_reducible refine Blk.drew ?_) | (with_reducible refine Blk.other ?_ (by first | omega | (simp; done) | (simp; omega))))); done) | ((repeat' (first | (with_reducible exact Below.refl _ _) | (with_reducible assumption) | (with_reducible refine belowThru ?_ (by assumption)) | (with_reducible refine belowAlloc ?_) | (with_reducible refine Below.setCell ?_ (by first | omega | (simp; done) | (simp; omega)) _) | (with_reducible refine Below.drew ?_) | (with_reducible refine below_drewN ?_ _))); done) | (simp only [cond_false]; (repeat' (first | (with_reducible assumption) | ((with_reducible refine Blk.new ?_); first | rfl | (simp; done)) | (with_reducible refine Blk.later (by assumption) ?_) | (with_reducible refine Blk.alloc ?_) | (with_reducible refine Blk.drewN ?_) | (with_reducible refine Blk.drew ?_) | (with_reducible refine Blk.other ?_ (by first | omega | (simp; done) | (simp; omega))))); done) | (simp only [World.size_drew]; omega) | (simp only [World.size_drew] at *; omega) | (simp; done) | (simp; omega))
          case hsz =>
            intro L a w9 h
            obtain ⟨gg0, gg1, gg2, gg3, gg4, gg5, gg6, gg7, gg8, gg9, gg10, gg11, rfl, -⟩ := h; rfl
          case hstep =>
            intro L a w9 hI i hi
            obtain ⟨gg0, gg1, gg2, gg3, gg4, gg5, gg6, gg7, gg8, gg9, gg10, gg11, rfl, rfl, fb0, fb1, fb2, fb3, fb4, fb5, fB, fL⟩ := hI
            obtain ⟨hi1, hi2, o, ho, hall⟩ := inv_mem hi
            clear hi
            rcases i with _ | _ | _ | _ | _ | _ | _ | _ | _ | _ | _ | _ | i
            · have ge0 : gg0 = false := hi2
              clear hall hi1 hi2
              subst ge0
              have ho2 := ho
              simp only [List.getElem?_toArray, List.getElem?_cons_zero, List.getElem?_cons_succ] at ho2
              have ho3 := Option.some.inj ho2; clear ho2; subst ho3
              obtain ⟨ba0, bb0⟩ := fb0.read; have bl0 := fb0.lt
              obtain ⟨ba1, bb1⟩ := fb1.read; have bl1 := fb1.lt
              obtain ⟨ba3, bb3⟩ := fb3.read; have bl3 := fb3.lt
              obtain ⟨ba4, bb4⟩ := fb4.read; have bl4 := fb4.lt
              obtain ⟨ba5, bb5⟩ := fb5.read; have bl5 := fb5.lt
              simp only [Act.put, List.setIfInBounds_toArray, List.set_cons_zero, List.set_cons_succ]
              simp only [cond_true, cond_false]
              refine inv_op ho (by kernel_rfl) (fun K hK => ?_)
              clear ho
              go_simp
              refine hK.out _ _ ?_
              unfold RPlusI7
              refine ⟨true, gg1, gg2, gg3, gg4, gg5, gg6, gg7, gg8, gg9, gg10, gg11, rfl, by simp only [Act.put, List.setIfInBounds_toArray, List.set_cons_zero, List.set_cons_succ, cond_true, cond_false], ?_, ?_, ?_, ?_, ?_, ?_, ?_, ?_⟩
              · exact fb0
              · exact fb1
              · exact fb2
              · exact fb3
              · exact fb4
              · exact fb5
              · exact fB
              · exact fL
            · have ge1 : gg1 = false := hi2
              have ge0 : gg0 = true := inv_dep ho hall 0 (by kernel_rfl)
              clear hall hi1 hi2
              subst ge1 ge0
              have ho2 := ho
              simp only [List.getElem?_toArray, List.getElem?_cons_zero, List.getElem?_cons_succ] at ho2
              have ho3 := Option.some.inj ho2; clear ho2; subst ho3
              obtain ⟨ba0, bb0⟩ := fb0.read; have bl0 := fb0.lt
              obtain ⟨ba1, bb1⟩ := fb1.read; have bl1 := fb1.lt
              obtain ⟨ba3, bb3⟩ := fb3.read; have bl3 := fb3.lt
              obtain ⟨ba4, bb4⟩ := fb4.read; have bl4 := fb4.lt
              obtain ⟨ba5, bb5⟩ := fb5.read; have bl5 := fb5.lt
              simp only [Act.put, List.setIfInBounds_toArray, List.set_cons_zero, List.set_cons_succ]
              simp only [cond_true, cond_false]
              refine inv_op ho (by kernel_rfl) (fun K hK => ?_)
              clear ho
              go_simp
              refine hK.out _ _ ?_
              unfold RPlusI7
              refine ⟨true, true, gg2, gg3, gg4, gg5, gg6, gg7, gg8, gg9, gg10, gg11, rfl, by simp only [Act.put, List.setIfInBounds_toArray, List.set_cons_zero, List.set_cons_succ, cond_true, cond_false], ?_, ?_, ?_, ?_, ?_, ?_, ?_, ?_⟩
              · exact fb0
              · exact fb1
              · exact fb2
              · exact fb3
              · exact fb4
              · exact fb5
              · exact fB
              · exact fL
            · have ge2 : gg2 = false := hi2
              have ge1 : gg1 = true := inv_dep ho hall 1 (by kernel_rfl)
              clear hall hi1 hi2
              subst ge2 ge1
              have ho2 := ho
              simp only [List.getElem?_toArray, List.getElem?_cons_zero, List.getElem?_cons_succ] at ho2
              have ho3 := Option.some.inj ho2; clear ho2; subst ho3
              obtain ⟨ba0, bb0⟩ := fb0.read; have bl0 := fb0.lt
              obtain ⟨ba1, bb1⟩ := fb1.read; have bl1 := fb1.lt
              obtain ⟨ba3, bb3⟩ := fb3.read; have bl3 := fb3.lt
              obtain ⟨ba4, bb4⟩ := fb4.read; have bl4 := fb4.lt
              obtain ⟨ba5, bb5⟩ := fb5.read; have bl5 := fb5.lt
              simp only [Act.put, List.setIfInBounds_toArray, List.set_cons_zero, List.set_cons_succ]
              simp only [cond_true, cond_false]
              refine inv_op ho (by kernel_rfl) (fun K hK => ?_)
              clear ho
              go_simp
              go_at_call 116; (with_reducible refine (HS1.out _).mono ?_); rintro e w1 ⟨rfl, rfl⟩
              refine hK.out _ _ ?_
              unfold RPlusI7
              refine ⟨gg0, true, true, gg3, gg4, gg5, gg6, gg7, gg8, gg9, gg10, gg11, rfl, by simp only [Act.put, List.setIfInBounds_toArray, List.set_cons_zero, List.set_cons_succ, cond_true, cond_false], ?_, ?_, ?_, ?_, ?_, ?_, ?_, ?_⟩
              · exact fb0
              · exact fb1
              · exact fb2
              · exact fb3
              · exact fb4
              · exact fb5
              · exact fB
              · exact fL
            · have ge3 : gg3 = false := hi2
              clear hall hi1 hi2
              subst ge3
              have ho2 := ho
              simp only [List.getElem?_toArray, List.getElem?_cons_zero, List.getElem?_cons_succ] at ho2
              have ho3 := Option.some.inj ho2; clear ho2; subst ho3
              obtain ⟨ba0, bb0⟩ := fb0.read; have bl0 := fb0.lt
              obtain ⟨ba1, bb1⟩ := fb1.read; have bl1 := fb1.lt
              obtain ⟨ba3, bb3⟩ := fb3.read; have bl3 := fb3.lt
              obtain ⟨ba4, bb4⟩ := fb4.read; have bl4 := fb4.lt
              obtain ⟨ba5, bb5⟩ := fb5.read; have bl5 := fb5.lt
              simp only [Act.put, List.setIfInBounds_toArray, List.set_cons_zero, List.set_cons_succ]
              simp only [cond_true, cond_false]
              refine inv_op ho (by kernel_rfl) (fun K hK => ?_)
              clear ho
              go_simp
              refine hK.out _ _ ?_
              unfold RPlusI7
              refine ⟨gg0, gg1, gg2, true, gg4, gg5, gg6, gg7, gg8, gg9, gg10, gg11, rfl, by simp only [Act.put, List.setIfInBounds_toArray, List.set_cons_zero, List.set_cons_succ, cond_true, cond_false], ?_, ?_, ?_, ?_, ?_, ?_, ?_, ?_⟩
              · exact fb0
              · exact fb1
              · exact fb2
              · exact fb3
              · exact fb4
              · exact fb5
              · exact fB
              · exact fL
            · have ge4 : gg4 = false := hi2
              clear hall hi1 hi2
              subst ge4
              have ho2 := ho
              simp only [List.getElem?_toArray, List.getElem?_cons_zero, List.getElem?_cons_succ] at ho2
              have ho3 := Option.some.inj ho2; clear ho2; subst ho3
              obtain ⟨ba0, bb0⟩ := fb0.read; have bl0 := fb0.lt
              obtain ⟨ba1, bb1⟩ := fb1.read; have bl1 := fb1.lt
              obtain ⟨ba3, bb3⟩ := fb3.read; have bl3 := fb3.lt
              obtain ⟨ba4, bb4⟩ := fb4.read; have bl4 := fb4.lt
              obtain ⟨ba5, bb5⟩ := fb5.read; have bl5 := fb5.lt
              simp only [Act.put, List.setIfInBounds_toArray, List.set_cons_zero, List.set_cons_succ]
              simp only [cond_true, cond_false]
              refine inv_op ho (by kernel_rfl) (fun K hK => ?_)
              clear ho
              go_simp
              refine hK.out _ _ ?_
              unfold RPlusI7
              refine ⟨gg0, gg1, gg2, gg3, true, gg5, gg6, gg7, gg8, gg9, gg10, gg11, rfl, by simp only [Act.put, List.setIfInBounds_toArray, List.set_cons_zero, List.set_cons_succ, cond_true, cond_false], ?_, ?_, ?_, ?_, ?_, ?_, ?_, ?_⟩
              · exact fb0
              · exact fb1
              · exact fb2
              · exact fb3
              · exact fb4
              · exact fb5
              · exact fB
              · exact fL
            · have ge5 : gg5 = false := hi2
              have ge3 : gg3 = true := inv_dep ho hall 3 (by kernel_rfl)
              have ge4 : gg4 = true := inv_dep ho hall 4 (by kernel_rfl)
              clear hall hi1 hi2
              subst ge5 ge3 ge4
              have ho2 := ho
              simp only [List.getElem?_toArray, List.getElem?_cons_zero, List.getElem?_cons_succ] at ho2
              have ho3 := Option.some.inj ho2; clear ho2; subst ho3
              obtain ⟨ba0, bb0⟩ := fb0.read; have bl0 := fb0.lt
              obtain ⟨ba1, bb1⟩ := fb1.read; have bl1 := fb1.lt
              obtain ⟨ba3, bb3⟩ := fb3.read; have bl3 := fb3.lt
              obtain ⟨ba4, bb4⟩ := fb4.read; have bl4 := fb4.lt
              obtain ⟨ba5, bb5⟩ := fb5.read; have bl5 := fb5.lt
              simp only [Act.put, List.setIfInBounds_toArray, List.set_cons_zero, List.set_cons_succ]
              simp only [cond_true, cond_false]
              refine inv_op ho (by kernel_rfl) (fun K hK => ?_)
              clear ho
              go_simp
              go_at_call 120; (with_reducible refine (HU.out _).mono ?_); rintro e w1 ⟨rfl, hb⟩
              refine hK.out _ _ ?_
              unfold RPlusI7
              refine ⟨gg0, gg1, gg2, true, true, true, gg6, gg7, gg8, gg9, gg10, gg11, rfl, by simp only [Act.put, List.setIfInBounds_toArray, List.set_cons_zero, List.set_cons_succ, cond_true, cond_false], ?_, ?_, ?_, ?_, ?_, ?_, ?_, ?_⟩
              · exact Blk.later hb fb0
              · exact Blk.later hb fb1
              · exact Blk.later hb fb2
              · exact Blk.later hb fb3
              · exact Blk.later hb fb4
              · exact Blk.later hb fb5
              · exact belowThru fB hb
              · have := hb.size; omega
            · have ge6 : gg6 = false := hi2
              clear hall hi1 hi2
              subst ge6
              have ho2 := ho
              simp only [List.getElem?_toArray, List.getElem?_cons_zero, List.getElem?_cons_succ] at ho2
              have ho3 := Option.some.inj ho2; clear ho2; subst ho3
              obtain ⟨ba0, bb0⟩ := fb0.read; have bl0 := fb0.lt
              obtain ⟨ba1, bb1⟩ := fb1.read; have bl1 := fb1.lt
              obtain ⟨ba3, bb3⟩ := fb3.read; have bl3 := fb3.lt
              obtain ⟨ba4, bb4⟩ := fb4.read; have bl4 := fb4.lt
              obtain ⟨ba5, bb5⟩ := fb5.read; have bl5 := fb5.lt
              simp only [Act.put, List.setIfInBounds_toArray, List.set_cons_zero, List.set_cons_succ]
              simp only [cond_true, cond_false]
              refine inv_op ho (by kernel_rfl) (fun K hK => ?_)
              clear ho
              go_simp
              refine hK.out _ _ ?_
              unfold RPlusI7
              refine ⟨gg0, gg1, gg2, gg3, gg4, gg5, true, gg7, gg8, gg9, gg10, gg11, rfl, by simp only [Act.put, List.setIfInBounds_toArray, List.set_cons_zero, List.set_cons_succ, cond_true, cond_false], ?_, ?_, ?_, ?_, ?_, ?_, ?_, ?_⟩
              · exact fb0
              · exact fb1
              · exact fb2
              · exact fb3
              · exact fb4
              · exact fb5
              · exact fB
              · exact fL
            · have ge7 : gg7 = false := hi2
              have ge2 : gg2 = true := inv_dep ho hall 2 (by kernel_rfl)
              have ge5 : gg5 = true := inv_dep ho hall 5 (by kernel_rfl)
              have ge6 : gg6 = true := inv_dep ho hall 6 (by kernel_rfl)
              clear hall hi1 hi2
              subst ge7 ge2 ge5 ge6
              have ho2 := ho
              simp only [List.getElem?_toArray, List.getElem?_cons_zero, List.getElem?_cons_succ] at ho2
              have ho3 := Option.some.inj ho2; clear ho2; subst ho3
              obtain ⟨ba0, bb0⟩ := fb0.read; have bl0 := fb0.lt
              obtain ⟨ba1, bb1⟩ := fb1.read; have bl1 := fb1.lt
              obtain ⟨ba3, bb3⟩ := fb3.read; have bl3 := fb3.lt
              obtain ⟨ba4, bb4⟩ := fb4.read; have bl4 := fb4.lt
              obtain ⟨ba5, bb5⟩ := fb5.read; have bl5 := fb5.lt
              simp only [Act.put, List.setIfInBounds_toArray, List.set_cons_zero, List.set_cons_succ]
              simp only [cond_true, cond_false]
              refine inv_op ho (by kernel_rfl) (fun K hK => ?_)
              clear ho
              go_simp
              go_at_call 117; (with_reducible refine (HL.out _).mono ?_); rintro e w1 ⟨rfl, hb⟩
              refine hK.out _ _ ?_
              unfold RPlusI7
              refine ⟨gg0, gg1, true, gg3, gg4, true, true, true, gg8, gg9, gg10, gg11, rfl, by simp only [Act.put, List.setIfInBounds_toArray, List.set_cons_zero, List.set_cons_succ, cond_true, cond_false], ?_, ?_, ?_, ?_, ?_, ?_, ?_, ?_⟩
              · exact Blk.later hb fb0
              · exact Blk.later hb fb1
              · exact Blk.later hb fb2
              · exact Blk.later hb fb3
              · exact Blk.later hb fb4
              · exact Blk.later hb fb5
              · exact belowThru fB hb
              · have := hb.size; omega
            · have ge8 : gg8 = false := hi2
              have ge7 : gg7 = true := inv_dep ho hall 7 (by kernel_rfl)
              clear hall hi1 hi2
              subst ge8 ge7
              have ho2 := ho
              simp only [List.getElem?_toArray, List.getElem?_cons_zero, List.getElem?_cons_succ] at ho2
              have ho3 := Option.some.inj ho2; clear ho2; subst ho3
              obtain ⟨ba0, bb0⟩ := fb0.read; have bl0 := fb0.lt
              obtain ⟨ba1, bb1⟩ := fb1.read; have bl1 := fb1.lt
              obtain ⟨ba3, bb3⟩ := fb3.read; have bl3 := fb3.lt
              obtain ⟨ba4, bb4⟩ := fb4.read; have bl4 := fb4.lt
              obtain ⟨ba5, bb5⟩ := fb5.read; have bl5 := fb5.lt
              simp only [Act.put, List.setIfInBounds_toArray, List.set_cons_zero, List.set_cons_succ]
              simp only [cond_true, cond_false]
              refine inv_op ho (by kernel_rfl) (fun K hK => ?_)
              clear ho
              go_simp
              refine hK.out _ _ ?_
              unfold RPlusI7
              refine ⟨gg0, gg1, gg2, gg3, gg4, gg5, gg6, true, true, gg9, gg10, gg11, rfl, by simp only [Act.put, List.setIfInBounds_toArray, List.set_cons_zero, List.set_cons_succ, cond_true, cond_false], ?_, ?_, ?_, ?_, ?_, ?_, ?_, ?_⟩
              · exact fb0
              · exact fb1
              · exact fb2
              · exact fb3
              · exact fb4
              · exact fb5
              · exact fB
              · exact fL
            · have ge9 : gg9 = false := hi2
              have ge7 : gg7 = true := inv_dep ho hall 7 (by kernel_rfl)
              clear hall hi1 hi2
              subst ge9 ge7
              have ho2 := ho
              simp only [List.getElem?_toArray, List.getElem?_cons_zero, List.getElem?_cons_succ] at ho2
              have ho3 := Option.some.inj ho2; clear ho2; subst ho3
              obtain ⟨ba0, bb0⟩ := fb0.read; have bl0 := fb0.lt
              obtain ⟨ba1, bb1⟩ := fb1.read; have bl1 := fb1.lt
              obtain ⟨ba3, bb3⟩ := fb3.read; have bl3 := fb3.lt
              obtain ⟨ba4, bb4⟩ := fb4.read; have bl4 := fb4.lt
              obtain ⟨ba5, bb5⟩ := fb5.read; have bl5 := fb5.lt
              simp only [Act.put, List.setIfInBounds_toArray, List.set_cons_zero, List.set_cons_succ]
              simp only [cond_true, cond_false]
              refine inv_op ho (by kernel_rfl) (fun K hK => ?_)
              clear ho
              go_simp
              refine hK.out _ _ ?_
              unfold RPlusI7
              refine ⟨gg0, gg1, gg2, gg3, gg4, gg5, gg6, true, gg8, true, gg10, gg11, rfl, by simp only [Act.put, List.setIfInBounds_toArray, List.set_cons_zero, List.set_cons_succ, cond_true, cond_false], ?_, ?_, ?_, ?_, ?_, ?_, ?_, ?_⟩
              · exact fb0
              · exact fb1
              · exact fb2
              · exact fb3
              · exact fb4
              · exact fb5
              · exact fB
              · exact fL
            · have ge10 : gg10 = false := hi2
              have ge8 : gg8 = true := inv_dep ho hall 8 (by kernel_rfl)
              clear hall hi1 hi2
              subst ge10 ge8
              have ho2 := ho
              simp only [List.getElem?_toArray, List.getElem?_cons_zero, List.getElem?_cons_succ] at ho2
              have ho3 := Option.some.inj ho2; clear ho2; subst ho3
              simp only [cond_true, cond_false] at fb2
              obtain ⟨ba0, bb0⟩ := fb0.read; have bl0 := fb0.lt
              obtain ⟨ba1, bb1⟩ := fb1.read; have bl1 := fb1.lt
              obtain ⟨ba2, bb2⟩ := fb2.read; have bl2 := fb2.lt
              obtain ⟨ba3, bb3⟩ := fb3.read; have bl3 := fb3.lt
              obtain ⟨ba4, bb4⟩ := fb4.read; have bl4 := fb4.lt
              obtain ⟨ba5, bb5⟩ := fb5.read; have bl5 := fb5.lt
              simp only [Act.put, List.setIfInBounds_toArray, List.set_cons_zero, List.set_cons_succ]
              simp only [cond_true, cond_false]
              refine inv_op ho (by kernel_rfl) (fun K hK => ?_)
              clear ho
              go_simp
              refine hK.out _ _ ?_
              unfold RPlusI7
              refine ⟨gg0, gg1, gg2, gg3, gg4, gg5, gg6, gg7, true, gg9, true, gg11, rfl, by simp only [Act.put, List.setIfInBounds_toArray, List.set_cons_zero, List.set_cons_succ, cond_true, cond_false], ?_, ?_, ?_, ?_, ?_, ?_, ?_, ?_⟩
              · (repeat' (first | (with_reducible assumption) | ((with_reducible refine Blk.new ?_); first | rfl | (simp; done)) | (with_reducible refine Blk.later (by assumption) ?_) | (with_reducible refine Blk.alloc ?_) | (with_reducible refine Blk.drewN ?_) | (with_reducible refine Blk.drew ?_) | (with_reducible refine Blk.other ?_ (by first | omega | (simp; done) | (simp; omega)))))
              · (repeat' (first | (with_reducible assumption) | ((with_reducible refine Blk.new ?_); first | rfl | (simp; done)) | (with_reducible refine Blk.later (by assumption) ?_) | (with_reducible refine Blk.alloc ?_) | (with_reducible refine Blk.drewN ?_) | (with_reducible refine Blk.drew ?_) | (with_reducible refine Blk.other ?_ (by first | omega | (simp; done) | (simp; omega)))))
              · exact Blk.set (Blk.set (fb2))
              · (repeat' (first | (with_reducible assumption) | ((with_reducible refine Blk.new ?_); first | rfl | (simp; done)) | (with_reducible refine Blk.later (by assumption) ?_) | (with_reducible refine Blk.alloc ?_) | (with_reducible refine Blk.drewN ?_) | (with_reducible refine Blk.drew ?_) | (with_reducible refine Blk.other ?_ (by first | omega | (simp; done) | (simp; omega)))))
              · (repeat' (first | (with_reducible assumption) | ((with_reducible refine Blk.new ?_); first | rfl | (simp; done)) | (with_reducible refine Blk.later (by assumption) ?_) | (with_reducible refine Blk.alloc ?_) | (with_reducible refine Blk.drewN ?_) | (with_reducible refine Blk.drew ?_) | (with_reducible refine Blk.other ?_ (by first | omega | (simp; done) | (simp; omega)))))
              · (repeat' (first | (with_reducible assumption) | ((with_reducible refine Blk.new ?_); first | rfl | (simp; done)) | (with_reducible refine Blk.later (by assumption) ?_) | (with_reducible refine Blk.alloc ?_) | (with_reducible refine Blk.drewN ?_) | (with_reducible refine Blk.drew ?_) | (with_reducible refine Blk.other ?_ (by first | omega | (simp; done) | (simp; omega)))))
              · (repeat' (first | (with_reducible exact Below.refl _ _) | (with_reducible assumption) | (with_reducible refine belowThru ?_ (by assumption)) | (with_reducible refine belowAlloc ?_) | (with_reducible refine Below.setCell ?_ (by first | omega | (simp; done) | (simp; omega)) _) | (with_reducible refine Below.drew ?_) | (with_reducible refine below_drewN ?_ _)))
              · first | exact fL | (simp; omega)
            · have ge11 : gg11 = false := hi2
              have ge9 : gg9 = true := inv_dep ho hall 9 (by kernel_rfl)
              clear hall hi1 hi2
              subst ge11 ge9
              have ho2 := ho
              simp only [List.getElem?_toArray, List.getElem?_cons_zero, List.getElem?_cons_succ] at ho2
              have ho3 := Option.some.inj ho2; clear ho2; subst ho3
              obtain ⟨ba0, bb0⟩ := fb0.read; have bl0 := fb0.lt
              obtain ⟨ba1, bb1⟩ := fb1.read; have bl1 := fb1.lt
              obtain ⟨ba3, bb3⟩ := fb3.read; have bl3 := fb3.lt
              obtain ⟨ba4, bb4⟩ := fb4.read; have bl4 := fb4.lt
              obtain ⟨ba5, bb5⟩ := fb5.read; have bl5 := fb5.lt
              simp only [Act.put, List.setIfInBounds_toArray, List.set_cons_zero, List.set_cons_succ]
              simp only [cond_true, cond_false]
              refine inv_op ho (by kernel_rfl) (fun K hK => ?_)
              clear ho
              go_simp
              refine hK.out _ _ ?_
              unfold RPlusI7
              refine ⟨gg0, gg1, gg2, gg3, gg4, gg5, gg6, gg7, gg8, true, gg10, true, rfl, by simp only [Act.put, List.setIfInBounds_toArray, List.set_cons_zero, List.set_cons_succ, cond_true, cond_false], ?_, ?_, ?_, ?_, ?_, ?_, ?_, ?_⟩
              · exact fb0
              · exact fb1
              · exact fb2
              · exact fb3
              · exact fb4
              · exact fb5
              · exact fB
              · exact fL
            · exfalso; simp at hi1; omega
          case hfin =>
            intro a w9 hI
            obtain ⟨gg0, gg1, gg2, gg3, gg4, gg5, gg6, gg7, gg8, gg9, gg10, gg11, hL, rfl, fb0, fb1, fb2, fb3, fb4, fb5, fB, fL⟩ := hI
            have hL2 : #[true, true, true, true, true, true, true, true, true, true, true, true] = #[gg0, gg1, gg2, gg3, gg4, gg5, gg6, gg7, gg8, gg9, gg10, gg11] := hL
            cases hL2
            simp only [Act.put, List.setIfInBounds_toArray, List.set_cons_zero, List.set_cons_succ]
            simp only [cond_true]
            go_wp2_with fail
            simp only [cond_true] at fb2
            obtain ⟨ra, rb⟩ := fb2.read
            exact bodyPost_ret (v := .tuple #[.agg #[.int .i64 A, .int .i64 B], .bool ok]) (by simp only [results, Try.results91]; go_simp) rfl ⟨rfl, fB⟩

end Go.Proofs.Ytdimmnoflenfhaa
