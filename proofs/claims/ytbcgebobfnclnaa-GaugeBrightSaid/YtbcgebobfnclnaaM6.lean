/-
  The texts that the laws of this seat share, merged: part 6.
-/
import Derived.BigQuiet
import Derived.Deep.CutBlock
import Derived.Deep.DeepCutAuto
import Derived.Deep.Draws
import Derived.Deep.LoopGhost
import Derived.Deep.OwnRows
import Derived.Deep.QuietTactic
import Derived.Deep.RegionHeld3
import Derived.IntWalk
import Derived.Laws.AppendOwn
import Derived.Laws.Bits64b
import Derived.Lib.Hide
import Derived.Lib.ItoaNum
import Derived.LoopIn
import Derived.LoopNIn
import Derived.LoopTactic
import Derived.Maps.AppendAt
import Derived.OneCell
import Derived.Orders
import Derived.OwnWalkIn
import Derived.RangeFuncBound
import Derived.RangeFuncCalls
import Derived.RangeFuncLeaves
import Derived.RangeFuncNested
import Derived.Shelf.Abstract
import Derived.Shelf.AbstractIn
import Derived.Shelf.Bits.Mul64
import Derived.Shelf.RegionOpen
import Derived.Shelf.Small.Bits
import Derived.Shelf.Spec.BitsCarry
import Derived.Shelf.Strconv.Itoa0
import Derived.TacticsInMore
import Derived.Test.YtbcgebobfnclnaaProg
import Derived.WalkKit
import Derived.WalkLawsBesides
import Derived.WalkSmall
import Derived.WalkSpells
import Derived.Test.YtbcgebobfnclnaaM2
import Derived.Test.YtbcgebobfnclnaaM4
import Derived.Test.YtbcgebobfnclnaaM5
/-
  Layer 5: Decide, by the code.
-/
namespace Go.Proofs.Ytbcgebobfnclnaa
open Go.RowKit Go.Shelf
set_option linter.unusedVariables false
set_option linter.unusedSimpArgs false

set_option maxRecDepth 100000 in
set_option maxHeartbeats 4000000 in
theorem dec_none (s1 s2 s3 s4 l1 l2 h1 h2 A B C D : Int) (w : World)
    (H1 : Hid (∀ w, Calls Try.prog 66 #[.agg #[.int .i64 s1, .int .i64 s2, .int .i64 s3, .int .i64 s4]] w fun e w' => e = .returned (.int .i64 0) ∧ Below w.heap.size w w'))
    (H2 : Hid (∀ w, Calls Try.prog 66 #[.agg #[.int .i64 l1, .int .i64 l2, .int .i64 h1, .int .i64 h2]] w fun e w' => e = .returned (.int .i64 0) ∧ Below w.heap.size w w'))
    (HM : Hid (∀ w, Calls Try.prog 60 #[.agg #[.int .i64 s1, .int .i64 s2, .int .i64 s3, .int .i64 s4], .agg #[.int .i64 l1, .int .i64 l2, .int .i64 h1, .int .i64 h2]] w fun e w' => e = .returned (.tuple #[.agg #[.int .i64 A, .int .i64 B, .int .i64 C, .int .i64 D], .int .i64 6]) ∧ Below w.heap.size w w')) :
    Calls Try.prog 41 #[.agg #[.int .i64 s1, .int .i64 s2, .int .i64 s3, .int .i64 s4], .agg #[.int .i64 l1, .int .i64 l2], .agg #[.int .i64 h1, .int .i64 h2]] w fun e w' => e = .returned (.tuple #[.int .u8 2, .int .i64 0]) ∧ Below w.heap.size w w' := by
  go_enter Try.func41, Try.ntmps41
  go_wp2_with fail
  refine (H1.out _).mono ?_
  rintro e w1 ⟨rfl, hb⟩
  have k0 : Blk w1 w.heap.size #[.int .i64 s1, .int .i64 s2, .int .i64 s3, .int .i64 s4] 30 := Blk.later hb (by (repeat' (first | (with_reducible assumption) | (with_reducible refine Blk.set2 ?_) | ((with_reducible refine Blk.new ?_); first | rfl | (simp; done)) | (with_reducible refine Blk.later (by assumption) ?_) | (with_reducible refine Blk.alloc ?_) | (with_reducible refine Blk.drewN ?_) | (with_reducible refine Blk.drew ?_) | (with_reducible refine Blk.other ?_ (by first | omega | (simp; done) | (simp; omega))))))
  have k3 : Blk w1 (w.heap.size + 1 + 1 + 1) #[.int .i64 l1, .int .i64 l2, .int .i64 h1, .int .i64 h2] 30 := Blk.later hb (by (repeat' (first | (with_reducible assumption) | (with_reducible refine Blk.set2 ?_) | ((with_reducible refine Blk.new ?_); first | rfl | (simp; done)) | (with_reducible refine Blk.later (by assumption) ?_) | (with_reducible refine Blk.alloc ?_) | (with_reducible refine Blk.drewN ?_) | (with_reducible refine Blk.drew ?_) | (with_reducible refine Blk.other ?_ (by first | omega | (simp; done) | (simp; omega))))))
  obtain ⟨a3, b3⟩ := k3.read
  have hB1 : Below w.heap.size w w1 := by (repeat' (first | (with_reducible exact Below.refl _ _) | (with_reducible assumption) | (with_reducible refine belowThru ?_ (by assumption)) | (with_reducible refine belowAlloc ?_) | (with_reducible refine Below.setCell ?_ (by first | omega | (simp; done) | (simp; omega)) _) | (with_reducible refine Below.drew ?_) | (with_reducible refine below_drewN ?_ _)))
  clear hb
  go_wp2_with fail
  refine (H2.out _).mono ?_
  rintro e w2 ⟨rfl, hb⟩
  replace k0 := Blk.later hb k0
  replace k3 := Blk.later hb k3
  have hB2 := belowThru hB1 hb
  clear a3 b3 hB1 hb
  obtain ⟨a3, b3⟩ := k3.read
  obtain ⟨a0, b0⟩ := k0.read
  go_wp2_with fail
  refine (HM.out _).mono ?_
  rintro e w3 ⟨rfl, hb⟩
  replace k0 := Blk.later hb k0
  have hB3 := belowThru hB2 hb
  have y0 := k0.lt
  clear a3 b3 a0 b0 hb k3
  obtain ⟨a0, b0⟩ := k0.read
  go_wp2
  exact bodyPost_ret (v := .tuple #[.int .u8 2, .int .i64 0]) (by simp only [results, Try.results41]; go_simp) rfl ⟨rfl, by (repeat' (first | (with_reducible exact Below.refl _ _) | (with_reducible assumption) | (with_reducible refine belowThru ?_ (by assumption)) | (with_reducible refine belowAlloc ?_) | (with_reducible refine Below.setCell ?_ (by first | omega | (simp; done) | (simp; omega)) _) | (with_reducible refine Below.drew ?_) | (with_reducible refine below_drewN ?_ _)))⟩
set_option maxRecDepth 100000 in
set_option maxHeartbeats 4000000 in
theorem dec_yes (s1 s2 s3 s4 l1 l2 h1 h2 : Int) (w : World)
    (H1 : Hid (∀ w, Calls Try.prog 66 #[.agg #[.int .i64 s1, .int .i64 s2, .int .i64 s3, .int .i64 s4]] w fun e w' => e = .returned (.int .i64 0) ∧ Below w.heap.size w w'))
    (H2 : Hid (∀ w, Calls Try.prog 66 #[.agg #[.int .i64 l1, .int .i64 l2, .int .i64 h1, .int .i64 h2]] w fun e w' => e = .returned (.int .i64 0) ∧ Below w.heap.size w w'))
    (HM : Hid (∀ w, Calls Try.prog 60 #[.agg #[.int .i64 s1, .int .i64 s2, .int .i64 s3, .int .i64 s4], .agg #[.int .i64 l1, .int .i64 l2, .int .i64 h1, .int .i64 h2]] w fun e w' => e = .returned (.tuple #[.agg #[.int .i64 s1, .int .i64 s2, .int .i64 s3, .int .i64 s4], .int .i64 0]) ∧ Below w.heap.size w w')) :
    Calls Try.prog 41 #[.agg #[.int .i64 s1, .int .i64 s2, .int .i64 s3, .int .i64 s4], .agg #[.int .i64 l1, .int .i64 l2], .agg #[.int .i64 h1, .int .i64 h2]] w fun e w' => e = .returned (.tuple #[.int .u8 1, .int .i64 0]) ∧ Below w.heap.size w w' := by
  go_enter Try.func41, Try.ntmps41
  go_wp2_with fail
  refine (H1.out _).mono ?_
  rintro e w1 ⟨rfl, hb⟩
  have k0 : Blk w1 w.heap.size #[.int .i64 s1, .int .i64 s2, .int .i64 s3, .int .i64 s4] 30 := Blk.later hb (by (repeat' (first | (with_reducible assumption) | (with_reducible refine Blk.set2 ?_) | ((with_reducible refine Blk.new ?_); first | rfl | (simp; done)) | (with_reducible refine Blk.later (by assumption) ?_) | (with_reducible refine Blk.alloc ?_) | (with_reducible refine Blk.drewN ?_) | (with_reducible refine Blk.drew ?_) | (with_reducible refine Blk.other ?_ (by first | omega | (simp; done) | (simp; omega))))))
  have k3 : Blk w1 (w.heap.size + 1 + 1 + 1) #[.int .i64 l1, .int .i64 l2, .int .i64 h1, .int .i64 h2] 30 := Blk.later hb (by (repeat' (first | (with_reducible assumption) | (with_reducible refine Blk.set2 ?_) | ((with_reducible refine Blk.new ?_); first | rfl | (simp; done)) | (with_reducible refine Blk.later (by assumption) ?_) | (with_reducible refine Blk.alloc ?_) | (with_reducible refine Blk.drewN ?_) | (with_reducible refine Blk.drew ?_) | (with_reducible refine Blk.other ?_ (by first | omega | (simp; done) | (simp; omega))))))
  obtain ⟨a3, b3⟩ := k3.read
  have hB1 : Below w.heap.size w w1 := by (repeat' (first | (with_reducible exact Below.refl _ _) | (with_reducible assumption) | (with_reducible refine belowThru ?_ (by assumption)) | (with_reducible refine belowAlloc ?_) | (with_reducible refine Below.setCell ?_ (by first | omega | (simp; done) | (simp; omega)) _) | (with_reducible refine Below.drew ?_) | (with_reducible refine below_drewN ?_ _)))
  clear hb
  go_wp2_with fail
  refine (H2.out _).mono ?_
  rintro e w2 ⟨rfl, hb⟩
  replace k0 := Blk.later hb k0
  replace k3 := Blk.later hb k3
  have hB2 := belowThru hB1 hb
  clear a3 b3 hB1 hb
  obtain ⟨a3, b3⟩ := k3.read
  obtain ⟨a0, b0⟩ := k0.read
  go_wp2_with fail
  refine (HM.out _).mono ?_
  rintro e w3 ⟨rfl, hb⟩
  replace k0 := Blk.later hb k0
  have hB3 := belowThru hB2 hb
  have y0 := k0.lt
  clear a3 b3 a0 b0 hb k3
  obtain ⟨a0, b0⟩ := k0.read
  go_wp2
  exact bodyPost_ret (v := .tuple #[.int .u8 1, .int .i64 0]) (by simp only [results, Try.results41]; go_simp) rfl ⟨rfl, by (repeat' (first | (with_reducible exact Below.refl _ _) | (with_reducible assumption) | (with_reducible refine belowThru ?_ (by assumption)) | (with_reducible refine belowAlloc ?_) | (with_reducible refine Below.setCell ?_ (by first | omega | (simp; done) | (simp; omega)) _) | (with_reducible refine Below.drew ?_) | (with_reducible refine below_drewN ?_ _)))⟩
set_option maxRecDepth 100000 in
set_option maxHeartbeats 4000000 in
theorem dec_open (s1 s2 s3 s4 l1 l2 h1 h2 A B C D : Int) (w : World) (hne : ¬ (A = s1 ∧ B = s2 ∧ C = s3 ∧ D = s4))
    (H1 : Hid (∀ w, Calls Try.prog 66 #[.agg #[.int .i64 s1, .int .i64 s2, .int .i64 s3, .int .i64 s4]] w fun e w' => e = .returned (.int .i64 0) ∧ Below w.heap.size w w'))
    (H2 : Hid (∀ w, Calls Try.prog 66 #[.agg #[.int .i64 l1, .int .i64 l2, .int .i64 h1, .int .i64 h2]] w fun e w' => e = .returned (.int .i64 0) ∧ Below w.heap.size w w'))
    (HM : Hid (∀ w, Calls Try.prog 60 #[.agg #[.int .i64 s1, .int .i64 s2, .int .i64 s3, .int .i64 s4], .agg #[.int .i64 l1, .int .i64 l2, .int .i64 h1, .int .i64 h2]] w fun e w' => e = .returned (.tuple #[.agg #[.int .i64 A, .int .i64 B, .int .i64 C, .int .i64 D], .int .i64 0]) ∧ Below w.heap.size w w')) :
    Calls Try.prog 41 #[.agg #[.int .i64 s1, .int .i64 s2, .int .i64 s3, .int .i64 s4], .agg #[.int .i64 l1, .int .i64 l2], .agg #[.int .i64 h1, .int .i64 h2]] w fun e w' => e = .returned (.tuple #[.int .u8 3, .int .i64 0]) ∧ Below w.heap.size w w' := by
  go_enter Try.func41, Try.ntmps41
  go_wp2_with fail
  refine (H1.out _).mono ?_
  rintro e w1 ⟨rfl, hb⟩
  have k0 : Blk w1 w.heap.size #[.int .i64 s1, .int .i64 s2, .int .i64 s3, .int .i64 s4] 30 := Blk.later hb (by (repeat' (first | (with_reducible assumption) | (with_reducible refine Blk.set2 ?_) | ((with_reducible refine Blk.new ?_); first | rfl | (simp; done)) | (with_reducible refine Blk.later (by assumption) ?_) | (with_reducible refine Blk.alloc ?_) | (with_reducible refine Blk.drewN ?_) | (with_reducible refine Blk.drew ?_) | (with_reducible refine Blk.other ?_ (by first | omega | (simp; done) | (simp; omega))))))
  have k3 : Blk w1 (w.heap.size + 1 + 1 + 1) #[.int .i64 l1, .int .i64 l2, .int .i64 h1, .int .i64 h2] 30 := Blk.later hb (by (repeat' (first | (with_reducible assumption) | (with_reducible refine Blk.set2 ?_) | ((with_reducible refine Blk.new ?_); first | rfl | (simp; done)) | (with_reducible refine Blk.later (by assumption) ?_) | (with_reducible refine Blk.alloc ?_) | (with_reducible refine Blk.drewN ?_) | (with_reducible refine Blk.drew ?_) | (with_reducible refine Blk.other ?_ (by first | omega | (simp; done) | (simp; omega))))))
  obtain ⟨a3, b3⟩ := k3.read
  have hB1 : Below w.heap.size w w1 := by (repeat' (first | (with_reducible exact Below.refl _ _) | (with_reducible assumption) | (with_reducible refine belowThru ?_ (by assumption)) | (with_reducible refine belowAlloc ?_) | (with_reducible refine Below.setCell ?_ (by first | omega | (simp; done) | (simp; omega)) _) | (with_reducible refine Below.drew ?_) | (with_reducible refine below_drewN ?_ _)))
  clear hb
  go_wp2_with fail
  refine (H2.out _).mono ?_
  rintro e w2 ⟨rfl, hb⟩
  replace k0 := Blk.later hb k0
  replace k3 := Blk.later hb k3
  have hB2 := belowThru hB1 hb
  clear a3 b3 hB1 hb
  obtain ⟨a3, b3⟩ := k3.read
  obtain ⟨a0, b0⟩ := k0.read
  go_wp2_with fail
  refine (HM.out _).mono ?_
  rintro e w3 ⟨rfl, hb⟩
  replace k0 := Blk.later hb k0
  have hB3 := belowThru hB2 hb
  have y0 := k0.lt
  clear a3 b3 a0 b0 hb k3
  obtain ⟨a0, b0⟩ := k0.read
  go_wp2
  all_goals exact bodyPost_ret (v := .tuple #[.int .u8 3, .int .i64 0]) (by simp only [results, Try.results41]; go_simp) rfl ⟨rfl, by (repeat' (first | (with_reducible exact Below.refl _ _) | (with_reducible assumption) | (with_reducible refine belowThru ?_ (by assumption)) | (with_reducible refine belowAlloc ?_) | (with_reducible refine Below.setCell ?_ (by first | omega | (simp; done) | (simp; omega)) _) | (with_reducible refine Below.drew ?_) | (with_reducible refine below_drewN ?_ _)))⟩
/-- The verdict for a span and a tolerance. -/
def deV (l h m n : Rat) : Int := if ¬ hiQ l [m] ≤ loQ h [n] then 2 else if m ≤ l ∧ h ≤ n then 1 else 3
theorem dec_q (l h m n : Rat) (fl : fits l) (fh : fits h) (fm : fits m) (fn' : fits n) (hlh : l ≤ h) (hmn : m ≤ n) (w : World) :
    Calls Try.prog 41 #[.agg #[.int .i64 (fn l), .int .i64 (fd l), .int .i64 (fn h), .int .i64 (fd h)], .agg #[.int .i64 (fn m), .int .i64 (fd m)], .agg #[.int .i64 (fn n), .int .i64 (fd n)]] w fun e w' => e = .returned (.tuple #[.int .u8 (deV l h m n), .int .i64 0]) ∧ Below w.heap.size w w' := by
  obtain ⟨A, B, C, D, E, HM, hm⟩ := meet_q l h m n fl fh fm fn' hlh hmn
  have H1 := fun w => checkSpan_any (fn l) (fd l) (fn h) (fd h) w
  have H2 := fun w => checkSpan_any (fn m) (fd m) (fn n) (fd n) w
  rw [ckS_ok fl fh hlh] at H1
  rw [ckS_ok fm fn' hmn] at H2
  unfold deV
  rcases hm with ⟨rfl, hn⟩ | ⟨rfl, hc, rfl, rfl, rfl, rfl⟩
  · rw [if_pos hn]
    exact dec_none _ _ _ _ _ _ _ _ A B C D w H1 H2 HM
  · rw [if_neg (fun k => k hc)]
    have e1 : m ≤ l → hiQ l [m] = l := fun k => by
      unfold hiQ; simp only [List.foldl_cons, List.foldl_nil]; exact if_neg (Rat.not_lt.2 k)
    have e2 : h ≤ n → loQ h [n] = h := fun k => by
      unfold loQ; simp only [List.foldl_cons, List.foldl_nil]; exact if_neg (Rat.not_lt.2 k)
    by_cases k : m ≤ l ∧ h ≤ n
    · rw [if_pos k]
      rw [e1 k.1, e2 k.2] at HM
      exact dec_yes _ _ _ _ _ _ _ _ w H1 H2 HM
    · rw [if_neg k]
      refine dec_open _ _ _ _ _ _ _ _ _ _ _ _ w (fun g => k ?_) H1 H2 HM
      have q1 : hiQ l [m] = l := q_ext g.1 g.2.1
      have q2 : loQ h [n] = h := q_ext g.2.2.1 g.2.2.2
      exact ⟨((hi1 l m l).1 (by rw [q1]; exact Rat.le_refl)).2, ((lo1 h n h).1 (by rw [q2]; exact Rat.le_refl)).2⟩
end Go.Proofs.Ytbcgebobfnclnaa
/-
  Layer 5: valid gauges, by the code.
-/
namespace Go.Proofs.Ytbcgebobfnclnaa
open Go.RowKit Go.Shelf
set_option linter.unusedVariables false
set_option linter.unusedSimpArgs false

/-- A fraction that a gauge may have. -/
def smF (a b : Int) : Prop := (-1000000 ≤ a ∧ a ≤ 1000000) ∧ b ≤ 1000000
/-- A valid gauge. -/
def okG (t n s1 s2 s3 s4 l1 l2 h1 h2 : Int) : Prop := okT t ∧ okN n ∧ okS s1 s2 s3 s4 ∧ okS l1 l2 h1 h2 ∧ 0 < s1 ∧ smF s1 s2 ∧ smF s3 s4 ∧ smF l1 l2 ∧ smF h1 h2
theorem idx_g (a b c d e f g h : Value) :
    (∀ w, (Instr.index 116 (.agg #[a, b, c, d, e, f, g, h]) (.int .i64 0)).run Try.prog w = .ok (.agg #[a, b]) w) ∧
    (∀ w, (Instr.index 116 (.agg #[a, b, c, d, e, f, g, h]) (.int .i64 1)).run Try.prog w = .ok (.agg #[c, d]) w) ∧
    (∀ w, (Instr.index 116 (.agg #[a, b, c, d, e, f, g, h]) (.int .i64 2)).run Try.prog w = .ok (.agg #[e, f]) w) ∧
    (∀ w, (Instr.index 116 (.agg #[a, b, c, d, e, f, g, h]) (.int .i64 3)).run Try.prog w = .ok (.agg #[g, h]) w) := by
  have hty : ∀ q, (Try.prog.types[23]'q).size = 2 := fun _ => by kernel_rfl
  refine ⟨fun w => ?_, fun w => ?_, fun w => ?_, fun w => ?_⟩ <;> simp [Instr.index, run_underlying Try.underlying116, asIntOf, go_sem, hty]
set_option maxRecDepth 100000 in
set_option maxHeartbeats 2000000 in
theorem ckG_1 (t n s1 s2 s3 s4 l1 l2 h1 h2 : Int) (w : World) (HT : Hid (∀ w, Calls Try.prog 86 #[.int .i64 t] w fun e w' => e = .returned (.bool false) ∧ w = w')) :
    Calls Try.prog 44 #[.agg #[.int .i64 t, .int .i64 n, .int .i64 s1, .int .i64 s2, .int .i64 s3, .int .i64 s4, .int .i64 l1, .int .i64 l2, .int .i64 h1, .int .i64 h2]] w fun e w' => e = .returned (.int .i64 8) ∧ Below w.heap.size w w' := by
  go_enter Try.func44, Try.ntmps44
  go_wp2_with fail
  refine (HT.out _).mono ?_
  rintro e w1 ⟨rfl, rfl⟩
  go_wp2
  go_ret
  exact ⟨rfl, by (repeat' (first | (with_reducible exact Below.refl _ _) | (with_reducible assumption) | (with_reducible refine belowThru ?_ (by assumption)) | (with_reducible refine belowAlloc ?_) | (with_reducible refine Below.setCell ?_ (by first | omega | (simp; done) | (simp; omega)) _) | (with_reducible refine Below.drew ?_) | (with_reducible refine below_drewN ?_ _)))⟩
set_option maxRecDepth 100000 in
set_option maxHeartbeats 2000000 in
theorem ckG_2 (t n s1 s2 s3 s4 l1 l2 h1 h2 : Int) (w : World) (HT : Hid (∀ w, Calls Try.prog 86 #[.int .i64 t] w fun e w' => e = .returned (.bool true) ∧ w = w')) (HN : Hid (∀ w, Calls Try.prog 87 #[.int .i64 n] w fun e w' => e = .returned (.bool false) ∧ w = w')) :
    Calls Try.prog 44 #[.agg #[.int .i64 t, .int .i64 n, .int .i64 s1, .int .i64 s2, .int .i64 s3, .int .i64 s4, .int .i64 l1, .int .i64 l2, .int .i64 h1, .int .i64 h2]] w fun e w' => e = .returned (.int .i64 8) ∧ Below w.heap.size w w' := by
  go_enter Try.func44, Try.ntmps44
  go_wp2_with fail
  refine (HT.out _).mono ?_
  rintro e w1 ⟨rfl, rfl⟩
  go_wp2_with fail
  refine (HN.out _).mono ?_
  rintro e w1 ⟨rfl, rfl⟩
  go_wp2
  go_ret
  exact ⟨rfl, by (repeat' (first | (with_reducible exact Below.refl _ _) | (with_reducible assumption) | (with_reducible refine belowThru ?_ (by assumption)) | (with_reducible refine belowAlloc ?_) | (with_reducible refine Below.setCell ?_ (by first | omega | (simp; done) | (simp; omega)) _) | (with_reducible refine Below.drew ?_) | (with_reducible refine below_drewN ?_ _)))⟩
set_option maxRecDepth 100000 in
set_option maxHeartbeats 2000000 in
theorem ckG_3 (t n s1 s2 s3 s4 l1 l2 h1 h2 : Int) (w : World) (HT : Hid (∀ w, Calls Try.prog 86 #[.int .i64 t] w fun e w' => e = .returned (.bool true) ∧ w = w')) (HN : Hid (∀ w, Calls Try.prog 87 #[.int .i64 n] w fun e w' => e = .returned (.bool true) ∧ w = w')) (H1 : Hid (∀ w, Calls Try.prog 66 #[.agg #[.int .i64 s1, .int .i64 s2, .int .i64 s3, .int .i64 s4]] w fun e w' => e = .returned (.int .i64 8) ∧ Below w.heap.size w w')) :
    Calls Try.prog 44 #[.agg #[.int .i64 t, .int .i64 n, .int .i64 s1, .int .i64 s2, .int .i64 s3, .int .i64 s4, .int .i64 l1, .int .i64 l2, .int .i64 h1, .int .i64 h2]] w fun e w' => e = .returned (.int .i64 8) ∧ Below w.heap.size w w' := by
  go_enter Try.func44, Try.ntmps44
  go_wp2_with fail
  refine (HT.out _).mono ?_
  rintro e w1 ⟨rfl, rfl⟩
  go_wp2_with fail
  refine (HN.out _).mono ?_
  rintro e w1 ⟨rfl, rfl⟩
  go_wp2_with fail
  refine (H1.out _).mono ?_
  rintro e w1 ⟨rfl, hb⟩
  have k0 : Blk w1 w.heap.size #[.int .i64 t, .int .i64 n, .int .i64 s1, .int .i64 s2, .int .i64 s3, .int .i64 s4, .int .i64 l1, .int .i64 l2, .int .i64 h1, .int .i64 h2] 41 := Blk.later hb (by (repeat' (first | (with_reducible assumption) | ((with_reducible refine Blk.new ?_); first | rfl | (simp; done)) | (with_reducible refine Blk.later (by assumption) ?_) | (with_reducible refine Blk.alloc ?_) | (with_reducible refine Blk.drewN ?_) | (with_reducible refine Blk.drew ?_) | (with_reducible refine Blk.other ?_ (by first | omega | (simp; done) | (simp; omega))))))
  obtain ⟨a0, b0⟩ := k0.read
  have hB1 : Below w.heap.size w w1 := by (repeat' (first | (with_reducible exact Below.refl _ _) | (with_reducible assumption) | (with_reducible refine belowThru ?_ (by assumption)) | (with_reducible refine belowAlloc ?_) | (with_reducible refine Below.setCell ?_ (by first | omega | (simp; done) | (simp; omega)) _) | (with_reducible refine Below.drew ?_) | (with_reducible refine below_drewN ?_ _)))
  clear hb
  go_wp2
  go_ret
  exact ⟨rfl, by (repeat' (first | (with_reducible exact Below.refl _ _) | (with_reducible assumption) | (with_reducible refine belowThru ?_ (by assumption)) | (with_reducible refine belowAlloc ?_) | (with_reducible refine Below.setCell ?_ (by first | omega | (simp; done) | (simp; omega)) _) | (with_reducible refine Below.drew ?_) | (with_reducible refine below_drewN ?_ _)))⟩
set_option maxRecDepth 100000 in
set_option maxHeartbeats 2000000 in
theorem ckG_4 (t n s1 s2 s3 s4 l1 l2 h1 h2 : Int) (w : World) (HT : Hid (∀ w, Calls Try.prog 86 #[.int .i64 t] w fun e w' => e = .returned (.bool true) ∧ w = w')) (HN : Hid (∀ w, Calls Try.prog 87 #[.int .i64 n] w fun e w' => e = .returned (.bool true) ∧ w = w')) (H1 : Hid (∀ w, Calls Try.prog 66 #[.agg #[.int .i64 s1, .int .i64 s2, .int .i64 s3, .int .i64 s4]] w fun e w' => e = .returned (.int .i64 0) ∧ Below w.heap.size w w')) (H2 : Hid (∀ w, Calls Try.prog 66 #[.agg #[.int .i64 l1, .int .i64 l2, .int .i64 h1, .int .i64 h2]] w fun e w' => e = .returned (.int .i64 8) ∧ Below w.heap.size w w')) :
    Calls Try.prog 44 #[.agg #[.int .i64 t, .int .i64 n, .int .i64 s1, .int .i64 s2, .int .i64 s3, .int .i64 s4, .int .i64 l1, .int .i64 l2, .int .i64 h1, .int .i64 h2]] w fun e w' => e = .returned (.int .i64 8) ∧ Below w.heap.size w w' := by
  go_enter Try.func44, Try.ntmps44
  go_wp2_with fail
  refine (HT.out _).mono ?_
  rintro e w1 ⟨rfl, rfl⟩
  go_wp2_with fail
  refine (HN.out _).mono ?_
  rintro e w1 ⟨rfl, rfl⟩
  go_wp2_with fail
  refine (H1.out _).mono ?_
  rintro e w1 ⟨rfl, hb⟩
  have k0 : Blk w1 w.heap.size #[.int .i64 t, .int .i64 n, .int .i64 s1, .int .i64 s2, .int .i64 s3, .int .i64 s4, .int .i64 l1, .int .i64 l2, .int .i64 h1, .int .i64 h2] 41 := Blk.later hb (by (repeat' (first | (with_reducible assumption) | ((with_reducible refine Blk.new ?_); first | rfl | (simp; done)) | (with_reducible refine Blk.later (by assumption) ?_) | (with_reducible refine Blk.alloc ?_) | (with_reducible refine Blk.drewN ?_) | (with_reducible refine Blk.drew ?_) | (with_reducible refine Blk.other ?_ (by first | omega | (simp; done) | (simp; omega))))))
  obtain ⟨a0, b0⟩ := k0.read
  have hB1 : Below w.heap.size w w1 := by (repeat' (first | (with_reducible exact Below.refl _ _) | (with_reducible assumption) | (with_reducible refine belowThru ?_ (by assumption)) | (with_reducible refine belowAlloc ?_) | (with_reducible refine Below.setCell ?_ (by first | omega | (simp; done) | (simp; omega)) _) | (with_reducible refine Below.drew ?_) | (with_reducible refine below_drewN ?_ _)))
  clear hb
  go_wp2_with fail
  refine (H2.out _).mono ?_
  rintro e w2 ⟨rfl, hb⟩
  replace k0 := Blk.later hb k0
  have hB2 := belowThru hB1 hb
  clear a0 b0 hB1 hb
  obtain ⟨a0, b0⟩ := k0.read
  go_wp2
  go_ret
  exact ⟨rfl, by (repeat' (first | (with_reducible exact Below.refl _ _) | (with_reducible assumption) | (with_reducible refine belowThru ?_ (by assumption)) | (with_reducible refine belowAlloc ?_) | (with_reducible refine Below.setCell ?_ (by first | omega | (simp; done) | (simp; omega)) _) | (with_reducible refine Below.drew ?_) | (with_reducible refine below_drewN ?_ _)))⟩
set_option maxRecDepth 100000 in
set_option maxHeartbeats 2000000 in
theorem ckG_5 (t n s1 s2 s3 s4 l1 l2 h1 h2 : Int) (w : World) (h : s1 ≤ 0) (HT : Hid (∀ w, Calls Try.prog 86 #[.int .i64 t] w fun e w' => e = .returned (.bool true) ∧ w = w')) (HN : Hid (∀ w, Calls Try.prog 87 #[.int .i64 n] w fun e w' => e = .returned (.bool true) ∧ w = w')) (H1 : Hid (∀ w, Calls Try.prog 66 #[.agg #[.int .i64 s1, .int .i64 s2, .int .i64 s3, .int .i64 s4]] w fun e w' => e = .returned (.int .i64 0) ∧ Below w.heap.size w w')) (H2 : Hid (∀ w, Calls Try.prog 66 #[.agg #[.int .i64 l1, .int .i64 l2, .int .i64 h1, .int .i64 h2]] w fun e w' => e = .returned (.int .i64 0) ∧ Below w.heap.size w w')) :
    Calls Try.prog 44 #[.agg #[.int .i64 t, .int .i64 n, .int .i64 s1, .int .i64 s2, .int .i64 s3, .int .i64 s4, .int .i64 l1, .int .i64 l2, .int .i64 h1, .int .i64 h2]] w fun e w' => e = .returned (.int .i64 8) ∧ Below w.heap.size w w' := by
  go_enter Try.func44, Try.ntmps44
  go_wp2_with fail
  refine (HT.out _).mono ?_
  rintro e w1 ⟨rfl, rfl⟩
  go_wp2_with fail
  refine (HN.out _).mono ?_
  rintro e w1 ⟨rfl, rfl⟩
  go_wp2_with fail
  refine (H1.out _).mono ?_
  rintro e w1 ⟨rfl, hb⟩
  have k0 : Blk w1 w.heap.size #[.int .i64 t, .int .i64 n, .int .i64 s1, .int .i64 s2, .int .i64 s3, .int .i64 s4, .int .i64 l1, .int .i64 l2, .int .i64 h1, .int .i64 h2] 41 := Blk.later hb (by (repeat' (first | (with_reducible assumption) | ((with_reducible refine Blk.new ?_); first | rfl | (simp; done)) | (with_reducible refine Blk.later (by assumption) ?_) | (with_reducible refine Blk.alloc ?_) | (with_reducible refine Blk.drewN ?_) | (with_reducible refine Blk.drew ?_) | (with_reducible refine Blk.other ?_ (by first | omega | (simp; done) | (simp; omega))))))
  obtain ⟨a0, b0⟩ := k0.read
  have hB1 : Below w.heap.size w w1 := by (repeat' (first | (with_reducible exact Below.refl _ _) | (with_reducible assumption) | (with_reducible refine belowThru ?_ (by assumption)) | (with_reducible refine belowAlloc ?_) | (with_reducible refine Below.setCell ?_ (by first | omega | (simp; done) | (simp; omega)) _) | (with_reducible refine Below.drew ?_) | (with_reducible refine below_drewN ?_ _)))
  clear hb
  go_wp2_with fail
  refine (H2.out _).mono ?_
  rintro e w2 ⟨rfl, hb⟩
  replace k0 := Blk.later hb k0
  have hB2 := belowThru hB1 hb
  clear a0 b0 hB1 hb
  obtain ⟨a0, b0⟩ := k0.read
  go_wp2
  go_ret
  exact ⟨rfl, by (repeat' (first | (with_reducible exact Below.refl _ _) | (with_reducible assumption) | (with_reducible refine belowThru ?_ (by assumption)) | (with_reducible refine belowAlloc ?_) | (with_reducible refine Below.setCell ?_ (by first | omega | (simp; done) | (simp; omega)) _) | (with_reducible refine Below.drew ?_) | (with_reducible refine below_drewN ?_ _)))⟩
def smG (s1 s2 s3 s4 l1 l2 h1 h2 : Int) (k : Int) : Prop := (0 < k → smF s1 s2) ∧ (1 < k → smF s3 s4) ∧ (2 < k → smF l1 l2) ∧ (3 < k → smF h1 h2)
set_option maxRecDepth 100000 in
set_option maxHeartbeats 8000000 in
theorem ckG_6 (t n s1 s2 s3 s4 l1 l2 h1 h2 : Int) (w : World) (h : 0 < s1) (HG : okT t ∧ okN n ∧ okS s1 s2 s3 s4 ∧ okS l1 l2 h1 h2 ∧ 0 < s1) (HT : Hid (∀ w, Calls Try.prog 86 #[.int .i64 t] w fun e w' => e = .returned (.bool true) ∧ w = w')) (HN : Hid (∀ w, Calls Try.prog 87 #[.int .i64 n] w fun e w' => e = .returned (.bool true) ∧ w = w')) (H1 : Hid (∀ w, Calls Try.prog 66 #[.agg #[.int .i64 s1, .int .i64 s2, .int .i64 s3, .int .i64 s4]] w fun e w' => e = .returned (.int .i64 0) ∧ Below w.heap.size w w')) (H2 : Hid (∀ w, Calls Try.prog 66 #[.agg #[.int .i64 l1, .int .i64 l2, .int .i64 h1, .int .i64 h2]] w fun e w' => e = .returned (.int .i64 0) ∧ Below w.heap.size w w')) :
    Calls Try.prog 44 #[.agg #[.int .i64 t, .int .i64 n, .int .i64 s1, .int .i64 s2, .int .i64 s3, .int .i64 s4, .int .i64 l1, .int .i64 l2, .int .i64 h1, .int .i64 h2]] w fun e w' => (okG t n s1 s2 s3 s4 l1 l2 h1 h2 ∧ e = .returned (.int .i64 0) ∨ ¬ okG t n s1 s2 s3 s4 l1 l2 h1 h2 ∧ e = .returned (.int .i64 8)) ∧ Below w.heap.size w w' := by
  replace HG := Lib.hid HG
  obtain ⟨x0, x1, x2, x3⟩ := idx_g (.int .i64 s1) (.int .i64 s2) (.int .i64 s3) (.int .i64 s4) (.int .i64 l1) (.int .i64 l2) (.int .i64 h1) (.int .i64 h2)
  go_enter Try.func44, Try.ntmps44
  go_wp2_with fail
  refine (HT.out _).mono ?_
  rintro e w1 ⟨rfl, rfl⟩
  go_wp2_with fail
  refine (HN.out _).mono ?_
  rintro e w1 ⟨rfl, rfl⟩
  go_wp2_with fail
  refine (H1.out _).mono ?_
  rintro e w1 ⟨rfl, hb⟩
  have k0 : Blk w1 w.heap.size #[.int .i64 t, .int .i64 n, .int .i64 s1, .int .i64 s2, .int .i64 s3, .int .i64 s4, .int .i64 l1, .int .i64 l2, .int .i64 h1, .int .i64 h2] 41 := Blk.later hb (by (repeat' (first | (with_reducible assumption) | ((with_reducible refine Blk.new ?_); first | rfl | (simp; done)) | (with_reducible refine Blk.later (by assumption) ?_) | (with_reducible refine Blk.alloc ?_) | (with_reducible refine Blk.drewN ?_) | (with_reducible refine Blk.drew ?_) | (with_reducible refine Blk.other ?_ (by first | omega | (simp; done) | (simp; omega))))))
  obtain ⟨a0, b0⟩ := k0.read
  have hB1 : Below w.heap.size w w1 := by (repeat' (first | (with_reducible exact Below.refl _ _) | (with_reducible assumption) | (with_reducible refine belowThru ?_ (by assumption)) | (with_reducible refine belowAlloc ?_) | (with_reducible refine Below.setCell ?_ (by first | omega | (simp; done) | (simp; omega)) _) | (with_reducible refine Below.drew ?_) | (with_reducible refine below_drewN ?_ _)))
  clear hb
  go_wp2_with fail
  refine (H2.out _).mono ?_
  rintro e w2 ⟨rfl, hb⟩
  replace k0 := Blk.later hb k0
  have hB2 := belowThru hB1 hb
  clear a0 b0 hB1 hb
  obtain ⟨a0, b0⟩ := k0.read
  go_wp2_with fail
  go_loopw [46] (fun i wr => ∃ k : Int, (0 ≤ k ∧ k ≤ 4) ∧ i = .int .i64 k ∧ Hid (smG s1 s2 s3 s4 l1 l2 h1 h2 k) ∧ Below w.heap.size w wr) (fun i _ => (4 - intOf i).toNat)
  case atStart => exact ⟨0, ⟨by omega, by omega⟩, rfl, (⟨fun h => absurd h (by omega), fun h => absurd h (by omega), fun h => absurd h (by omega), fun h => absurd h (by omega)⟩ : smG s1 s2 s3 s4 l1 l2 h1 h2 0), hB2⟩
  case round =>
    clear k0 a0 b0 hB2 HT HN H1 H2 h
    obtain ⟨k, ⟨hk0, hk4⟩, rfl, hd, hB⟩ := hrel
    have hk : k = 0 ∨ k = 1 ∨ k = 2 ∨ k = 3 ∨ k = 4 := by omega
    rcases hk with rfl | rfl | rfl | rfl | rfl
    · by_cases hs : smF s1 s2
      · have hd' : Hid (smG s1 s2 s3 s4 l1 l2 h1 h2 (0 + 1)) := (⟨fun _ => hs, fun h => absurd h (by omega), fun h => absurd h (by omega), fun h => absurd h (by omega)⟩ : smG s1 s2 s3 s4 l1 l2 h1 h2 (0 + 1))
        have HC := Lib.hid (gwithin_yes s1 (-1000000) 1000000 hs.1.1 hs.1.2)
        have hle : decide (1000000 < s2) = false := by have := hs.2; simp; omega
        have hle2 : s2 ≤ 1000000 := hs.2
        clear hs hd
        go_wp2_with ((go_at_call 79; (with_reducible refine (HC.out _).mono ?_); rintro e w1 ⟨rfl, rfl⟩))
        go_roundw
        case rel => exact ⟨0 + 1, ⟨by omega, by omega⟩, by go_num, hd', by (repeat' (first | (with_reducible exact Below.refl _ _) | (with_reducible assumption) | (with_reducible refine belowThru ?_ (by assumption)) | (with_reducible refine belowAlloc ?_) | (with_reducible refine Below.setCell ?_ (by first | omega | (simp; done) | (simp; omega)) _) | (with_reducible refine Below.drew ?_) | (with_reducible refine below_drewN ?_ _)))⟩
        case measure => simp [intOf]
      · have hno : Hid (¬ okG t n s1 s2 s3 s4 l1 l2 h1 h2) := (fun h => hs h.2.2.2.2.2.1 : ¬ okG t n s1 s2 s3 s4 l1 l2 h1 h2)
        by_cases h1' : -1000000 ≤ s1 ∧ s1 ≤ 1000000
        · have HC := Lib.hid (gwithin_yes s1 (-1000000) 1000000 h1'.1 h1'.2)
          have hgt : 1000000 < s2 := by rcases (show s2 ≤ 1000000 ∨ 1000000 < s2 by omega) with q | q; exact absurd ⟨h1', q⟩ hs; exact q
          clear hs hd h1'
          go_wp2_with ((go_at_call 79; (with_reducible refine (HC.out _).mono ?_); rintro e w1 ⟨rfl, rfl⟩))
          go_ret
          exact ⟨.inr ⟨hno.out, rfl⟩, by (repeat' (first | (with_reducible exact Below.refl _ _) | (with_reducible assumption) | (with_reducible refine belowThru ?_ (by assumption)) | (with_reducible refine belowAlloc ?_) | (with_reducible refine Below.setCell ?_ (by first | omega | (simp; done) | (simp; omega)) _) | (with_reducible refine Below.drew ?_) | (with_reducible refine below_drewN ?_ _)))⟩
        · have HC := Lib.hid (gwithin_no s1 (-1000000) 1000000 h1')
          clear hs hd h1'
          go_wp2_with ((go_at_call 79; (with_reducible refine (HC.out _).mono ?_); rintro e w1 ⟨rfl, rfl⟩))
          go_ret
          exact ⟨.inr ⟨hno.out, rfl⟩, by (repeat' (first | (with_reducible exact Below.refl _ _) | (with_reducible assumption) | (with_reducible refine belowThru ?_ (by assumption)) | (with_reducible refine belowAlloc ?_) | (with_reducible refine Below.setCell ?_ (by first | omega | (simp; done) | (simp; omega)) _) | (with_reducible refine Below.drew ?_) | (with_reducible refine below_drewN ?_ _)))⟩
    · by_cases hs : smF s3 s4
      · have hd' : Hid (smG s1 s2 s3 s4 l1 l2 h1 h2 (1 + 1)) := (⟨fun _ => hd.out.1 (by omega), fun _ => hs, fun h => absurd h (by omega), fun h => absurd h (by omega)⟩ : smG s1 s2 s3 s4 l1 l2 h1 h2 (1 + 1))
        have HC := Lib.hid (gwithin_yes s3 (-1000000) 1000000 hs.1.1 hs.1.2)
        have hle : decide (1000000 < s4) = false := by have := hs.2; simp; omega
        have hle2 : s4 ≤ 1000000 := hs.2
        clear hs hd
        go_wp2_with ((go_at_call 79; (with_reducible refine (HC.out _).mono ?_); rintro e w1 ⟨rfl, rfl⟩))
        go_roundw
        case rel => exact ⟨1 + 1, ⟨by omega, by omega⟩, by go_num, hd', by (repeat' (first | (with_reducible exact Below.refl _ _) | (with_reducible assumption) | (with_reducible refine belowThru ?_ (by assumption)) | (with_reducible refine belowAlloc ?_) | (with_reducible refine Below.setCell ?_ (by first | omega | (simp; done) | (simp; omega)) _) | (with_reducible refine Below.drew ?_) | (with_reducible refine below_drewN ?_ _)))⟩
        case measure => simp [intOf]
      · have hno : Hid (¬ okG t n s1 s2 s3 s4 l1 l2 h1 h2) := (fun h => hs h.2.2.2.2.2.2.1 : ¬ okG t n s1 s2 s3 s4 l1 l2 h1 h2)
        by_cases h1' : -1000000 ≤ s3 ∧ s3 ≤ 1000000
        · have HC := Lib.hid (gwithin_yes s3 (-1000000) 1000000 h1'.1 h1'.2)
          have hgt : 1000000 < s4 := by rcases (show s4 ≤ 1000000 ∨ 1000000 < s4 by omega) with q | q; exact absurd ⟨h1', q⟩ hs; exact q
          clear hs hd h1'
          go_wp2_with ((go_at_call 79; (with_reducible refine (HC.out _).mono ?_); rintro e w1 ⟨rfl, rfl⟩))
          go_ret
          exact ⟨.inr ⟨hno.out, rfl⟩, by (repeat' (first | (with_reducible exact Below.refl _ _) | (with_reducible assumption) | (with_reducible refine belowThru ?_ (by assumption)) | (with_reducible refine belowAlloc ?_) | (with_reducible refine Below.setCell ?_ (by first | omega | (simp; done) | (simp; omega)) _) | (with_reducible refine Below.drew ?_) | (with_reducible refine below_drewN ?_ _)))⟩
        · have HC := Lib.hid (gwithin_no s3 (-1000000) 1000000 h1')
          clear hs hd h1'
          go_wp2_with ((go_at_call 79; (with_reducible refine (HC.out _).mono ?_); rintro e w1 ⟨rfl, rfl⟩))
          go_ret
          exact ⟨.inr ⟨hno.out, rfl⟩, by (repeat' (first | (with_reducible exact Below.refl _ _) | (with_reducible assumption) | (with_reducible refine belowThru ?_ (by assumption)) | (with_reducible refine belowAlloc ?_) | (with_reducible refine Below.setCell ?_ (by first | omega | (simp; done) | (simp; omega)) _) | (with_reducible refine Below.drew ?_) | (with_reducible refine below_drewN ?_ _)))⟩
    · by_cases hs : smF l1 l2
      · have hd' : Hid (smG s1 s2 s3 s4 l1 l2 h1 h2 (2 + 1)) := (⟨fun _ => hd.out.1 (by omega), fun _ => hd.out.2.1 (by omega), fun _ => hs, fun h => absurd h (by omega)⟩ : smG s1 s2 s3 s4 l1 l2 h1 h2 (2 + 1))
        have HC := Lib.hid (gwithin_yes l1 (-1000000) 1000000 hs.1.1 hs.1.2)
        have hle : decide (1000000 < l2) = false := by have := hs.2; simp; omega
        have hle2 : l2 ≤ 1000000 := hs.2
        clear hs hd
        go_wp2_with ((go_at_call 79; (with_reducible refine (HC.out _).mono ?_); rintro e w1 ⟨rfl, rfl⟩))
        go_roundw
        case rel => exact ⟨2 + 1, ⟨by omega, by omega⟩, by go_num, hd', by (repeat' (first | (with_reducible exact Below.refl _ _) | (with_reducible assumption) | (with_reducible refine belowThru ?_ (by assumption)) | (with_reducible refine belowAlloc ?_) | (with_reducible refine Below.setCell ?_ (by first | omega | (simp; done) | (simp; omega)) _) | (with_reducible refine Below.drew ?_) | (with_reducible refine below_drewN ?_ _)))⟩
        case measure => simp [intOf]
      · have hno : Hid (¬ okG t n s1 s2 s3 s4 l1 l2 h1 h2) := (fun h => hs h.2.2.2.2.2.2.2.1 : ¬ okG t n s1 s2 s3 s4 l1 l2 h1 h2)
        by_cases h1' : -1000000 ≤ l1 ∧ l1 ≤ 1000000
        · have HC := Lib.hid (gwithin_yes l1 (-1000000) 1000000 h1'.1 h1'.2)
          have hgt : 1000000 < l2 := by rcases (show l2 ≤ 1000000 ∨ 1000000 < l2 by omega) with q | q; exact absurd ⟨h1', q⟩ hs; exact q
          clear hs hd h1'
          go_wp2_with ((go_at_call 79; (with_reducible refine (HC.out _).mono ?_); rintro e w1 ⟨rfl, rfl⟩))
          go_ret
          exact ⟨.inr ⟨hno.out, rfl⟩, by (repeat' (first | (with_reducible exact Below.refl _ _) | (with_reducible assumption) | (with_reducible refine belowThru ?_ (by assumption)) | (with_reducible refine belowAlloc ?_) | (with_reducible refine Below.setCell ?_ (by first | omega | (simp; done) | (simp; omega)) _) | (with_reducible refine Below.drew ?_) | (with_reducible refine below_drewN ?_ _)))⟩
        · have HC := Lib.hid (gwithin_no l1 (-1000000) 1000000 h1')
          clear hs hd h1'
          go_wp2_with ((go_at_call 79; (with_reducible refine (HC.out _).mono ?_); rintro e w1 ⟨rfl, rfl⟩))
          go_ret
          exact ⟨.inr ⟨hno.out, rfl⟩, by (repeat' (first | (with_reducible exact Below.refl _ _) | (with_reducible assumption) | (with_reducible refine belowThru ?_ (by assumption)) | (with_reducible refine belowAlloc ?_) | (with_reducible refine Below.setCell ?_ (by first | omega | (simp; done) | (simp; omega)) _) | (with_reducible refine Below.drew ?_) | (with_reducible refine below_drewN ?_ _)))⟩
    · by_cases hs : smF h1 h2
      · have hd' : Hid (smG s1 s2 s3 s4 l1 l2 h1 h2 (3 + 1)) := (⟨fun _ => hd.out.1 (by omega), fun _ => hd.out.2.1 (by omega), fun _ => hd.out.2.2.1 (by omega), fun _ => hs⟩ : smG s1 s2 s3 s4 l1 l2 h1 h2 (3 + 1))
        have HC := Lib.hid (gwithin_yes h1 (-1000000) 1000000 hs.1.1 hs.1.2)
        have hle : decide (1000000 < h2) = false := by have := hs.2; simp; omega
        have hle2 : h2 ≤ 1000000 := hs.2
        clear hs hd
        go_wp2_with ((go_at_call 79; (with_reducible refine (HC.out _).mono ?_); rintro e w1 ⟨rfl, rfl⟩))
        go_roundw
        case rel => exact ⟨3 + 1, ⟨by omega, by omega⟩, by go_num, hd', by (repeat' (first | (with_reducible exact Below.refl _ _) | (with_reducible assumption) | (with_reducible refine belowThru ?_ (by assumption)) | (with_reducible refine belowAlloc ?_) | (with_reducible refine Below.setCell ?_ (by first | omega | (simp; done) | (simp; omega)) _) | (with_reducible refine Below.drew ?_) | (with_reducible refine below_drewN ?_ _)))⟩
        case measure => simp [intOf]
      · have hno : Hid (¬ okG t n s1 s2 s3 s4 l1 l2 h1 h2) := (fun h => hs h.2.2.2.2.2.2.2.2 : ¬ okG t n s1 s2 s3 s4 l1 l2 h1 h2)
        by_cases h1' : -1000000 ≤ h1 ∧ h1 ≤ 1000000
        · have HC := Lib.hid (gwithin_yes h1 (-1000000) 1000000 h1'.1 h1'.2)
          have hgt : 1000000 < h2 := by rcases (show h2 ≤ 1000000 ∨ 1000000 < h2 by omega) with q | q; exact absurd ⟨h1', q⟩ hs; exact q
          clear hs hd h1'
          go_wp2_with ((go_at_call 79; (with_reducible refine (HC.out _).mono ?_); rintro e w1 ⟨rfl, rfl⟩))
          go_ret
          exact ⟨.inr ⟨hno.out, rfl⟩, by (repeat' (first | (with_reducible exact Below.refl _ _) | (with_reducible assumption) | (with_reducible refine belowThru ?_ (by assumption)) | (with_reducible refine belowAlloc ?_) | (with_reducible refine Below.setCell ?_ (by first | omega | (simp; done) | (simp; omega)) _) | (with_reducible refine Below.drew ?_) | (with_reducible refine below_drewN ?_ _)))⟩
        · have HC := Lib.hid (gwithin_no h1 (-1000000) 1000000 h1')
          clear hs hd h1'
          go_wp2_with ((go_at_call 79; (with_reducible refine (HC.out _).mono ?_); rintro e w1 ⟨rfl, rfl⟩))
          go_ret
          exact ⟨.inr ⟨hno.out, rfl⟩, by (repeat' (first | (with_reducible exact Below.refl _ _) | (with_reducible assumption) | (with_reducible refine belowThru ?_ (by assumption)) | (with_reducible refine belowAlloc ?_) | (with_reducible refine Below.setCell ?_ (by first | omega | (simp; done) | (simp; omega)) _) | (with_reducible refine Below.drew ?_) | (with_reducible refine below_drewN ?_ _)))⟩
    · have hyes : Hid (okG t n s1 s2 s3 s4 l1 l2 h1 h2) := (⟨HG.out.1, HG.out.2.1, HG.out.2.2.1, HG.out.2.2.2.1, HG.out.2.2.2.2, hd.out.1 (by omega), hd.out.2.1 (by omega), hd.out.2.2.1 (by omega), hd.out.2.2.2 (by omega)⟩ : okG t n s1 s2 s3 s4 l1 l2 h1 h2)
      go_wp2
      go_ret
      exact ⟨.inl ⟨hyes.out, rfl⟩, by (repeat' (first | (with_reducible exact Below.refl _ _) | (with_reducible assumption) | (with_reducible refine belowThru ?_ (by assumption)) | (with_reducible refine belowAlloc ?_) | (with_reducible refine Below.setCell ?_ (by first | omega | (simp; done) | (simp; omega)) _) | (with_reducible refine Below.drew ?_) | (with_reducible refine below_drewN ?_ _)))⟩
theorem ckG_any (t n s1 s2 s3 s4 l1 l2 h1 h2 : Int) (w : World) :
    Calls Try.prog 44 #[.agg #[.int .i64 t, .int .i64 n, .int .i64 s1, .int .i64 s2, .int .i64 s3, .int .i64 s4, .int .i64 l1, .int .i64 l2, .int .i64 h1, .int .i64 h2]] w fun e w' => (okG t n s1 s2 s3 s4 l1 l2 h1 h2 ∧ e = .returned (.int .i64 0) ∨ ¬ okG t n s1 s2 s3 s4 l1 l2 h1 h2 ∧ e = .returned (.int .i64 8)) ∧ Below w.heap.size w w' := by
  have HT := fun w => isThr_any t w
  have HN := fun w => isNoise_any n w
  by_cases ht : okT t
  · rw [decide_eq_true ht] at HT
    by_cases hn : okN n
    · rw [decide_eq_true hn] at HN
      have H1 := fun w => checkSpan_any s1 s2 s3 s4 w
      have H2 := fun w => checkSpan_any l1 l2 h1 h2 w
      rcases ckS_cases s1 s2 s3 s4 with ⟨k1, e1⟩ | ⟨k1, e1⟩
      · rw [e1] at H1
        rcases ckS_cases l1 l2 h1 h2 with ⟨k2, e2⟩ | ⟨k2, e2⟩
        · rw [e2] at H2
          by_cases hs : 0 < s1
          · exact ckG_6 t n s1 s2 s3 s4 l1 l2 h1 h2 w hs ⟨ht, hn, k1, k2, hs⟩ HT HN H1 H2
          · exact (ckG_5 t n s1 s2 s3 s4 l1 l2 h1 h2 w (by omega) HT HN H1 H2).mono fun e w' h => ⟨.inr ⟨fun g => hs g.2.2.2.2.1, h.1⟩, h.2⟩
        · rw [e2] at H2
          exact (ckG_4 t n s1 s2 s3 s4 l1 l2 h1 h2 w HT HN H1 H2).mono fun e w' h => ⟨.inr ⟨fun g => k2 g.2.2.2.1, h.1⟩, h.2⟩
      · rw [e1] at H1
        exact (ckG_3 t n s1 s2 s3 s4 l1 l2 h1 h2 w HT HN H1).mono fun e w' h => ⟨.inr ⟨fun g => k1 g.2.2.1, h.1⟩, h.2⟩
    · rw [decide_eq_false hn] at HN
      exact (ckG_2 t n s1 s2 s3 s4 l1 l2 h1 h2 w HT HN).mono fun e w' h => ⟨.inr ⟨fun g => hn g.2.1, h.1⟩, h.2⟩
  · rw [decide_eq_false ht] at HT
    exact (ckG_1 t n s1 s2 s3 s4 l1 l2 h1 h2 w HT).mono fun e w' h => ⟨.inr ⟨fun g => ht g.1, h.1⟩, h.2⟩
end Go.Proofs.Ytbcgebobfnclnaa
/-
  Layer 5: Measure, by the code.
-/
namespace Go.Proofs.Ytbcgebobfnclnaa
open Go.RowKit Go.Shelf
set_option linter.unusedVariables false
set_option linter.unusedSimpArgs false

set_option maxRecDepth 100000 in
set_option maxHeartbeats 4000000 in
theorem unm_any (t n s1 s2 s3 s4 l1 l2 h1 h2 : Int) (a : Option Addr) (m c : Nat) (zs : List Int) (hz : okP zs) (hT : okT t) (hN : okN n) (w : World) (hR : Row w a m (iv zs)) :
    Calls Try.prog 70 #[.agg #[.int .i64 t, .int .i64 n, .int .i64 s1, .int .i64 s2, .int .i64 s3, .int .i64 s4, .int .i64 l1, .int .i64 l2, .int .i64 h1, .int .i64 h2], .slice a m c] w fun e w' => e = .returned (.int .u8 (if (FX t (upL n zs) 0).isSome then 3 else 2)) ∧ Below w.heap.size w w' := by
  have hl : zs.length = m := by have := hR.1; rwa [iv_length] at this
  have hm : m ≤ maxLen := by have := hz.1.2; unfold maxLen; omega
  have HU := Lib.hid (fun w => up_ok a m c zs n hz hN w)
  have zu := upL_ok hz hN.1
  have HF : Hid (∀ (b : Nat) (w : World), Blk w b (ints (upL n zs)) 3 → Calls Try.prog 17 #[.slice (some ⟨b, 0, none⟩) m m, .int .i64 t, .int .i64 0] w fun e w' => e = .returned (.tuple #[.agg #[.int .i64 (oN (FX t (upL n zs) 0)), .int .i64 (oD (FX t (upL n zs) 0))], .int .i64 (if (FX t (upL n zs) 0).isSome then 0 else 6)]) ∧ Below w.heap.size w w') := fun b w hk => by
    have h := first_any (some ⟨b, 0, none⟩) m m (upL n zs) t 0 hm w (Row.of_ints (by rw [upL_length, hl]) hk)
    have i0 : inL (upL n zs) 0 := ⟨by omega, by have := zu.1.1; omega⟩
    rw [fiO_ok ⟨zu, hT, i0⟩, show fiE t (upL n zs) 0 = _ from asE_ok zu ⟨hT, i0⟩] at h
    exact h
  have HR := Lib.hid hR
  obtain ⟨A, hA⟩ : ∃ z, oN (FX t (upL n zs) 0) = z := ⟨_, rfl⟩
  obtain ⟨B, hB⟩ : ∃ z, oD (FX t (upL n zs) 0) = z := ⟨_, rfl⟩
  rw [hA, hB] at HF
  obtain ⟨b0, hb0⟩ : ∃ z, (FX t (upL n zs) 0).isSome = z := ⟨_, rfl⟩
  rw [hb0] at HF ⊢
  clear hR hz hT hN zu hl hm hA hB hb0
  cases b0
  all_goals
    go_enter Try.func70, Try.ntmps70
    go_wp2_with fail
    refine (HU.out _ (HR.out.later (by (repeat' (first | (with_reducible exact Below.refl _ _) | (with_reducible assumption) | (with_reducible refine belowThru ?_ (by assumption)) | (with_reducible refine belowAlloc ?_) | (with_reducible refine Below.setCell ?_ (by first | omega | (simp; done) | (simp; omega)) _) | (with_reducible refine Below.drew ?_) | (with_reducible refine below_drewN ?_ _)))))).mono ?_
    rintro e w1 ⟨bu, rfl, hbu, ku, hb⟩
    have k0 : Blk w1 w.heap.size #[.int .i64 t, .int .i64 n, .int .i64 s1, .int .i64 s2, .int .i64 s3, .int .i64 s4, .int .i64 l1, .int .i64 l2, .int .i64 h1, .int .i64 h2] 41 := Blk.later hb (by (repeat' (first | (with_reducible assumption) | ((with_reducible refine Blk.new ?_); first | rfl | (simp; done)) | (with_reducible refine Blk.later (by assumption) ?_) | (with_reducible refine Blk.alloc ?_) | (with_reducible refine Blk.drewN ?_) | (with_reducible refine Blk.drew ?_) | (with_reducible refine Blk.other ?_ (by first | omega | (simp; done) | (simp; omega))))))
    obtain ⟨a0, b0⟩ := k0.read
    have hB1 : Below w.heap.size w w1 := by (repeat' (first | (with_reducible exact Below.refl _ _) | (with_reducible assumption) | (with_reducible refine belowThru ?_ (by assumption)) | (with_reducible refine belowAlloc ?_) | (with_reducible refine Below.setCell ?_ (by first | omega | (simp; done) | (simp; omega)) _) | (with_reducible refine Below.drew ?_) | (with_reducible refine below_drewN ?_ _)))
    clear hb
    go_wp2_with fail
    refine (HF.out _ _ ku).mono ?_
    rintro e w2 ⟨rfl, hb⟩
    have hB2 := belowThru hB1 hb
    clear hb hB1
    go_wp2
    go_ret
    exact ⟨rfl, by (repeat' (first | (with_reducible exact Below.refl _ _) | (with_reducible assumption) | (with_reducible refine belowThru ?_ (by assumption)) | (with_reducible refine belowAlloc ?_) | (with_reducible refine Below.setCell ?_ (by first | omega | (simp; done) | (simp; omega)) _) | (with_reducible refine Below.drew ?_) | (with_reducible refine below_drewN ?_ _)))⟩
set_option maxRecDepth 100000 in
set_option maxHeartbeats 4000000 in
theorem mea_bad (t n s1 s2 s3 s4 l1 l2 h1 h2 : Int) (a : Option Addr) (m c : Nat) (w : World) (HC : Hid (∀ w, Calls Try.prog 44 #[.agg #[.int .i64 t, .int .i64 n, .int .i64 s1, .int .i64 s2, .int .i64 s3, .int .i64 s4, .int .i64 l1, .int .i64 l2, .int .i64 h1, .int .i64 h2]] w fun e w' => e = .returned (.int .i64 8) ∧ Below w.heap.size w w')) :
    Calls Try.prog 27 #[.agg #[.int .i64 t, .int .i64 n, .int .i64 s1, .int .i64 s2, .int .i64 s3, .int .i64 s4, .int .i64 l1, .int .i64 l2, .int .i64 h1, .int .i64 h2], .slice a m c] w fun e w' => e = .returned (.tuple #[.agg #[.int .i64 0, .int .i64 0, .int .i64 0, .int .i64 0], .int .u8 0, .int .i64 8]) ∧ Below w.heap.size w w' := by
  go_enter Try.func27, Try.ntmps27
  go_wp2_with fail
  refine (HC.out _).mono ?_
  rintro e w1 ⟨rfl, hb⟩
  have k0 : Blk w1 w.heap.size #[.int .i64 t, .int .i64 n, .int .i64 s1, .int .i64 s2, .int .i64 s3, .int .i64 s4, .int .i64 l1, .int .i64 l2, .int .i64 h1, .int .i64 h2] 41 := Blk.later hb (by (repeat' (first | (with_reducible assumption) | ((with_reducible refine Blk.new ?_); first | rfl | (simp; done)) | (with_reducible refine Blk.later (by assumption) ?_) | (with_reducible refine Blk.alloc ?_) | (with_reducible refine Blk.drewN ?_) | (with_reducible refine Blk.drew ?_) | (with_reducible refine Blk.other ?_ (by first | omega | (simp; done) | (simp; omega))))))
  have k1 : Blk w1 (w.heap.size + 1) #[.int .i64 0, .int .i64 0, .int .i64 0, .int .i64 0] 30 := Blk.later hb (by (repeat' (first | (with_reducible assumption) | ((with_reducible refine Blk.new ?_); first | rfl | (simp; done)) | (with_reducible refine Blk.later (by assumption) ?_) | (with_reducible refine Blk.alloc ?_) | (with_reducible refine Blk.drewN ?_) | (with_reducible refine Blk.drew ?_) | (with_reducible refine Blk.other ?_ (by first | omega | (simp; done) | (simp; omega))))))
  obtain ⟨a0, b0⟩ := k0.read
  obtain ⟨a1, b1⟩ := k1.read
  have hB1 : Below w.heap.size w w1 := by (repeat' (first | (with_reducible exact Below.refl _ _) | (with_reducible assumption) | (with_reducible refine belowThru ?_ (by assumption)) | (with_reducible refine belowAlloc ?_) | (with_reducible refine Below.setCell ?_ (by first | omega | (simp; done) | (simp; omega)) _) | (with_reducible refine Below.drew ?_) | (with_reducible refine below_drewN ?_ _)))
  clear hb
  go_wp2
  exact bodyPost_ret (v := .tuple #[.agg #[.int .i64 0, .int .i64 0, .int .i64 0, .int .i64 0], .int .u8 0, .int .i64 8]) (by simp only [results, Try.results27]; go_simp) rfl ⟨rfl, by (repeat' (first | (with_reducible exact Below.refl _ _) | (with_reducible assumption) | (with_reducible refine belowThru ?_ (by assumption)) | (with_reducible refine belowAlloc ?_) | (with_reducible refine Below.setCell ?_ (by first | omega | (simp; done) | (simp; omega)) _) | (with_reducible refine Below.drew ?_) | (with_reducible refine below_drewN ?_ _)))⟩
set_option maxRecDepth 100000 in
set_option maxHeartbeats 4000000 in
theorem mea_prof (t n s1 s2 s3 s4 l1 l2 h1 h2 : Int) (a : Option Addr) (m c : Nat) (zs : List Int) (W1 W2 W3 W4 E : Int) (hE1 : (E == 6) = false) (hE2 : (E != 0) = true) (w : World) (hR : Row w a m (iv zs)) (HC : Hid (∀ w, Calls Try.prog 44 #[.agg #[.int .i64 t, .int .i64 n, .int .i64 s1, .int .i64 s2, .int .i64 s3, .int .i64 s4, .int .i64 l1, .int .i64 l2, .int .i64 h1, .int .i64 h2]] w fun e w' => e = .returned (.int .i64 0) ∧ Below w.heap.size w w')) (HW : Hid (∀ w, Row w a m (iv zs) → Calls Try.prog 39 #[.slice a m c, .int .i64 t, .int .i64 n] w fun e w' => e = .returned (.tuple #[.agg #[.int .i64 W1, .int .i64 W2, .int .i64 W3, .int .i64 W4], .int .i64 E]) ∧ Below w.heap.size w w')) :
    Calls Try.prog 27 #[.agg #[.int .i64 t, .int .i64 n, .int .i64 s1, .int .i64 s2, .int .i64 s3, .int .i64 s4, .int .i64 l1, .int .i64 l2, .int .i64 h1, .int .i64 h2], .slice a m c] w fun e w' => e = .returned (.tuple #[.agg #[.int .i64 0, .int .i64 0, .int .i64 0, .int .i64 0], .int .u8 0, .int .i64 E]) ∧ Below w.heap.size w w' := by
  have HR := Lib.hid hR
  clear hR
  go_enter Try.func27, Try.ntmps27
  go_wp2_with fail
  refine (HC.out _).mono ?_
  rintro e w1 ⟨rfl, hb⟩
  have k0 : Blk w1 w.heap.size #[.int .i64 t, .int .i64 n, .int .i64 s1, .int .i64 s2, .int .i64 s3, .int .i64 s4, .int .i64 l1, .int .i64 l2, .int .i64 h1, .int .i64 h2] 41 := Blk.later hb (by (repeat' (first | (with_reducible assumption) | ((with_reducible refine Blk.new ?_); first | rfl | (simp; done)) | (with_reducible refine Blk.later (by assumption) ?_) | (with_reducible refine Blk.alloc ?_) | (with_reducible refine Blk.drewN ?_) | (with_reducible refine Blk.drew ?_) | (with_reducible refine Blk.other ?_ (by first | omega | (simp; done) | (simp; omega))))))
  have k1 : Blk w1 (w.heap.size + 1) #[.int .i64 0, .int .i64 0, .int .i64 0, .int .i64 0] 30 := Blk.later hb (by (repeat' (first | (with_reducible assumption) | ((with_reducible refine Blk.new ?_); first | rfl | (simp; done)) | (with_reducible refine Blk.later (by assumption) ?_) | (with_reducible refine Blk.alloc ?_) | (with_reducible refine Blk.drewN ?_) | (with_reducible refine Blk.drew ?_) | (with_reducible refine Blk.other ?_ (by first | omega | (simp; done) | (simp; omega))))))
  obtain ⟨a0, b0⟩ := k0.read
  obtain ⟨a1, b1⟩ := k1.read
  have hB1 : Below w.heap.size w w1 := by (repeat' (first | (with_reducible exact Below.refl _ _) | (with_reducible assumption) | (with_reducible refine belowThru ?_ (by assumption)) | (with_reducible refine belowAlloc ?_) | (with_reducible refine Below.setCell ?_ (by first | omega | (simp; done) | (simp; omega)) _) | (with_reducible refine Below.drew ?_) | (with_reducible refine below_drewN ?_ _)))
  clear hb
  go_wp2_with fail
  refine (HW.out _ (HR.out.later hB1)).mono ?_
  rintro e w2 ⟨rfl, hb⟩
  replace k0 := Blk.later hb k0
  replace k1 := Blk.later hb k1
  have hB2 := belowThru hB1 hb
  clear a0 b0 a1 b1 hb hB1
  obtain ⟨a0, b0⟩ := k0.read
  obtain ⟨a1, b1⟩ := k1.read
  have y0 := k0.lt
  have y1 := k1.lt
  go_wp2
  exact bodyPost_ret (v := .tuple #[.agg #[.int .i64 0, .int .i64 0, .int .i64 0, .int .i64 0], .int .u8 0, .int .i64 E]) (by simp only [results, Try.results27]; go_simp) rfl ⟨rfl, by (repeat' (first | (with_reducible exact Below.refl _ _) | (with_reducible assumption) | (with_reducible refine belowThru ?_ (by assumption)) | (with_reducible refine belowAlloc ?_) | (with_reducible refine Below.setCell ?_ (by first | omega | (simp; done) | (simp; omega)) _) | (with_reducible refine Below.drew ?_) | (with_reducible refine below_drewN ?_ _)))⟩
set_option maxRecDepth 100000 in
set_option maxHeartbeats 4000000 in
theorem mea_some (t n s1 s2 s3 s4 l1 l2 h1 h2 : Int) (a : Option Addr) (m c : Nat) (zs : List Int) (W1 W2 W3 W4 L1 L2 L3 L4 e1 V e2 : Int) (w : World) (hR : Row w a m (iv zs)) (HC : Hid (∀ w, Calls Try.prog 44 #[.agg #[.int .i64 t, .int .i64 n, .int .i64 s1, .int .i64 s2, .int .i64 s3, .int .i64 s4, .int .i64 l1, .int .i64 l2, .int .i64 h1, .int .i64 h2]] w fun e w' => e = .returned (.int .i64 0) ∧ Below w.heap.size w w')) (HW : Hid (∀ w, Row w a m (iv zs) → Calls Try.prog 39 #[.slice a m c, .int .i64 t, .int .i64 n] w fun e w' => e = .returned (.tuple #[.agg #[.int .i64 W1, .int .i64 W2, .int .i64 W3, .int .i64 W4], .int .i64 0]) ∧ Below w.heap.size w w')) (HM : Hid (∀ w, Calls Try.prog 71 #[.agg #[.int .i64 W1, .int .i64 W2, .int .i64 W3, .int .i64 W4], .agg #[.int .i64 s1, .int .i64 s2, .int .i64 s3, .int .i64 s4]] w fun e w' => e = .returned (.tuple #[.agg #[.int .i64 L1, .int .i64 L2, .int .i64 L3, .int .i64 L4], .int .i64 e1]) ∧ Below w.heap.size w w')) (HD : Hid (∀ w, Calls Try.prog 41 #[.agg #[.int .i64 L1, .int .i64 L2, .int .i64 L3, .int .i64 L4], .agg #[.int .i64 l1, .int .i64 l2], .agg #[.int .i64 h1, .int .i64 h2]] w fun e w' => e = .returned (.tuple #[.int .u8 V, .int .i64 e2]) ∧ Below w.heap.size w w')) :
    Calls Try.prog 27 #[.agg #[.int .i64 t, .int .i64 n, .int .i64 s1, .int .i64 s2, .int .i64 s3, .int .i64 s4, .int .i64 l1, .int .i64 l2, .int .i64 h1, .int .i64 h2], .slice a m c] w fun e w' => e = .returned (.tuple #[.agg #[.int .i64 L1, .int .i64 L2, .int .i64 L3, .int .i64 L4], .int .u8 V, .int .i64 0]) ∧ Below w.heap.size w w' := by
  have HR := Lib.hid hR
  clear hR
  go_enter Try.func27, Try.ntmps27
  go_wp2_with fail
  refine (HC.out _).mono ?_
  rintro e w1 ⟨rfl, hb⟩
  have k0 : Blk w1 w.heap.size #[.int .i64 t, .int .i64 n, .int .i64 s1, .int .i64 s2, .int .i64 s3, .int .i64 s4, .int .i64 l1, .int .i64 l2, .int .i64 h1, .int .i64 h2] 41 := Blk.later hb (by (repeat' (first | (with_reducible assumption) | ((with_reducible refine Blk.new ?_); first | rfl | (simp; done)) | (with_reducible refine Blk.later (by assumption) ?_) | (with_reducible refine Blk.alloc ?_) | (with_reducible refine Blk.drewN ?_) | (with_reducible refine Blk.drew ?_) | (with_reducible refine Blk.other ?_ (by first | omega | (simp; done) | (simp; omega))))))
  have k1 : Blk w1 (w.heap.size + 1) #[.int .i64 0, .int .i64 0, .int .i64 0, .int .i64 0] 30 := Blk.later hb (by (repeat' (first | (with_reducible assumption) | ((with_reducible refine Blk.new ?_); first | rfl | (simp; done)) | (with_reducible refine Blk.later (by assumption) ?_) | (with_reducible refine Blk.alloc ?_) | (with_reducible refine Blk.drewN ?_) | (with_reducible refine Blk.drew ?_) | (with_reducible refine Blk.other ?_ (by first | omega | (simp; done) | (simp; omega))))))
  obtain ⟨a0, b0⟩ := k0.read
  obtain ⟨a1, b1⟩ := k1.read
  have hB1 : Below w.heap.size w w1 := by (repeat' (first | (with_reducible exact Below.refl _ _) | (with_reducible assumption) | (with_reducible refine belowThru ?_ (by assumption)) | (with_reducible refine belowAlloc ?_) | (with_reducible refine Below.setCell ?_ (by first | omega | (simp; done) | (simp; omega)) _) | (with_reducible refine Below.drew ?_) | (with_reducible refine below_drewN ?_ _)))
  clear hb
  go_wp2_with fail
  refine (HW.out _ (HR.out.later hB1)).mono ?_
  rintro e w2 ⟨rfl, hb⟩
  replace k0 := Blk.later hb k0
  replace k1 := Blk.later hb k1
  have hB2 := belowThru hB1 hb
  clear a0 b0 a1 b1 hb hB1
  obtain ⟨a0, b0⟩ := k0.read
  obtain ⟨a1, b1⟩ := k1.read
  have y0 := k0.lt
  have y1 := k1.lt
  go_wp2_with fail
  refine (HM.out _).mono ?_
  rintro e w3 ⟨rfl, hb⟩
  replace k0 : Blk w3 w.heap.size #[.int .i64 t, .int .i64 n, .int .i64 s1, .int .i64 s2, .int .i64 s3, .int .i64 s4, .int .i64 l1, .int .i64 l2, .int .i64 h1, .int .i64 h2] 41 := Blk.later hb (by (repeat' (first | (with_reducible assumption) | ((with_reducible refine Blk.new ?_); first | rfl | (simp; done)) | (with_reducible refine Blk.later (by assumption) ?_) | (with_reducible refine Blk.alloc ?_) | (with_reducible refine Blk.drewN ?_) | (with_reducible refine Blk.drew ?_) | (with_reducible refine Blk.other ?_ (by first | omega | (simp; done) | (simp; omega))))))
  replace k1 : Blk w3 (w.heap.size + 1) #[.int .i64 0, .int .i64 0, .int .i64 0, .int .i64 0] 30 := Blk.later hb (by (repeat' (first | (with_reducible assumption) | ((with_reducible refine Blk.new ?_); first | rfl | (simp; done)) | (with_reducible refine Blk.later (by assumption) ?_) | (with_reducible refine Blk.alloc ?_) | (with_reducible refine Blk.drewN ?_) | (with_reducible refine Blk.drew ?_) | (with_reducible refine Blk.other ?_ (by first | omega | (simp; done) | (simp; omega))))))
  have hB3 : Below w.heap.size w w3 := by (repeat' (first | (with_reducible exact Below.refl _ _) | (with_reducible assumption) | (with_reducible refine belowThru ?_ (by assumption)) | (with_reducible refine belowAlloc ?_) | (with_reducible refine Below.setCell ?_ (by first | omega | (simp; done) | (simp; omega)) _) | (with_reducible refine Below.drew ?_) | (with_reducible refine below_drewN ?_ _)))
  clear a0 b0 a1 b1 hb hB2
  obtain ⟨a0, b0⟩ := k0.read
  obtain ⟨a1, b1⟩ := k1.read
  have y2 := k0.lt
  have y3 := k1.lt
  go_wp2_with fail
  refine (HD.out _).mono ?_
  rintro e w4 ⟨rfl, hb⟩
  replace k1 : Blk w4 (w.heap.size + 1) #[.int .i64 0, .int .i64 0, .int .i64 0, .int .i64 0] 30 := Blk.later hb (by (repeat' (first | (with_reducible assumption) | ((with_reducible refine Blk.new ?_); first | rfl | (simp; done)) | (with_reducible refine Blk.later (by assumption) ?_) | (with_reducible refine Blk.alloc ?_) | (with_reducible refine Blk.drewN ?_) | (with_reducible refine Blk.drew ?_) | (with_reducible refine Blk.other ?_ (by first | omega | (simp; done) | (simp; omega))))))
  have k2 : Blk w4 w3.heap.size #[.int .i64 L1, .int .i64 L2, .int .i64 L3, .int .i64 L4] 30 := Blk.later hb (by (repeat' (first | (with_reducible assumption) | (with_reducible refine Blk.set2 ?_) | ((with_reducible refine Blk.new ?_); first | rfl | (simp; done)) | (with_reducible refine Blk.later (by assumption) ?_) | (with_reducible refine Blk.alloc ?_) | (with_reducible refine Blk.drewN ?_) | (with_reducible refine Blk.drew ?_) | (with_reducible refine Blk.other ?_ (by first | omega | (simp; done) | (simp; omega))))))
  have hB4 : Below w.heap.size w w4 := by (repeat' (first | (with_reducible exact Below.refl _ _) | (with_reducible assumption) | (with_reducible refine belowThru ?_ (by assumption)) | (with_reducible refine belowAlloc ?_) | (with_reducible refine Below.setCell ?_ (by first | omega | (simp; done) | (simp; omega)) _) | (with_reducible refine Below.drew ?_) | (with_reducible refine below_drewN ?_ _)))
  clear a0 b0 a1 b1 hb hB3
  obtain ⟨a1, b1⟩ := k1.read
  obtain ⟨a2, b2⟩ := k2.read
  have y4 := k1.lt
  have y5 := k2.lt
  go_wp2
  exact bodyPost_ret (v := .tuple #[.agg #[.int .i64 L1, .int .i64 L2, .int .i64 L3, .int .i64 L4], .int .u8 V, .int .i64 0]) (by simp only [results, Try.results27]; go_simp) rfl ⟨rfl, by (repeat' (first | (with_reducible exact Below.refl _ _) | (with_reducible assumption) | (with_reducible refine belowThru ?_ (by assumption)) | (with_reducible refine belowAlloc ?_) | (with_reducible refine Below.setCell ?_ (by first | omega | (simp; done) | (simp; omega)) _) | (with_reducible refine Below.drew ?_) | (with_reducible refine below_drewN ?_ _)))⟩
set_option maxRecDepth 100000 in
set_option maxHeartbeats 4000000 in
theorem mea_none (t n s1 s2 s3 s4 l1 l2 h1 h2 : Int) (a : Option Addr) (m c : Nat) (zs : List Int) (W1 W2 W3 W4 V : Int) (w : World) (hR : Row w a m (iv zs)) (HC : Hid (∀ w, Calls Try.prog 44 #[.agg #[.int .i64 t, .int .i64 n, .int .i64 s1, .int .i64 s2, .int .i64 s3, .int .i64 s4, .int .i64 l1, .int .i64 l2, .int .i64 h1, .int .i64 h2]] w fun e w' => e = .returned (.int .i64 0) ∧ Below w.heap.size w w')) (HW : Hid (∀ w, Row w a m (iv zs) → Calls Try.prog 39 #[.slice a m c, .int .i64 t, .int .i64 n] w fun e w' => e = .returned (.tuple #[.agg #[.int .i64 W1, .int .i64 W2, .int .i64 W3, .int .i64 W4], .int .i64 6]) ∧ Below w.heap.size w w')) (HP : Hid (∀ w, Row w a m (iv zs) → Calls Try.prog 70 #[.agg #[.int .i64 t, .int .i64 n, .int .i64 s1, .int .i64 s2, .int .i64 s3, .int .i64 s4, .int .i64 l1, .int .i64 l2, .int .i64 h1, .int .i64 h2], .slice a m c] w fun e w' => e = .returned (.int .u8 V) ∧ Below w.heap.size w w')) :
    Calls Try.prog 27 #[.agg #[.int .i64 t, .int .i64 n, .int .i64 s1, .int .i64 s2, .int .i64 s3, .int .i64 s4, .int .i64 l1, .int .i64 l2, .int .i64 h1, .int .i64 h2], .slice a m c] w fun e w' => e = .returned (.tuple #[.agg #[.int .i64 0, .int .i64 1, .int .i64 0, .int .i64 1], .int .u8 V, .int .i64 0]) ∧ Below w.heap.size w w' := by
  have HR := Lib.hid hR
  clear hR
  go_enter Try.func27, Try.ntmps27
  go_wp2_with fail
  refine (HC.out _).mono ?_
  rintro e w1 ⟨rfl, hb⟩
  have k0 : Blk w1 w.heap.size #[.int .i64 t, .int .i64 n, .int .i64 s1, .int .i64 s2, .int .i64 s3, .int .i64 s4, .int .i64 l1, .int .i64 l2, .int .i64 h1, .int .i64 h2] 41 := Blk.later hb (by (repeat' (first | (with_reducible assumption) | ((with_reducible refine Blk.new ?_); first | rfl | (simp; done)) | (with_reducible refine Blk.later (by assumption) ?_) | (with_reducible refine Blk.alloc ?_) | (with_reducible refine Blk.drewN ?_) | (with_reducible refine Blk.drew ?_) | (with_reducible refine Blk.other ?_ (by first | omega | (simp; done) | (simp; omega))))))
  have k1 : Blk w1 (w.heap.size + 1) #[.int .i64 0, .int .i64 0, .int .i64 0, .int .i64 0] 30 := Blk.later hb (by (repeat' (first | (with_reducible assumption) | ((with_reducible refine Blk.new ?_); first | rfl | (simp; done)) | (with_reducible refine Blk.later (by assumption) ?_) | (with_reducible refine Blk.alloc ?_) | (with_reducible refine Blk.drewN ?_) | (with_reducible refine Blk.drew ?_) | (with_reducible refine Blk.other ?_ (by first | omega | (simp; done) | (simp; omega))))))
  obtain ⟨a0, b0⟩ := k0.read
  obtain ⟨a1, b1⟩ := k1.read
  have hB1 : Below w.heap.size w w1 := by (repeat' (first | (with_reducible exact Below.refl _ _) | (with_reducible assumption) | (with_reducible refine belowThru ?_ (by assumption)) | (with_reducible refine belowAlloc ?_) | (with_reducible refine Below.setCell ?_ (by first | omega | (simp; done) | (simp; omega)) _) | (with_reducible refine Below.drew ?_) | (with_reducible refine below_drewN ?_ _)))
  clear hb
  go_wp2_with fail
  refine (HW.out _ (HR.out.later hB1)).mono ?_
  rintro e w2 ⟨rfl, hb⟩
  replace k0 := Blk.later hb k0
  replace k1 := Blk.later hb k1
  have hB2 := belowThru hB1 hb
  clear a0 b0 a1 b1 hb hB1
  obtain ⟨a0, b0⟩ := k0.read
  obtain ⟨a1, b1⟩ := k1.read
  have y0 := k0.lt
  have y1 := k1.lt
  have hmx : Try.prog.follows .mixedOrders = true := by kernel_rfl
  go_wp2_with fail
  obtain ⟨W0, hW0⟩ : ∃ W0, w2.alloc (.cells #[.int .i64 W1, .int .i64 W2, .int .i64 W3, .int .i64 W4] 30) = W0 := ⟨_, rfl⟩
  replace k0 : Blk W0 w.heap.size #[.int .i64 t, .int .i64 n, .int .i64 s1, .int .i64 s2, .int .i64 s3, .int .i64 s4, .int .i64 l1, .int .i64 l2, .int .i64 h1, .int .i64 h2] 41 := by rw [← hW0]; (repeat' (first | (with_reducible assumption) | ((with_reducible refine Blk.new ?_); first | rfl | (simp; done)) | (with_reducible refine Blk.later (by assumption) ?_) | (with_reducible refine Blk.alloc ?_) | (with_reducible refine Blk.drewN ?_) | (with_reducible refine Blk.drew ?_) | (with_reducible refine Blk.other ?_ (by first | omega | (simp; done) | (simp; omega)))))
  replace k1 : Blk W0 (w.heap.size + 1) #[.int .i64 0, .int .i64 0, .int .i64 0, .int .i64 0] 30 := by rw [← hW0]; (repeat' (first | (with_reducible assumption) | ((with_reducible refine Blk.new ?_); first | rfl | (simp; done)) | (with_reducible refine Blk.later (by assumption) ?_) | (with_reducible refine Blk.alloc ?_) | (with_reducible refine Blk.drewN ?_) | (with_reducible refine Blk.drew ?_) | (with_reducible refine Blk.other ?_ (by first | omega | (simp; done) | (simp; omega)))))
  have hB0 : Below w.heap.size w W0 := by rw [← hW0]; (repeat' (first | (with_reducible exact Below.refl _ _) | (with_reducible assumption) | (with_reducible refine belowThru ?_ (by assumption)) | (with_reducible refine belowAlloc ?_) | (with_reducible refine Below.setCell ?_ (by first | omega | (simp; done) | (simp; omega)) _) | (with_reducible refine Below.drew ?_) | (with_reducible refine below_drewN ?_ _)))
  rw [hW0]
  clear hW0 a0 b0 a1 b1 hB2
  have HO := Lib.hid (only_any 0)
  refine wp_region_held_drew (S := fun w' => (Blk w' w.heap.size #[.int .i64 t, .int .i64 n, .int .i64 s1, .int .i64 s2, .int .i64 s3, .int .i64 s4, .int .i64 l1, .int .i64 l2, .int .i64 h1, .int .i64 h2] 41 ∧ (∀ i : Nat, w'.cell? ⟨w.heap.size, i, none⟩ = (#[.int .i64 t, .int .i64 n, .int .i64 s1, .int .i64 s2, .int .i64 s3, .int .i64 s4, .int .i64 l1, .int .i64 l2, .int .i64 h1, .int .i64 h2] : Array Value)[i]?)) ∧ Below w.heap.size w w') hmx ⟨k0.drew.full, hB0.drew⟩ (fun hHeld => ?_)
  refine wpAnyH_take (i := 1) (v := ?_) rfl (by kernel_rfl) (by kernel_rfl) (by kernel_rfl) (fun _ _ _ h => h) (Or.inl ⟨by rfl, ?hT0⟩) (by assumption) ?_
  case hT0 => ((intro w hSw; (try dsimp only at hSw); go_simp); try (with_reducible rfl))
  try simp only [Act.put, List.setIfInBounds_toArray, List.set_cons_zero, List.set_cons_succ]
  refine wpAnyH_take (i := 2) (v := ?_) rfl (by kernel_rfl) (by kernel_rfl) (by kernel_rfl) (fun _ _ _ h => h) (Or.inl ⟨by rfl, ?hT1⟩) (by assumption) ?_
  case hT1 => ((intro w hSw; (try dsimp only at hSw); go_simp); try (with_reducible rfl))
  try simp only [Act.put, List.setIfInBounds_toArray, List.set_cons_zero, List.set_cons_succ]
  refine wpAnyH_ready (rs := [0]) (by kernel_rfl) (by simp) ?_
  refine AllReadyH.cons rfl (fun K hK => ?_) AllReadyH.nil
  go_simp
  refine (HO.out _).mono ?_
  rintro e wA ⟨rfl, hb⟩
  have q1 := Blk.later hb k1.drew
  refine hK.out _ _ ?_ (fun hHeldN => ?_)
  · (try dsimp only); (((first | (apply hold1; (focus assumption); intro p0 pB) | skip); refine ⟨Blk.full ?_, ?_⟩; all_goals (first | ((repeat' (first | (with_reducible assumption) | ((with_reducible refine Blk.new ?_); first | rfl | (simp; done)) | (with_reducible refine Blk.later (by assumption) ?_) | (with_reducible refine Blk.alloc ?_) | (with_reducible refine Blk.drewN ?_) | (with_reducible refine Blk.drew ?_) | (with_reducible refine Blk.other ?_ (by first | omega | (simp; done) | (simp; omega))))); done) | ((repeat' (first | (with_reducible exact Below.refl _ _) | (with_reducible assumption) | (with_reducible refine belowThru ?_ (by assumption)) | (with_reducible refine belowAlloc ?_) | (with_reducible refine Below.setCell ?_ (by first | omega | (simp; done) | (simp; omega)) _) | (with_reducible refine Below.drew ?_) | (with_reducible refine below_drewN ?_ _))); done))))
  clear hK K hHeld
  have hHeld := hHeldN
  clear hHeldN
  try simp only [Act.put, List.setIfInBounds_toArray, List.set_cons_zero, List.set_cons_succ]
  have hBA := hHeld.2
  clear hb
  refine wpAnyH_ready (rs := [3]) (by kernel_rfl) (by simp) ?_
  refine AllReadyH.cons rfl (fun K hK => ?_) AllReadyH.nil
  go_simp
  refine (HP.out _ (HR.out.later hBA)).mono ?_
  rintro e wD ⟨rfl, hb⟩
  replace q1 := Blk.later hb q1
  refine hK.out _ _ ?_ (fun hHeldN => ?_)
  · (try dsimp only); (((first | (apply hold1; (focus assumption); intro p0 pB) | skip); refine ⟨Blk.full ?_, ?_⟩; all_goals (first | ((repeat' (first | (with_reducible assumption) | ((with_reducible refine Blk.new ?_); first | rfl | (simp; done)) | (with_reducible refine Blk.later (by assumption) ?_) | (with_reducible refine Blk.alloc ?_) | (with_reducible refine Blk.drewN ?_) | (with_reducible refine Blk.drew ?_) | (with_reducible refine Blk.other ?_ (by first | omega | (simp; done) | (simp; omega))))); done) | ((repeat' (first | (with_reducible exact Below.refl _ _) | (with_reducible assumption) | (with_reducible refine belowThru ?_ (by assumption)) | (with_reducible refine belowAlloc ?_) | (with_reducible refine Below.setCell ?_ (by first | omega | (simp; done) | (simp; omega)) _) | (with_reducible refine Below.drew ?_) | (with_reducible refine below_drewN ?_ _))); done))))
  clear hK K hHeld
  have hHeld := hHeldN
  clear hHeldN
  try simp only [Act.put, List.setIfInBounds_toArray, List.set_cons_zero, List.set_cons_succ]
  clear hb
  obtain ⟨r0, s0⟩ := q1.read
  refine wpAnyH_ready (rs := [4]) (by kernel_rfl) (by simp) ?_
  refine AllReadyH.cons rfl (fun K hK => ?_) AllReadyH.nil
  go_simp
  refine hK.out _ _ ?_ (fun hHeldN => ?_)
  · (try dsimp only); (((first | (apply hold1; (focus assumption); intro p0 pB) | skip); refine ⟨Blk.full ?_, ?_⟩; all_goals (first | ((repeat' (first | (with_reducible assumption) | ((with_reducible refine Blk.new ?_); first | rfl | (simp; done)) | (with_reducible refine Blk.later (by assumption) ?_) | (with_reducible refine Blk.alloc ?_) | (with_reducible refine Blk.drewN ?_) | (with_reducible refine Blk.drew ?_) | (with_reducible refine Blk.other ?_ (by first | omega | (simp; done) | (simp; omega))))); done) | ((repeat' (first | (with_reducible exact Below.refl _ _) | (with_reducible assumption) | (with_reducible refine belowThru ?_ (by assumption)) | (with_reducible refine belowAlloc ?_) | (with_reducible refine Below.setCell ?_ (by first | omega | (simp; done) | (simp; omega)) _) | (with_reducible refine Below.drew ?_) | (with_reducible refine below_drewN ?_ _))); done))))
  clear hK K hHeld
  have hHeld := hHeldN
  clear hHeldN
  try simp only [Act.put, List.setIfInBounds_toArray, List.set_cons_zero, List.set_cons_succ]
  refine wpAnyH_ready (rs := [5]) (by kernel_rfl) (by simp) ?_
  refine AllReadyH.cons rfl (fun K hK => ?_) AllReadyH.nil
  go_simp
  refine hK.out _ _ ?_ (fun hHeldN => ?_)
  · (try dsimp only); (((first | (apply hold1; (focus assumption); intro p0 pB) | skip); refine ⟨Blk.full ?_, ?_⟩; all_goals (first | ((repeat' (first | (with_reducible assumption) | ((with_reducible refine Blk.new ?_); first | rfl | (simp; done)) | (with_reducible refine Blk.later (by assumption) ?_) | (with_reducible refine Blk.alloc ?_) | (with_reducible refine Blk.drewN ?_) | (with_reducible refine Blk.drew ?_) | (with_reducible refine Blk.other ?_ (by first | omega | (simp; done) | (simp; omega))))); done) | ((repeat' (first | (with_reducible exact Below.refl _ _) | (with_reducible assumption) | (with_reducible refine belowThru ?_ (by assumption)) | (with_reducible refine belowAlloc ?_) | (with_reducible refine Below.setCell ?_ (by first | omega | (simp; done) | (simp; omega)) _) | (with_reducible refine Below.drew ?_) | (with_reducible refine below_drewN ?_ _))); done))))
  clear hK K hHeld
  have hHeld := hHeldN
  clear hHeldN
  try simp only [Act.put, List.setIfInBounds_toArray, List.set_cons_zero, List.set_cons_succ]
  refine wpAnyH_ready (rs := [6]) (by kernel_rfl) (by simp) ?_
  refine AllReadyH.cons rfl (fun K hK => ?_) AllReadyH.nil
  go_simp
  refine hK.out _ _ ?_ (fun hHeldN => ?_)
  · (try dsimp only); (((first | (apply hold1; (focus assumption); intro p0 pB) | skip); refine ⟨Blk.full ?_, ?_⟩; all_goals (first | ((repeat' (first | (with_reducible assumption) | ((with_reducible refine Blk.new ?_); first | rfl | (simp; done)) | (with_reducible refine Blk.later (by assumption) ?_) | (with_reducible refine Blk.alloc ?_) | (with_reducible refine Blk.drewN ?_) | (with_reducible refine Blk.drew ?_) | (with_reducible refine Blk.other ?_ (by first | omega | (simp; done) | (simp; omega))))); done) | ((repeat' (first | (with_reducible exact Below.refl _ _) | (with_reducible assumption) | (with_reducible refine belowThru ?_ (by assumption)) | (with_reducible refine belowAlloc ?_) | (with_reducible refine Below.setCell ?_ (by first | omega | (simp; done) | (simp; omega)) _) | (with_reducible refine Below.drew ?_) | (with_reducible refine below_drewN ?_ _))); done))))
  clear hK K hHeld
  have hHeld := hHeldN
  clear hHeldN
  try simp only [Act.put, List.setIfInBounds_toArray, List.set_cons_zero, List.set_cons_succ]
  refine wpAnyH_done (by kernel_rfl) ?_ _
  obtain ⟨-, qB⟩ := hHeld
  have q2 : Blk ((((wD.setCell ⟨w.heap.size + 1, 0, none⟩ (.int .i64 0)).setCell ⟨w.heap.size + 1, 1, none⟩ (.int .i64 1)).setCell ⟨w.heap.size + 1, 2, none⟩ (.int .i64 0)).setCell ⟨w.heap.size + 1, 3, none⟩ (.int .i64 1)) (w.heap.size + 1) #[.int .i64 0, .int .i64 1, .int .i64 0, .int .i64 1] 30 := Blk.set (Blk.set (Blk.set (Blk.set q1)))
  obtain ⟨r1, s1⟩ := q2.read
  go_wp2
  exact bodyPost_ret (v := .tuple #[.agg #[.int .i64 0, .int .i64 1, .int .i64 0, .int .i64 1], .int .u8 V, .int .i64 0]) (by simp only [results, Try.results27]; go_simp) rfl ⟨rfl, qB⟩
end Go.Proofs.Ytbcgebobfnclnaa
/-
  Layer 5: Measure for any arguments.
-/
namespace Go.Proofs.Ytbcgebobfnclnaa
open Go.RowKit Go.Shelf
set_option linter.unusedVariables false
set_option linter.unusedSimpArgs false

theorem mul_small {x s : Rat} (h1 : -4161600 ≤ fn x ∧ fn x ≤ 4161600 ∧ fd x ≤ 65025) (h2 : smF (fn s) (fd s)) : fits (x * s) := by
  have dx := fd_pos x; have ds := fd_pos s
  have e : x * s = mkR (fn x * fn s) (fd x * fd s) := by
    have hx := mkR_self x; have hs := mkR_self s
    rw [mkR_div] at hx hs
    rw [mkR_div, Rat.intCast_mul, Rat.intCast_mul]
    have := int_pos (show 0 < fd x by omega); have := int_pos (show 0 < fd s by omega)
    grind
  have m1 := mul_bound (fn x) (fn s) 4161600 1000000 ⟨h1.1, h1.2.1⟩ h2.1 (by omega) (by omega)
  have m2 := Int.mul_le_mul h1.2.2 h2.2 (by omega) (by omega)
  have m3 := Int.mul_pos (show 0 < fd x by omega) (show 0 < fd s by omega)
  have b := mkR_bound (fn x * fn s) (fd x * fd s) 4161600000000 65025000000 (by omega) (by omega) (by omega) (by omega)
  rw [← e] at b
  unfold fits; omega
/-- What Measure returns for a valid gauge and a profile with a width. -/
def MeaY (t n s1 s2 s3 s4 l1 l2 h1 h2 : Int) (zs : List Int) (Z1 Z2 Z3 Z4 V : Int) : Prop :=
  ∃ x y sl sh tl th L H : Rat, WX t (lwL n zs) = some x ∧ WX t (upL n zs) = some y ∧ x ≤ y ∧ fits x ∧ fits y ∧ fits sl ∧ fits sh ∧ fits tl ∧ fits th ∧ s1 = fn sl ∧ s2 = fd sl ∧ s3 = fn sh ∧ s4 = fd sh ∧ l1 = fn tl ∧ l2 = fd tl ∧ h1 = fn th ∧ h2 = fd th ∧ sl ≤ sh ∧ tl ≤ th ∧
    L = loQ (x * sl) [x * sh, y * sl, y * sh] ∧ H = hiQ (x * sl) [x * sh, y * sl, y * sh] ∧ fits L ∧ fits H ∧ L ≤ H ∧ Z1 = fn L ∧ Z2 = fd L ∧ Z3 = fn H ∧ Z4 = fd H ∧ V = deV L H tl th
def MeaN (t n : Int) (zs : List Int) (Z1 Z2 Z3 Z4 V : Int) : Prop :=
  WX t (lwL n zs) = none ∧ FX t (lwL n zs) 0 = none ∧ Z1 = 0 ∧ Z2 = 1 ∧ Z3 = 0 ∧ Z4 = 1 ∧ V = if (FX t (upL n zs) 0).isSome then 3 else 2
theorem mea_any (t n s1 s2 s3 s4 l1 l2 h1 h2 : Int) (a : Option Addr) (m c : Nat) (zs : List Int) (hm : m ≤ maxLen) (hl : zs.length = m) :
    ∃ Z1 Z2 Z3 Z4 V E, (∀ w, Row w a m (iv zs) → Calls Try.prog 27 #[.agg #[.int .i64 t, .int .i64 n, .int .i64 s1, .int .i64 s2, .int .i64 s3, .int .i64 s4, .int .i64 l1, .int .i64 l2, .int .i64 h1, .int .i64 h2], .slice a m c] w fun e w' => e = .returned (.tuple #[.agg #[.int .i64 Z1, .int .i64 Z2, .int .i64 Z3, .int .i64 Z4], .int .u8 V, .int .i64 E]) ∧ Below w.heap.size w w') ∧
      ((¬ okG t n s1 s2 s3 s4 l1 l2 h1 h2 ∧ E = 8 ∧ V = 0) ∨ (okG t n s1 s2 s3 s4 l1 l2 h1 h2 ∧ ¬ okP zs ∧ E = 50 ∧ V = 0) ∨ (okG t n s1 s2 s3 s4 l1 l2 h1 h2 ∧ okP zs ∧ E = 0 ∧ (MeaN t n zs Z1 Z2 Z3 Z4 V ∨ MeaY t n s1 s2 s3 s4 l1 l2 h1 h2 zs Z1 Z2 Z3 Z4 V))) := by
  have HC := fun w => ckG_any t n s1 s2 s3 s4 l1 l2 h1 h2 w
  by_cases hg : okG t n s1 s2 s3 s4 l1 l2 h1 h2
  · have HC0 : ∀ w, Calls Try.prog 44 #[.agg #[.int .i64 t, .int .i64 n, .int .i64 s1, .int .i64 s2, .int .i64 s3, .int .i64 s4, .int .i64 l1, .int .i64 l2, .int .i64 h1, .int .i64 h2]] w fun e w' => e = .returned (.int .i64 0) ∧ Below w.heap.size w w' := fun w => (HC w).mono fun e w' h => by
      rcases h with ⟨⟨_, h⟩ | ⟨k, _⟩, hb⟩
      · exact ⟨h, hb⟩
      · exact absurd hg k
    have HW := fun w => wi_any a m c zs t n hm w
    by_cases hz : okP zs
    · have e2 : wiE t zs n = _ := asE_ok hz ⟨hg.2.1, hg.1⟩
      have e1 : wiS t zs n = _ := if_pos ⟨hz, hg.2.1, hg.1⟩
      have zl := lwL_ok hz hg.2.1.1
      have zu := upL_ok hz hg.2.1.1
      cases hx : WX t (lwL n zs) with
      | none =>
        rw [hx] at e1 e2
        rw [e1, e2] at HW
        have hf := (WX_none (by have := zl.1; omega)).1 hx
        refine ⟨_, _, _, _, _, _, fun w hR => mea_none t n s1 s2 s3 s4 l1 l2 h1 h2 a m c zs 0 0 0 0 _ w hR HC0 HW (fun w hR => unm_any t n s1 s2 s3 s4 l1 l2 h1 h2 a m c zs hz hg.1 hg.2.1 w hR), .inr (.inr ⟨hg, hz, rfl, .inl ⟨hx, hf, rfl, rfl, rfl, rfl, rfl⟩⟩)⟩
      | some x =>
        obtain ⟨y, hy, hxy⟩ := WX_le (lw_up hz.2 hg.2.1.1) (by have := zl.1; omega) hx
        obtain ⟨bx, fx⟩ := WX_fits zl hg.1.1 hx
        obtain ⟨by', fy⟩ := WX_fits zu hg.1.1 hy
        rw [hx, hy] at e1
        rw [hx] at e2
        rw [e1, e2] at HW
        obtain ⟨-, -, ⟨sl, sh, fsl, fsh, rfl, rfl, rfl, rfl, hs⟩, ⟨tl, th, ftl, fth, rfl, rfl, rfl, rfl, ht⟩, h0, m1, m2, -, -⟩ := id hg
        have f1 := mul_small bx m1; have f2 := mul_small bx m2; have f3 := mul_small by' m1; have f4 := mul_small by' m2
        have HM := fun w => mulSpans_q x y sl sh fx fy fsl fsh hxy hs w
        have all : fits (x * sl) ∧ fits (x * sh) ∧ fits (y * sl) ∧ fits (y * sh) := ⟨f1, f2, f3, f4⟩
        simp only [oz_yes all, oe_yes all] at HM
        have am : ∀ z ∈ [x * sh, y * sl, y * sh], fits z := by intro z hz; simp at hz; rcases hz with rfl | rfl | rfl <;> assumption
        have fL := loQ_fits (x * sl) f1 _ am
        have fH := hiQ_fits (x * sl) f1 _ am
        have hLH : loQ (x * sl) [x * sh, y * sl, y * sh] ≤ hiQ (x * sl) [x * sh, y * sl, y * sh] := Rat.le_trans (loQ3 _ _ _ _).1 (hiQ3 _ _ _ _).1
        refine ⟨_, _, _, _, _, _, fun w hR => mea_some t n _ _ _ _ _ _ _ _ a m c zs _ _ _ _ _ _ _ _ _ _ _ w hR HC0 HW HM (fun w => dec_q _ _ tl th fL fH ftl fth hLH ht w), .inr (.inr ⟨hg, hz, rfl, .inr ⟨x, y, sl, sh, tl, th, _, _, hx, hy, hxy, fx, fy, fsl, fsh, ftl, fth, rfl, rfl, rfl, rfl, rfl, rfl, rfl, rfl, hs, ht, rfl, rfl, fL, fH, hLH, rfl, rfl, rfl, rfl, rfl⟩⟩)⟩
    · have e2 : wiE t zs n = 50 := asE_no hz
      rw [e2] at HW
      refine ⟨_, _, _, _, _, _, fun w hR => mea_prof t n s1 s2 s3 s4 l1 l2 h1 h2 a m c zs _ _ _ _ 50 rfl rfl w hR HC0 HW, .inr (.inl ⟨hg, hz, rfl, rfl⟩)⟩
  · have HC0 : ∀ w, Calls Try.prog 44 #[.agg #[.int .i64 t, .int .i64 n, .int .i64 s1, .int .i64 s2, .int .i64 s3, .int .i64 s4, .int .i64 l1, .int .i64 l2, .int .i64 h1, .int .i64 h2]] w fun e w' => e = .returned (.int .i64 8) ∧ Below w.heap.size w w' := fun w => (HC w).mono fun e w' h => by
      rcases h with ⟨⟨k, _⟩ | ⟨_, h⟩, hb⟩
      · exact absurd k hg
      · exact ⟨h, hb⟩
    exact ⟨_, _, _, _, _, _, fun w hR => mea_bad t n s1 s2 s3 s4 l1 l2 h1 h2 a m c w HC0, .inl ⟨hg, rfl, rfl⟩⟩
end Go.Proofs.Ytbcgebobfnclnaa
/-
  Layer 5: the statements' own examples: literals.
-/
namespace Go.Proofs.Ytbcgebobfnclnaa
open Go.RowKit Go.Shelf
set_option linter.unusedVariables false
set_option linter.unusedSimpArgs false

/-- The profile of the examples. -/
def smp : List Int := [10, 10, 60, 110, 110, 30]
set_option maxHeartbeats 1000000 in
theorem sample_any (w : World) :
    Calls Try.prog 18 #[] w fun e w' => ∃ b, e = .returned (.slice (some ⟨b, 0, none⟩) 6 6) ∧ w.heap.size ≤ b ∧ Blk w' b (ints smp) 3 ∧ Below w.heap.size w w' := by
  go_enter Try.func18, Try.ntmps18
  go_wp2
  go_ret
  exact ⟨w.heap.size, rfl, Nat.le_refl _, Blk.new rfl, by (repeat' (first | (with_reducible exact Below.refl _ _) | (with_reducible assumption) | (with_reducible refine belowThru ?_ (by assumption)) | (with_reducible refine belowAlloc ?_) | (with_reducible refine Below.setCell ?_ (by first | omega | (simp; done) | (simp; omega)) _) | (with_reducible refine Below.drew ?_) | (with_reducible refine below_drewN ?_ _)))⟩
set_option maxHeartbeats 1000000 in
theorem frac_any (n d : Int) (n1 : -9223372036854775808 ≤ n) (n2 : n ≤ 9223372036854775807) (d1 : -9223372036854775808 ≤ d) (d2 : d ≤ 9223372036854775807) (w : World) :
    Calls Try.prog 23 #[.int .i64 n, .int .i64 d] w fun e w' => e = .returned (.agg #[.int .i64 (mA n d), .int .i64 (mB n d)]) ∧ Below w.heap.size w w' := by
  have HM := Lib.hid (make_any n d n1 n2 d1 d2)
  go_enter Try.func23, Try.ntmps23
  go_wp2_with fail
  refine (HM.out _).mono ?_
  rintro e w1 ⟨rfl, hb⟩
  have k0 : Blk w1 w.heap.size #[.int .i64 0, .int .i64 0] 23 := Blk.later hb (by (repeat' (first | (with_reducible assumption) | ((with_reducible refine Blk.new ?_); first | rfl | (simp; done)) | (with_reducible refine Blk.later (by assumption) ?_) | (with_reducible refine Blk.alloc ?_) | (with_reducible refine Blk.drewN ?_) | (with_reducible refine Blk.drew ?_) | (with_reducible refine Blk.other ?_ (by first | omega | (simp; done) | (simp; omega))))))
  obtain ⟨a0, b0⟩ := k0.read
  have y0 := k0.lt
  have hB1 : Below w.heap.size w w1 := by (repeat' (first | (with_reducible exact Below.refl _ _) | (with_reducible assumption) | (with_reducible refine belowThru ?_ (by assumption)) | (with_reducible refine belowAlloc ?_) | (with_reducible refine Below.setCell ?_ (by first | omega | (simp; done) | (simp; omega)) _) | (with_reducible refine Below.drew ?_) | (with_reducible refine below_drewN ?_ _)))
  clear hb
  go_wp2
  exact bodyPost_ret (v := .agg #[.int .i64 (mA n d), .int .i64 (mB n d)]) (by simp only [results, Try.results23]; go_simp) rfl ⟨rfl, by (repeat' (first | (with_reducible exact Below.refl _ _) | (with_reducible assumption) | (with_reducible refine belowThru ?_ (by assumption)) | (with_reducible refine belowAlloc ?_) | (with_reducible refine Below.setCell ?_ (by first | omega | (simp; done) | (simp; omega)) _) | (with_reducible refine Below.drew ?_) | (with_reducible refine below_drewN ?_ _)))⟩
/-- A fraction that is in lowest terms. -/
theorem frac_lit (n d : Int) (h : mA n d = n ∧ mB n d = d) (hb : -1000 ≤ n ∧ n ≤ 1000 ∧ 1 ≤ d ∧ d ≤ 1000) (w : World) :
    Calls Try.prog 23 #[.int .i64 n, .int .i64 d] w fun e w' => e = .returned (.agg #[.int .i64 n, .int .i64 d]) ∧ Below w.heap.size w w' := by
  have := frac_any n d (by omega) (by omega) (by omega) (by omega) w
  rwa [h.1, h.2] at this
theorem a_first (b : Nat) (w : World) (hk : Blk w b (ints smp) 3) :
    Calls Try.prog 17 #[.slice (some ⟨b, 0, none⟩) 6 6, .int .i64 85, .int .i64 0] w fun e w' => e = .returned (.tuple #[.agg #[.int .i64 5, .int .i64 2], .int .i64 0]) ∧ Below w.heap.size w w' := by
  have h := first_any (some ⟨b, 0, none⟩) 6 6 smp 85 0 (by unfold maxLen; omega) w (Row.of_ints rfl hk)
  rw [show oN (fiO 85 smp 0) = 5 by kernel_rfl, show oD (fiO 85 smp 0) = 2 by kernel_rfl, show fiE 85 smp 0 = 0 by kernel_rfl] at h
  exact h
theorem a_last (b : Nat) (w : World) (hk : Blk w b (ints smp) 3) :
    Calls Try.prog 19 #[.slice (some ⟨b, 0, none⟩) 6 6, .int .i64 60, .int .i64 5] w fun e w' => e = .returned (.tuple #[.agg #[.int .i64 37, .int .i64 8], .int .i64 0]) ∧ Below w.heap.size w w' := by
  have h := last_any (some ⟨b, 0, none⟩) 6 6 smp 60 5 (by unfold maxLen; omega) w (Row.of_ints rfl hk)
  rw [show oN (laO 60 smp 5) = 37 by kernel_rfl, show oD (laO 60 smp 5) = 8 by kernel_rfl, show laE 60 smp 5 = 0 by kernel_rfl] at h
  exact h
theorem a_rise (b : Nat) (w : World) (hk : Blk w b (ints smp) 3) :
    Calls Try.prog 21 #[.slice (some ⟨b, 0, none⟩) 6 6, .int .i64 60, .int .i64 0, .int .i64 10] w fun e w' => e = .returned (.tuple #[.agg #[.int .i64 9, .int .i64 5, .int .i64 11, .int .i64 5], .int .i64 0]) ∧ Below w.heap.size w w' := by
  have h := ri_any (some ⟨b, 0, none⟩) 6 6 smp 60 0 10 (by unfold maxLen; omega) w (Row.of_ints rfl hk)
  rw [show s1 (riS 60 smp 0 10) = 9 by kernel_rfl, show s2 (riS 60 smp 0 10) = 5 by kernel_rfl, show s3 (riS 60 smp 0 10) = 11 by kernel_rfl, show s4 (riS 60 smp 0 10) = 5 by kernel_rfl, show riE 60 smp 0 10 = 0 by kernel_rfl] at h
  exact h
theorem a_width (b : Nat) (w : World) (hk : Blk w b (ints smp) 3) :
    Calls Try.prog 39 #[.slice (some ⟨b, 0, none⟩) 6 6, .int .i64 60, .int .i64 10] w fun e w' => e = .returned (.tuple #[.agg #[.int .i64 23, .int .i64 10, .int .i64 59, .int .i64 20], .int .i64 0]) ∧ Below w.heap.size w w' := by
  have h := wi_any (some ⟨b, 0, none⟩) 6 6 smp 60 10 (by unfold maxLen; omega) w (Row.of_ints rfl hk)
  rw [show s1 (wiS 60 smp 10) = 23 by kernel_rfl, show s2 (wiS 60 smp 10) = 10 by kernel_rfl, show s3 (wiS 60 smp 10) = 59 by kernel_rfl, show s4 (wiS 60 smp 10) = 20 by kernel_rfl, show wiE 60 smp 10 = 0 by kernel_rfl] at h
  exact h
set_option maxRecDepth 100000 in
set_option maxHeartbeats 1000000 in
theorem twice_any (lo hi : Int) (h1 : mA lo 1 = lo ∧ mB lo 1 = 1) (b1 : -1000 ≤ lo ∧ lo ≤ 1000) (h2 : mA hi 1 = hi ∧ mB hi 1 = 1) (b2 : -1000 ≤ hi ∧ hi ≤ 1000) (w : World) :
    Calls Try.prog 26 #[.int .i64 lo, .int .i64 hi] w fun e w' => e = .returned (.agg #[.int .i64 60, .int .i64 10, .int .i64 2, .int .i64 1, .int .i64 2, .int .i64 1, .int .i64 lo, .int .i64 1, .int .i64 hi, .int .i64 1]) ∧ Below w.heap.size w w' := by
  have H2 := Lib.hid (frac_lit 2 1 ⟨by kernel_rfl, by kernel_rfl⟩ (by decide))
  have HL := Lib.hid (frac_lit lo 1 h1 ⟨b1.1, b1.2, by decide, by decide⟩)
  have HH := Lib.hid (frac_lit hi 1 h2 ⟨b2.1, b2.2, by decide, by decide⟩)
  clear h1 h2
  go_enter Try.func26, Try.ntmps26
  go_wp2_with fail
  refine (H2.out _).mono ?_
  rintro e w1 ⟨rfl, hb⟩
  have k0 : Blk w1 w.heap.size #[.int .i64 0, .int .i64 0, .int .i64 0, .int .i64 0, .int .i64 0, .int .i64 0, .int .i64 0, .int .i64 0, .int .i64 0, .int .i64 0] 41 := Blk.later hb (by (repeat' (first | (with_reducible assumption) | ((with_reducible refine Blk.new ?_); first | rfl | (simp; done)) | (with_reducible refine Blk.later (by assumption) ?_) | (with_reducible refine Blk.alloc ?_) | (with_reducible refine Blk.drewN ?_) | (with_reducible refine Blk.drew ?_) | (with_reducible refine Blk.other ?_ (by first | omega | (simp; done) | (simp; omega))))))
  have hB : Below w.heap.size w w1 := by (repeat' (first | (with_reducible exact Below.refl _ _) | (with_reducible assumption) | (with_reducible refine belowThru ?_ (by assumption)) | (with_reducible refine belowAlloc ?_) | (with_reducible refine Below.setCell ?_ (by first | omega | (simp; done) | (simp; omega)) _) | (with_reducible refine Below.drew ?_) | (with_reducible refine below_drewN ?_ _)))
  clear hb
  go_wp2_with fail
  refine (H2.out _).mono ?_
  rintro e w2 ⟨rfl, hb⟩
  replace k0 := Blk.later hb k0
  replace hB := belowThru hB hb
  clear hb
  go_wp2_with fail
  refine (HL.out _).mono ?_
  rintro e w3 ⟨rfl, hb⟩
  replace k0 := Blk.later hb k0
  replace hB := belowThru hB hb
  clear hb
  go_wp2_with fail
  refine (HH.out _).mono ?_
  rintro e w4 ⟨rfl, hb⟩
  replace k0 := Blk.later hb k0
  replace hB := belowThru hB hb
  clear hb
  obtain ⟨a0, b0⟩ := k0.read
  go_wp2
  exact bodyPost_ret (v := .agg #[.int .i64 60, .int .i64 10, .int .i64 2, .int .i64 1, .int .i64 2, .int .i64 1, .int .i64 lo, .int .i64 1, .int .i64 hi, .int .i64 1]) (by simp only [results, Try.results26]; go_simp) rfl ⟨rfl, by (repeat' (first | (with_reducible exact Below.refl _ _) | (with_reducible assumption) | (with_reducible refine belowThru ?_ (by assumption)) | (with_reducible refine belowAlloc ?_) | (with_reducible refine Below.setCell ?_ (by first | omega | (simp; done) | (simp; omega)) _) | (with_reducible refine Below.drew ?_) | (with_reducible refine below_drewN ?_ _)))⟩
theorem okS_lit {a b c d : Int} (q r : Rat) (h : fits q ∧ fits r ∧ a = fn q ∧ b = fd q ∧ c = fn r ∧ d = fd r ∧ q ≤ r) : okS a b c d := ⟨q, r, h⟩
/-- Measure at the examples' gauge with a tolerance. -/
theorem a_meas (lo hi V : Int) (hok : okS lo 1 hi 1) (hs : smF lo 1 ∧ smF hi 1) (hV : deV (loQ (mkR 23 10 * mkR 2 1) [mkR 23 10 * mkR 2 1, mkR 59 20 * mkR 2 1, mkR 59 20 * mkR 2 1]) (hiQ (mkR 23 10 * mkR 2 1) [mkR 23 10 * mkR 2 1, mkR 59 20 * mkR 2 1, mkR 59 20 * mkR 2 1]) (mkR lo 1) (mkR hi 1) = V) (b : Nat) (w : World) (hk : Blk w b (ints smp) 3) :
    Calls Try.prog 27 #[.agg #[.int .i64 60, .int .i64 10, .int .i64 2, .int .i64 1, .int .i64 2, .int .i64 1, .int .i64 lo, .int .i64 1, .int .i64 hi, .int .i64 1], .slice (some ⟨b, 0, none⟩) 6 6] w fun e w' => e = .returned (.tuple #[.agg #[.int .i64 23, .int .i64 5, .int .i64 59, .int .i64 10], .int .u8 V, .int .i64 0]) ∧ Below w.heap.size w w' := by
  obtain ⟨Z1, Z2, Z3, Z4, V', E, H, h⟩ := mea_any 60 10 2 1 2 1 lo 1 hi 1 (some ⟨b, 0, none⟩) 6 6 smp (by unfold maxLen; omega) rfl
  have hg : okG 60 10 2 1 2 1 lo 1 hi 1 := ⟨by decide, by decide, okS_lit (mkR 2 1) (mkR 2 1) ⟨of_decide_eq_true (by kernel_rfl), of_decide_eq_true (by kernel_rfl), by kernel_rfl, by kernel_rfl, by kernel_rfl, by kernel_rfl, Rat.le_refl⟩, hok, by decide, ⟨by decide, by decide⟩, ⟨by decide, by decide⟩, hs.1, hs.2⟩
  have hp : okP smp := by decide
  have e1 : WX 60 (lwL 10 smp) = some (mkR 23 10) := by kernel_rfl
  have e2 : WX 60 (upL 10 smp) = some (mkR 59 20) := by kernel_rfl
  rcases h with ⟨k, _⟩ | ⟨_, k, _⟩ | ⟨-, -, rfl, ⟨k, _⟩ | ⟨x, y, sl, sh, tl, th, L, H', hx, hy, -, -, -, -, -, ftl, fth, q1, q2, q3, q4, q5, q6, q7, q8, -, -, rfl, rfl, -, -, -, rfl, rfl, rfl, rfl, rfl⟩⟩
  · exact absurd hg k
  · exact absurd hp k
  · rw [e1] at k; cases k
  · rw [e1] at hx; rw [e2] at hy
    obtain rfl := Option.some.inj hx
    obtain rfl := Option.some.inj hy
    obtain rfl : mkR 2 1 = sl := q_ext (by rw [← q1]; kernel_rfl) (by rw [← q2]; kernel_rfl)
    obtain rfl : mkR 2 1 = sh := q_ext (by rw [← q3]; kernel_rfl) (by rw [← q4]; kernel_rfl)
    have r1 : mkR lo 1 = tl := by rw [q5, q6]; exact mkR_self tl
    have r2 : mkR hi 1 = th := by rw [q7, q8]; exact mkR_self th
    rw [← r1, ← r2, hV] at H
    have := H w (Row.of_ints rfl hk)
    rw [show fn (loQ (mkR 23 10 * mkR 2 1) [mkR 23 10 * mkR 2 1, mkR 59 20 * mkR 2 1, mkR 59 20 * mkR 2 1]) = 23 by kernel_rfl, show fd (loQ (mkR 23 10 * mkR 2 1) [mkR 23 10 * mkR 2 1, mkR 59 20 * mkR 2 1, mkR 59 20 * mkR 2 1]) = 5 by kernel_rfl, show fn (hiQ (mkR 23 10 * mkR 2 1) [mkR 23 10 * mkR 2 1, mkR 59 20 * mkR 2 1, mkR 59 20 * mkR 2 1]) = 59 by kernel_rfl, show fd (hiQ (mkR 23 10 * mkR 2 1) [mkR 23 10 * mkR 2 1, mkR 59 20 * mkR 2 1, mkR 59 20 * mkR 2 1]) = 10 by kernel_rfl] at this
    exact this
end Go.Proofs.Ytbcgebobfnclnaa
/-
  Layer 5: the statements' own examples.
-/
namespace Go.Proofs.Ytbcgebobfnclnaa
open Go.RowKit Go.Shelf
set_option linter.unusedVariables false
set_option linter.unusedSimpArgs false

theorem holdG4A {w : World} {b0 b1 b2 b3 : Nat} {c0 c1 c2 c3 : Array Value} {t0 t1 t2 t3 : TypeId} {D0 D1 D2 D3 E G : Prop} (h : (Blk w b0 c0 t0 ∧ D0) ∧ (Blk w b1 c1 t1 ∧ D1) ∧ (Blk w b2 c2 t2 ∧ D2) ∧ (Blk w b3 c3 t3 ∧ D3) ∧ E) (g : Blk w b0 c0 t0 → Blk w b1 c1 t1 → Blk w b2 c2 t2 → Blk w b3 c3 t3 → E → G) : G := g h.1.1 h.2.1.1 h.2.2.1.1 h.2.2.2.1.1 h.2.2.2.2
set_option maxRecDepth 100000 in
set_option maxHeartbeats 16000000 in
theorem alive_true (w : World) :
    Calls Try.prog 22 #[] w fun e w' => e = .returned (.bool true) ∧ Below w.heap.size w w' := by
  have F5_2 := Lib.hid (frac_lit 5 2 ⟨by kernel_rfl, by kernel_rfl⟩ (by decide))
  have F37_8 := Lib.hid (frac_lit 37 8 ⟨by kernel_rfl, by kernel_rfl⟩ (by decide))
  have F9_5 := Lib.hid (frac_lit 9 5 ⟨by kernel_rfl, by kernel_rfl⟩ (by decide))
  have F11_5 := Lib.hid (frac_lit 11 5 ⟨by kernel_rfl, by kernel_rfl⟩ (by decide))
  have F23_10 := Lib.hid (frac_lit 23 10 ⟨by kernel_rfl, by kernel_rfl⟩ (by decide))
  have F59_20 := Lib.hid (frac_lit 59 20 ⟨by kernel_rfl, by kernel_rfl⟩ (by decide))
  have F23_5 := Lib.hid (frac_lit 23 5 ⟨by kernel_rfl, by kernel_rfl⟩ (by decide))
  have F59_10 := Lib.hid (frac_lit 59 10 ⟨by kernel_rfl, by kernel_rfl⟩ (by decide))
  have M1 := Lib.hid (a_meas 4 6 1 (okS_lit (mkR 4 1) (mkR 6 1) ⟨of_decide_eq_true (by kernel_rfl), of_decide_eq_true (by kernel_rfl), by kernel_rfl, by kernel_rfl, by kernel_rfl, by kernel_rfl, of_decide_eq_true (by kernel_rfl)⟩) ⟨⟨by decide, by decide⟩, ⟨by decide, by decide⟩⟩ (by kernel_rfl))
  have M2 := Lib.hid (a_meas 5 6 3 (okS_lit (mkR 5 1) (mkR 6 1) ⟨of_decide_eq_true (by kernel_rfl), of_decide_eq_true (by kernel_rfl), by kernel_rfl, by kernel_rfl, by kernel_rfl, by kernel_rfl, of_decide_eq_true (by kernel_rfl)⟩) ⟨⟨by decide, by decide⟩, ⟨by decide, by decide⟩⟩ (by kernel_rfl))
  have M3 := Lib.hid (a_meas 6 7 2 (okS_lit (mkR 6 1) (mkR 7 1) ⟨of_decide_eq_true (by kernel_rfl), of_decide_eq_true (by kernel_rfl), by kernel_rfl, by kernel_rfl, by kernel_rfl, by kernel_rfl, of_decide_eq_true (by kernel_rfl)⟩) ⟨⟨by decide, by decide⟩, ⟨by decide, by decide⟩⟩ (by kernel_rfl))
  have T46 := Lib.hid (twice_any 4 6 ⟨by kernel_rfl, by kernel_rfl⟩ (by decide) ⟨by kernel_rfl, by kernel_rfl⟩ (by decide))
  have T56 := Lib.hid (twice_any 5 6 ⟨by kernel_rfl, by kernel_rfl⟩ (by decide) ⟨by kernel_rfl, by kernel_rfl⟩ (by decide))
  have T67 := Lib.hid (twice_any 6 7 ⟨by kernel_rfl, by kernel_rfl⟩ (by decide) ⟨by kernel_rfl, by kernel_rfl⟩ (by decide))
  go_enter Try.func22, Try.ntmps22
  go_wp2_with fail
  refine (sample_any _).mono ?_
  rintro e w1 ⟨bs, rfl, hbs, kS, hb⟩
  clear hbs
  have hBw : Below w.heap.size w w1 := by (repeat' (first | (with_reducible exact Below.refl _ _) | (with_reducible assumption) | (with_reducible refine belowThru ?_ (by assumption)) | (with_reducible refine belowAlloc ?_) | (with_reducible refine Below.setCell ?_ (by first | omega | (simp; done) | (simp; omega)) _) | (with_reducible refine Below.drew ?_) | (with_reducible refine below_drewN ?_ _)))
  have hzw1 := hBw.size
  clear hb
  go_wp2_with fail
  refine (a_first _ _ kS).mono ?_
  rintro e w2 ⟨rfl, hb⟩
  replace hBw : Below w.heap.size w w2 := belowThru (by (repeat' (first | (with_reducible exact Below.refl _ _) | (with_reducible assumption) | (with_reducible refine belowThru ?_ (by assumption)) | (with_reducible refine belowAlloc ?_) | (with_reducible refine Below.setCell ?_ (by first | omega | (simp; done) | (simp; omega)) _) | (with_reducible refine Below.drew ?_) | (with_reducible refine below_drewN ?_ _)))) hb
  have hzw2 := hBw.size
  clear hb
  clear kS
  go_wp2_with fail
  refine (sample_any _).mono ?_
  rintro e w3 ⟨bs, rfl, hbs, kS, hb⟩
  clear hbs
  have kn0 : Blk w3 (w2.heap.size) #[.int .i64 5, .int .i64 2] 23 := Blk.later hb (by (repeat' (first | (with_reducible assumption) | (with_reducible refine Blk.set2 ?_) | ((with_reducible refine Blk.new ?_); first | rfl | (simp; done)) | (with_reducible refine Blk.later (by assumption) ?_) | (with_reducible refine Blk.alloc ?_) | (with_reducible refine Blk.drewN ?_) | (with_reducible refine Blk.drew ?_) | (with_reducible refine Blk.other ?_ (by first | omega | (simp; done) | (simp; omega))))))
  have k0 := kn0; clear kn0; obtain ⟨a0, b0⟩ := k0.read; have y0 := k0.lt
  replace hBw : Below w.heap.size w w3 := belowThru (by (repeat' (first | (with_reducible exact Below.refl _ _) | (with_reducible assumption) | (with_reducible refine belowThru ?_ (by assumption)) | (with_reducible refine belowAlloc ?_) | (with_reducible refine Below.setCell ?_ (by first | omega | (simp; done) | (simp; omega)) _) | (with_reducible refine Below.drew ?_) | (with_reducible refine below_drewN ?_ _)))) hb
  have hzw3 := hBw.size
  clear hb
  go_wp2_with fail
  refine (a_last _ _ kS).mono ?_
  rintro e w4 ⟨rfl, hb⟩
  have kn0 : Blk w4 (w2.heap.size) #[.int .i64 5, .int .i64 2] 23 := Blk.later hb (by (repeat' (first | (with_reducible assumption) | (with_reducible refine Blk.set2 ?_) | ((with_reducible refine Blk.new ?_); first | rfl | (simp; done)) | (with_reducible refine Blk.later (by assumption) ?_) | (with_reducible refine Blk.alloc ?_) | (with_reducible refine Blk.drewN ?_) | (with_reducible refine Blk.drew ?_) | (with_reducible refine Blk.other ?_ (by first | omega | (simp; done) | (simp; omega))))))
  clear k0 a0 b0 y0
  have k0 := kn0; clear kn0; obtain ⟨a0, b0⟩ := k0.read; have y0 := k0.lt
  replace hBw : Below w.heap.size w w4 := belowThru (by (repeat' (first | (with_reducible exact Below.refl _ _) | (with_reducible assumption) | (with_reducible refine belowThru ?_ (by assumption)) | (with_reducible refine belowAlloc ?_) | (with_reducible refine Below.setCell ?_ (by first | omega | (simp; done) | (simp; omega)) _) | (with_reducible refine Below.drew ?_) | (with_reducible refine below_drewN ?_ _)))) hb
  have hzw4 := hBw.size
  clear hb
  clear kS
  go_wp2_with fail
  refine (sample_any _).mono ?_
  rintro e w5 ⟨bs, rfl, hbs, kS, hb⟩
  clear hbs
  have kn0 : Blk w5 (w2.heap.size) #[.int .i64 5, .int .i64 2] 23 := Blk.later hb (by (repeat' (first | (with_reducible assumption) | (with_reducible refine Blk.set2 ?_) | ((with_reducible refine Blk.new ?_); first | rfl | (simp; done)) | (with_reducible refine Blk.later (by assumption) ?_) | (with_reducible refine Blk.alloc ?_) | (with_reducible refine Blk.drewN ?_) | (with_reducible refine Blk.drew ?_) | (with_reducible refine Blk.other ?_ (by first | omega | (simp; done) | (simp; omega))))))
  have kn1 : Blk w5 (w4.heap.size) #[.int .i64 37, .int .i64 8] 23 := Blk.later hb (by (repeat' (first | (with_reducible assumption) | (with_reducible refine Blk.set2 ?_) | ((with_reducible refine Blk.new ?_); first | rfl | (simp; done)) | (with_reducible refine Blk.later (by assumption) ?_) | (with_reducible refine Blk.alloc ?_) | (with_reducible refine Blk.drewN ?_) | (with_reducible refine Blk.drew ?_) | (with_reducible refine Blk.other ?_ (by first | omega | (simp; done) | (simp; omega))))))
  clear k0 a0 b0 y0
  have k0 := kn0; clear kn0; obtain ⟨a0, b0⟩ := k0.read; have y0 := k0.lt
  have k1 := kn1; clear kn1; obtain ⟨a1, b1⟩ := k1.read; have y1 := k1.lt
  replace hBw : Below w.heap.size w w5 := belowThru (by (repeat' (first | (with_reducible exact Below.refl _ _) | (with_reducible assumption) | (with_reducible refine belowThru ?_ (by assumption)) | (with_reducible refine belowAlloc ?_) | (with_reducible refine Below.setCell ?_ (by first | omega | (simp; done) | (simp; omega)) _) | (with_reducible refine Below.drew ?_) | (with_reducible refine below_drewN ?_ _)))) hb
  have hzw5 := hBw.size
  clear hb
  go_wp2_with fail
  refine (a_rise _ _ kS).mono ?_
  rintro e w6 ⟨rfl, hb⟩
  have kn0 : Blk w6 (w2.heap.size) #[.int .i64 5, .int .i64 2] 23 := Blk.later hb (by (repeat' (first | (with_reducible assumption) | (with_reducible refine Blk.set2 ?_) | ((with_reducible refine Blk.new ?_); first | rfl | (simp; done)) | (with_reducible refine Blk.later (by assumption) ?_) | (with_reducible refine Blk.alloc ?_) | (with_reducible refine Blk.drewN ?_) | (with_reducible refine Blk.drew ?_) | (with_reducible refine Blk.other ?_ (by first | omega | (simp; done) | (simp; omega))))))
  have kn1 : Blk w6 (w4.heap.size) #[.int .i64 37, .int .i64 8] 23 := Blk.later hb (by (repeat' (first | (with_reducible assumption) | (with_reducible refine Blk.set2 ?_) | ((with_reducible refine Blk.new ?_); first | rfl | (simp; done)) | (with_reducible refine Blk.later (by assumption) ?_) | (with_reducible refine Blk.alloc ?_) | (with_reducible refine Blk.drewN ?_) | (with_reducible refine Blk.drew ?_) | (with_reducible refine Blk.other ?_ (by first | omega | (simp; done) | (simp; omega))))))
  clear k0 a0 b0 y0
  clear k1 a1 b1 y1
  have k0 := kn0; clear kn0; obtain ⟨a0, b0⟩ := k0.read; have y0 := k0.lt
  have k1 := kn1; clear kn1; obtain ⟨a1, b1⟩ := k1.read; have y1 := k1.lt
  replace hBw : Below w.heap.size w w6 := belowThru (by (repeat' (first | (with_reducible exact Below.refl _ _) | (with_reducible assumption) | (with_reducible refine belowThru ?_ (by assumption)) | (with_reducible refine belowAlloc ?_) | (with_reducible refine Below.setCell ?_ (by first | omega | (simp; done) | (simp; omega)) _) | (with_reducible refine Below.drew ?_) | (with_reducible refine below_drewN ?_ _)))) hb
  have hzw6 := hBw.size
  clear hb
  clear kS
  go_wp2_with fail
  refine (sample_any _).mono ?_
  rintro e w7 ⟨bs, rfl, hbs, kS, hb⟩
  clear hbs
  have kn0 : Blk w7 (w2.heap.size) #[.int .i64 5, .int .i64 2] 23 := Blk.later hb (by (repeat' (first | (with_reducible assumption) | (with_reducible refine Blk.set2 ?_) | ((with_reducible refine Blk.new ?_); first | rfl | (simp; done)) | (with_reducible refine Blk.later (by assumption) ?_) | (with_reducible refine Blk.alloc ?_) | (with_reducible refine Blk.drewN ?_) | (with_reducible refine Blk.drew ?_) | (with_reducible refine Blk.other ?_ (by first | omega | (simp; done) | (simp; omega))))))
  have kn1 : Blk w7 (w4.heap.size) #[.int .i64 37, .int .i64 8] 23 := Blk.later hb (by (repeat' (first | (with_reducible assumption) | (with_reducible refine Blk.set2 ?_) | ((with_reducible refine Blk.new ?_); first | rfl | (simp; done)) | (with_reducible refine Blk.later (by assumption) ?_) | (with_reducible refine Blk.alloc ?_) | (with_reducible refine Blk.drewN ?_) | (with_reducible refine Blk.drew ?_) | (with_reducible refine Blk.other ?_ (by first | omega | (simp; done) | (simp; omega))))))
  have kn2 : Blk w7 (w6.heap.size) #[.int .i64 9, .int .i64 5, .int .i64 11, .int .i64 5] 30 := Blk.later hb (by (repeat' (first | (with_reducible assumption) | (with_reducible refine Blk.set2 ?_) | ((with_reducible refine Blk.new ?_); first | rfl | (simp; done)) | (with_reducible refine Blk.later (by assumption) ?_) | (with_reducible refine Blk.alloc ?_) | (with_reducible refine Blk.drewN ?_) | (with_reducible refine Blk.drew ?_) | (with_reducible refine Blk.other ?_ (by first | omega | (simp; done) | (simp; omega))))))
  clear k0 a0 b0 y0
  clear k1 a1 b1 y1
  have k0 := kn0; clear kn0; obtain ⟨a0, b0⟩ := k0.read; have y0 := k0.lt
  have k1 := kn1; clear kn1; obtain ⟨a1, b1⟩ := k1.read; have y1 := k1.lt
  have k2 := kn2; clear kn2; obtain ⟨a2, b2⟩ := k2.read; have y2 := k2.lt
  replace hBw : Below w.heap.size w w7 := belowThru (by (repeat' (first | (with_reducible exact Below.refl _ _) | (with_reducible assumption) | (with_reducible refine belowThru ?_ (by assumption)) | (with_reducible refine belowAlloc ?_) | (with_reducible refine Below.setCell ?_ (by first | omega | (simp; done) | (simp; omega)) _) | (with_reducible refine Below.drew ?_) | (with_reducible refine below_drewN ?_ _)))) hb
  have hzw7 := hBw.size
  clear hb
  go_wp2_with fail
  refine (a_width _ _ kS).mono ?_
  rintro e w8 ⟨rfl, hb⟩
  have kn0 : Blk w8 (w2.heap.size) #[.int .i64 5, .int .i64 2] 23 := Blk.later hb (by (repeat' (first | (with_reducible assumption) | (with_reducible refine Blk.set2 ?_) | ((with_reducible refine Blk.new ?_); first | rfl | (simp; done)) | (with_reducible refine Blk.later (by assumption) ?_) | (with_reducible refine Blk.alloc ?_) | (with_reducible refine Blk.drewN ?_) | (with_reducible refine Blk.drew ?_) | (with_reducible refine Blk.other ?_ (by first | omega | (simp; done) | (simp; omega))))))
  have kn1 : Blk w8 (w4.heap.size) #[.int .i64 37, .int .i64 8] 23 := Blk.later hb (by (repeat' (first | (with_reducible assumption) | (with_reducible refine Blk.set2 ?_) | ((with_reducible refine Blk.new ?_); first | rfl | (simp; done)) | (with_reducible refine Blk.later (by assumption) ?_) | (with_reducible refine Blk.alloc ?_) | (with_reducible refine Blk.drewN ?_) | (with_reducible refine Blk.drew ?_) | (with_reducible refine Blk.other ?_ (by first | omega | (simp; done) | (simp; omega))))))
  have kn2 : Blk w8 (w6.heap.size) #[.int .i64 9, .int .i64 5, .int .i64 11, .int .i64 5] 30 := Blk.later hb (by (repeat' (first | (with_reducible assumption) | (with_reducible refine Blk.set2 ?_) | ((with_reducible refine Blk.new ?_); first | rfl | (simp; done)) | (with_reducible refine Blk.later (by assumption) ?_) | (with_reducible refine Blk.alloc ?_) | (with_reducible refine Blk.drewN ?_) | (with_reducible refine Blk.drew ?_) | (with_reducible refine Blk.other ?_ (by first | omega | (simp; done) | (simp; omega))))))
  clear k0 a0 b0 y0
  clear k1 a1 b1 y1
  clear k2 a2 b2 y2
  have k0 := kn0; clear kn0; obtain ⟨a0, b0⟩ := k0.read; have y0 := k0.lt
  have k1 := kn1; clear kn1; obtain ⟨a1, b1⟩ := k1.read; have y1 := k1.lt
  have k2 := kn2; clear kn2; obtain ⟨a2, b2⟩ := k2.read; have y2 := k2.lt
  replace hBw : Below w.heap.size w w8 := belowThru (by (repeat' (first | (with_reducible exact Below.refl _ _) | (with_reducible assumption) | (with_reducible refine belowThru ?_ (by assumption)) | (with_reducible refine belowAlloc ?_) | (with_reducible refine Below.setCell ?_ (by first | omega | (simp; done) | (simp; omega)) _) | (with_reducible refine Below.drew ?_) | (with_reducible refine below_drewN ?_ _)))) hb
  have hzw8 := hBw.size
  clear hb
  clear kS
  go_wp2_with fail
  obtain ⟨Wp, hWp⟩ : ∃ Wp, (w8.alloc (.cells #[.int .i64 23, .int .i64 10, .int .i64 59, .int .i64 20] 30)) = Wp := ⟨_, rfl⟩
  have kn0 : Blk Wp (w2.heap.size) #[.int .i64 5, .int .i64 2] 23 := by rw [← hWp]; (repeat' (first | (with_reducible assumption) | ((with_reducible refine Blk.new ?_); first | rfl | (simp; done)) | (with_reducible refine Blk.later (by assumption) ?_) | (with_reducible refine Blk.alloc ?_) | (with_reducible refine Blk.drewN ?_) | (with_reducible refine Blk.drew ?_) | (with_reducible refine Blk.other ?_ (by first | omega | (simp; done) | (simp; omega)))))
  have kn1 : Blk Wp (w4.heap.size) #[.int .i64 37, .int .i64 8] 23 := by rw [← hWp]; (repeat' (first | (with_reducible assumption) | ((with_reducible refine Blk.new ?_); first | rfl | (simp; done)) | (with_reducible refine Blk.later (by assumption) ?_) | (with_reducible refine Blk.alloc ?_) | (with_reducible refine Blk.drewN ?_) | (with_reducible refine Blk.drew ?_) | (with_reducible refine Blk.other ?_ (by first | omega | (simp; done) | (simp; omega)))))
  have kn2 : Blk Wp (w6.heap.size) #[.int .i64 9, .int .i64 5, .int .i64 11, .int .i64 5] 30 := by rw [← hWp]; (repeat' (first | (with_reducible assumption) | ((with_reducible refine Blk.new ?_); first | rfl | (simp; done)) | (with_reducible refine Blk.later (by assumption) ?_) | (with_reducible refine Blk.alloc ?_) | (with_reducible refine Blk.drewN ?_) | (with_reducible refine Blk.drew ?_) | (with_reducible refine Blk.other ?_ (by first | omega | (simp; done) | (simp; omega)))))
  have kn3 : Blk Wp (w8.heap.size) #[.int .i64 23, .int .i64 10, .int .i64 59, .int .i64 20] 30 := by rw [← hWp]; (repeat' (first | (with_reducible assumption) | ((with_reducible refine Blk.new ?_); first | rfl | (simp; done)) | (with_reducible refine Blk.later (by assumption) ?_) | (with_reducible refine Blk.alloc ?_) | (with_reducible refine Blk.drewN ?_) | (with_reducible refine Blk.drew ?_) | (with_reducible refine Blk.other ?_ (by first | omega | (simp; done) | (simp; omega)))))
  replace hBw : Below w.heap.size w Wp := by rw [← hWp]; (repeat' (first | (with_reducible exact Below.refl _ _) | (with_reducible assumption) | (with_reducible refine belowThru ?_ (by assumption)) | (with_reducible refine belowAlloc ?_) | (with_reducible refine Below.setCell ?_ (by first | omega | (simp; done) | (simp; omega)) _) | (with_reducible refine Below.drew ?_) | (with_reducible refine below_drewN ?_ _)))
  clear k0 a0 b0 y0
  clear k1 a1 b1 y1
  clear k2 a2 b2 y2
  rw [hWp]
  clear hWp
  have k0 := kn0; clear kn0; have y0 := k0.lt
  have k1 := kn1; clear kn1; have y1 := k1.lt
  have k2 := kn2; clear kn2; have y2 := k2.lt
  have k3 := kn3; clear kn3; have y3 := k3.lt
  go_cut [72] (fun s72 wx => s72 = .bool false ∧ Below Wp.heap.size Wp wx)
  case first =>
    go_region_held3 (fun w' => (Blk w' (w2.heap.size) #[.int .i64 5, .int .i64 2] 23 ∧ (∀ i : Nat, w'.cell? ⟨w2.heap.size, i, none⟩ = (#[.int .i64 5, .int .i64 2] : Array Value)[i]?)) ∧ (Blk w' (w4.heap.size) #[.int .i64 37, .int .i64 8] 23 ∧ (∀ i : Nat, w'.cell? ⟨w4.heap.size, i, none⟩ = (#[.int .i64 37, .int .i64 8] : Array Value)[i]?)) ∧ (Blk w' (w6.heap.size) #[.int .i64 9, .int .i64 5, .int .i64 11, .int .i64 5] 30 ∧ (∀ i : Nat, w'.cell? ⟨w6.heap.size, i, none⟩ = (#[.int .i64 9, .int .i64 5, .int .i64 11, .int .i64 5] : Array Value)[i]?)) ∧ (Blk w' (w8.heap.size) #[.int .i64 23, .int .i64 10, .int .i64 59, .int .i64 20] 30 ∧ (∀ i : Nat, w'.cell? ⟨w8.heap.size, i, none⟩ = (#[.int .i64 23, .int .i64 10, .int .i64 59, .int .i64 20] : Array Value)[i]?)) ∧ Below Wp.heap.size Wp w')
      (((first | (apply holdG4A; (focus assumption); intro p0 p1 p2 p3 pB) | skip); refine ⟨Blk.full ?_, Blk.full ?_, Blk.full ?_, Blk.full ?_, ?_⟩; all_goals (first | ((repeat' (first | (with_reducible assumption) | ((with_reducible refine Blk.new ?_); first | rfl | (simp; done)) | (with_reducible refine Blk.later (by assumption) ?_) | (with_reducible refine Blk.alloc ?_) | (with_reducible refine Blk.drewN ?_) | (with_reducible refine Blk.drew ?_) | (with_reducible refine Blk.other ?_ (by first | omega | (simp; done) | (simp; omega))))); done) | ((repeat' (first | (with_reducible exact Below.refl _ _) | (with_reducible assumption) | (with_reducible refine belowThru ?_ (by assumption)) | (with_reducible refine belowAlloc ?_) | (with_reducible refine Below.setCell ?_ (by first | omega | (simp; done) | (simp; omega)) _) | (with_reducible refine Below.drew ?_) | (with_reducible refine below_drewN ?_ _))); done) | exact Below.refl _ _)))
      (first
      | (go_at_call 23; (with_reducible refine (F5_2.out _).mono ?_); rintro e w1 ⟨rfl, hb⟩)
      | (go_at_call 23; (with_reducible refine (F37_8.out _).mono ?_); rintro e w1 ⟨rfl, hb⟩)
      | (go_at_call 23; (with_reducible refine (F9_5.out _).mono ?_); rintro e w1 ⟨rfl, hb⟩)
      | (go_at_call 23; (with_reducible refine (F11_5.out _).mono ?_); rintro e w1 ⟨rfl, hb⟩)
      | (go_at_call 23; (with_reducible refine (F23_10.out _).mono ?_); rintro e w1 ⟨rfl, hb⟩)
      | (go_at_call 23; (with_reducible refine (F59_20.out _).mono ?_); rintro e w1 ⟨rfl, hb⟩))
    all_goals
      apply holdG4A; (focus assumption); intro p0 p1 p2 p3 pB
      go_wp2_with fail
      go_meet
      exact ⟨rfl, pB⟩
  case rest =>
    obtain ⟨rfl, hb⟩ := hcut
    obtain ⟨w9, rfl⟩ : ∃ z, z = wc := ⟨_, rfl⟩
    replace k0 := Blk.later hb k0; clear y0; obtain ⟨a0, b0⟩ := k0.read; have y0 := k0.lt
    replace k1 := Blk.later hb k1; clear y1; obtain ⟨a1, b1⟩ := k1.read; have y1 := k1.lt
    replace k2 := Blk.later hb k2; clear y2; obtain ⟨a2, b2⟩ := k2.read; have y2 := k2.lt
    replace k3 := Blk.later hb k3; clear y3; obtain ⟨a3, b3⟩ := k3.read; have y3 := k3.lt
    replace hBw : Below w.heap.size w w9 := belowThru hBw hb
    have hzw9 := hBw.size
    clear hb
    clear k0 a0 b0 y0 k1 a1 b1 y1 k2 a2 b2 y2 k3 a3 b3 y3
    go_wp2_with fail
    refine (T46.out _).mono ?_
    rintro e w10 ⟨rfl, hb⟩
    replace hBw : Below w.heap.size w w10 := belowThru (by (repeat' (first | (with_reducible exact Below.refl _ _) | (with_reducible assumption) | (with_reducible refine belowThru ?_ (by assumption)) | (with_reducible refine belowAlloc ?_) | (with_reducible refine Below.setCell ?_ (by first | omega | (simp; done) | (simp; omega)) _) | (with_reducible refine Below.drew ?_) | (with_reducible refine below_drewN ?_ _)))) hb
    have hzw10 := hBw.size
    clear hb
    go_wp2_with fail
    refine (sample_any _).mono ?_
    rintro e w11 ⟨bs, rfl, hbs, kS, hb⟩
    clear hbs
    replace hBw : Below w.heap.size w w11 := belowThru (by (repeat' (first | (with_reducible exact Below.refl _ _) | (with_reducible assumption) | (with_reducible refine belowThru ?_ (by assumption)) | (with_reducible refine belowAlloc ?_) | (with_reducible refine Below.setCell ?_ (by first | omega | (simp; done) | (simp; omega)) _) | (with_reducible refine Below.drew ?_) | (with_reducible refine below_drewN ?_ _)))) hb
    have hzw11 := hBw.size
    clear hb
    go_wp2_with fail
    refine (M1.out _ _ kS).mono ?_
    rintro e w12 ⟨rfl, hb⟩
    replace hBw : Below w.heap.size w w12 := belowThru (by (repeat' (first | (with_reducible exact Below.refl _ _) | (with_reducible assumption) | (with_reducible refine belowThru ?_ (by assumption)) | (with_reducible refine belowAlloc ?_) | (with_reducible refine Below.setCell ?_ (by first | omega | (simp; done) | (simp; omega)) _) | (with_reducible refine Below.drew ?_) | (with_reducible refine below_drewN ?_ _)))) hb
    have hzw12 := hBw.size
    clear hb
    clear kS
    go_wp2_with fail
    refine (T56.out _).mono ?_
    rintro e w13 ⟨rfl, hb⟩
    have kn4 : Blk w13 (w12.heap.size) #[.int .i64 23, .int .i64 5, .int .i64 59, .int .i64 10] 30 := Blk.later hb (by (repeat' (first | (with_reducible assumption) | (with_reducible refine Blk.set2 ?_) | ((with_reducible refine Blk.new ?_); first | rfl | (simp; done)) | (with_reducible refine Blk.later (by assumption) ?_) | (with_reducible refine Blk.alloc ?_) | (with_reducible refine Blk.drewN ?_) | (with_reducible refine Blk.drew ?_) | (with_reducible refine Blk.other ?_ (by first | omega | (simp; done) | (simp; omega))))))
    have k4 := kn4; clear kn4; obtain ⟨a4, b4⟩ := k4.read; have y4 := k4.lt
    replace hBw : Below w.heap.size w w13 := belowThru (by (repeat' (first | (with_reducible exact Below.refl _ _) | (with_reducible assumption) | (with_reducible refine belowThru ?_ (by assumption)) | (with_reducible refine belowAlloc ?_) | (with_reducible refine Below.setCell ?_ (by first | omega | (simp; done) | (simp; omega)) _) | (with_reducible refine Below.drew ?_) | (with_reducible refine below_drewN ?_ _)))) hb
    have hzw13 := hBw.size
    clear hb
    go_wp2_with fail
    refine (sample_any _).mono ?_
    rintro e w14 ⟨bs, rfl, hbs, kS, hb⟩
    clear hbs
    have kn4 : Blk w14 (w12.heap.size) #[.int .i64 23, .int .i64 5, .int .i64 59, .int .i64 10] 30 := Blk.later hb (by (repeat' (first | (with_reducible assumption) | (with_reducible refine Blk.set2 ?_) | ((with_reducible refine Blk.new ?_); first | rfl | (simp; done)) | (with_reducible refine Blk.later (by assumption) ?_) | (with_reducible refine Blk.alloc ?_) | (with_reducible refine Blk.drewN ?_) | (with_reducible refine Blk.drew ?_) | (with_reducible refine Blk.other ?_ (by first | omega | (simp; done) | (simp; omega))))))
    clear k4 a4 b4 y4
    have k4 := kn4; clear kn4; obtain ⟨a4, b4⟩ := k4.read; have y4 := k4.lt
    replace hBw : Below w.heap.size w w14 := belowThru (by (repeat' (first | (with_reducible exact Below.refl _ _) | (with_reducible assumption) | (with_reducible refine belowThru ?_ (by assumption)) | (with_reducible refine belowAlloc ?_) | (with_reducible refine Below.setCell ?_ (by first | omega | (simp; done) | (simp; omega)) _) | (with_reducible refine Below.drew ?_) | (with_reducible refine below_drewN ?_ _)))) hb
    have hzw14 := hBw.size
    clear hb
    go_wp2_with fail
    refine (M2.out _ _ kS).mono ?_
    rintro e w15 ⟨rfl, hb⟩
    have kn4 : Blk w15 (w12.heap.size) #[.int .i64 23, .int .i64 5, .int .i64 59, .int .i64 10] 30 := Blk.later hb (by (repeat' (first | (with_reducible assumption) | (with_reducible refine Blk.set2 ?_) | ((with_reducible refine Blk.new ?_); first | rfl | (simp; done)) | (with_reducible refine Blk.later (by assumption) ?_) | (with_reducible refine Blk.alloc ?_) | (with_reducible refine Blk.drewN ?_) | (with_reducible refine Blk.drew ?_) | (with_reducible refine Blk.other ?_ (by first | omega | (simp; done) | (simp; omega))))))
    clear k4 a4 b4 y4
    have k4 := kn4; clear kn4; obtain ⟨a4, b4⟩ := k4.read; have y4 := k4.lt
    replace hBw : Below w.heap.size w w15 := belowThru (by (repeat' (first | (with_reducible exact Below.refl _ _) | (with_reducible assumption) | (with_reducible refine belowThru ?_ (by assumption)) | (with_reducible refine belowAlloc ?_) | (with_reducible refine Below.setCell ?_ (by first | omega | (simp; done) | (simp; omega)) _) | (with_reducible refine Below.drew ?_) | (with_reducible refine below_drewN ?_ _)))) hb
    have hzw15 := hBw.size
    clear hb
    clear kS
    go_wp2_with fail
    refine (T67.out _).mono ?_
    rintro e w16 ⟨rfl, hb⟩
    have kn4 : Blk w16 (w12.heap.size) #[.int .i64 23, .int .i64 5, .int .i64 59, .int .i64 10] 30 := Blk.later hb (by (repeat' (first | (with_reducible assumption) | (with_reducible refine Blk.set2 ?_) | ((with_reducible refine Blk.new ?_); first | rfl | (simp; done)) | (with_reducible refine Blk.later (by assumption) ?_) | (with_reducible refine Blk.alloc ?_) | (with_reducible refine Blk.drewN ?_) | (with_reducible refine Blk.drew ?_) | (with_reducible refine Blk.other ?_ (by first | omega | (simp; done) | (simp; omega))))))
    have kn5 : Blk w16 (w15.heap.size) #[.int .i64 23, .int .i64 5, .int .i64 59, .int .i64 10] 30 := Blk.later hb (by (repeat' (first | (with_reducible assumption) | (with_reducible refine Blk.set2 ?_) | ((with_reducible refine Blk.new ?_); first | rfl | (simp; done)) | (with_reducible refine Blk.later (by assumption) ?_) | (with_reducible refine Blk.alloc ?_) | (with_reducible refine Blk.drewN ?_) | (with_reducible refine Blk.drew ?_) | (with_reducible refine Blk.other ?_ (by first | omega | (simp; done) | (simp; omega))))))
    clear k4 a4 b4 y4
    have k4 := kn4; clear kn4; obtain ⟨a4, b4⟩ := k4.read; have y4 := k4.lt
    have k5 := kn5; clear kn5; obtain ⟨a5, b5⟩ := k5.read; have y5 := k5.lt
    replace hBw : Below w.heap.size w w16 := belowThru (by (repeat' (first | (with_reducible exact Below.refl _ _) | (with_reducible assumption) | (with_reducible refine belowThru ?_ (by assumption)) | (with_reducible refine belowAlloc ?_) | (with_reducible refine Below.setCell ?_ (by first | omega | (simp; done) | (simp; omega)) _) | (with_reducible refine Below.drew ?_) | (with_reducible refine below_drewN ?_ _)))) hb
    have hzw16 := hBw.size
    clear hb
    go_wp2_with fail
    refine (sample_any _).mono ?_
    rintro e w17 ⟨bs, rfl, hbs, kS, hb⟩
    clear hbs
    have kn4 : Blk w17 (w12.heap.size) #[.int .i64 23, .int .i64 5, .int .i64 59, .int .i64 10] 30 := Blk.later hb (by (repeat' (first | (with_reducible assumption) | (with_reducible refine Blk.set2 ?_) | ((with_reducible refine Blk.new ?_); first | rfl | (simp; done)) | (with_reducible refine Blk.later (by assumption) ?_) | (with_reducible refine Blk.alloc ?_) | (with_reducible refine Blk.drewN ?_) | (with_reducible refine Blk.drew ?_) | (with_reducible refine Blk.other ?_ (by first | omega | (simp; done) | (simp; omega))))))
    have kn5 : Blk w17 (w15.heap.size) #[.int .i64 23, .int .i64 5, .int .i64 59, .int .i64 10] 30 := Blk.later hb (by (repeat' (first | (with_reducible assumption) | (with_reducible refine Blk.set2 ?_) | ((with_reducible refine Blk.new ?_); first | rfl | (simp; done)) | (with_reducible refine Blk.later (by assumption) ?_) | (with_reducible refine Blk.alloc ?_) | (with_reducible refine Blk.drewN ?_) | (with_reducible refine Blk.drew ?_) | (with_reducible refine Blk.other ?_ (by first | omega | (simp; done) | (simp; omega))))))
    clear k4 a4 b4 y4
    clear k5 a5 b5 y5
    have k4 := kn4; clear kn4; obtain ⟨a4, b4⟩ := k4.read; have y4 := k4.lt
    have k5 := kn5; clear kn5; obtain ⟨a5, b5⟩ := k5.read; have y5 := k5.lt
    replace hBw : Below w.heap.size w w17 := belowThru (by (repeat' (first | (with_reducible exact Below.refl _ _) | (with_reducible assumption) | (with_reducible refine belowThru ?_ (by assumption)) | (with_reducible refine belowAlloc ?_) | (with_reducible refine Below.setCell ?_ (by first | omega | (simp; done) | (simp; omega)) _) | (with_reducible refine Below.drew ?_) | (with_reducible refine below_drewN ?_ _)))) hb
    have hzw17 := hBw.size
    clear hb
    go_wp2_with fail
    refine (M3.out _ _ kS).mono ?_
    rintro e w18 ⟨rfl, hb⟩
    have kn4 : Blk w18 (w12.heap.size) #[.int .i64 23, .int .i64 5, .int .i64 59, .int .i64 10] 30 := Blk.later hb (by (repeat' (first | (with_reducible assumption) | (with_reducible refine Blk.set2 ?_) | ((with_reducible refine Blk.new ?_); first | rfl | (simp; done)) | (with_reducible refine Blk.later (by assumption) ?_) | (with_reducible refine Blk.alloc ?_) | (with_reducible refine Blk.drewN ?_) | (with_reducible refine Blk.drew ?_) | (with_reducible refine Blk.other ?_ (by first | omega | (simp; done) | (simp; omega))))))
    have kn5 : Blk w18 (w15.heap.size) #[.int .i64 23, .int .i64 5, .int .i64 59, .int .i64 10] 30 := Blk.later hb (by (repeat' (first | (with_reducible assumption) | (with_reducible refine Blk.set2 ?_) | ((with_reducible refine Blk.new ?_); first | rfl | (simp; done)) | (with_reducible refine Blk.later (by assumption) ?_) | (with_reducible refine Blk.alloc ?_) | (with_reducible refine Blk.drewN ?_) | (with_reducible refine Blk.drew ?_) | (with_reducible refine Blk.other ?_ (by first | omega | (simp; done) | (simp; omega))))))
    clear k4 a4 b4 y4
    clear k5 a5 b5 y5
    have k4 := kn4; clear kn4; obtain ⟨a4, b4⟩ := k4.read; have y4 := k4.lt
    have k5 := kn5; clear kn5; obtain ⟨a5, b5⟩ := k5.read; have y5 := k5.lt
    replace hBw : Below w.heap.size w w18 := belowThru (by (repeat' (first | (with_reducible exact Below.refl _ _) | (with_reducible assumption) | (with_reducible refine belowThru ?_ (by assumption)) | (with_reducible refine belowAlloc ?_) | (with_reducible refine Below.setCell ?_ (by first | omega | (simp; done) | (simp; omega)) _) | (with_reducible refine Below.drew ?_) | (with_reducible refine below_drewN ?_ _)))) hb
    have hzw18 := hBw.size
    clear hb
    clear kS
    go_wp2_with fail
    obtain ⟨Wp, hWp⟩ : ∃ Wp, (w18.alloc (.cells #[.int .i64 23, .int .i64 5, .int .i64 59, .int .i64 10] 30)) = Wp := ⟨_, rfl⟩
    have kn4 : Blk Wp (w12.heap.size) #[.int .i64 23, .int .i64 5, .int .i64 59, .int .i64 10] 30 := by rw [← hWp]; (repeat' (first | (with_reducible assumption) | ((with_reducible refine Blk.new ?_); first | rfl | (simp; done)) | (with_reducible refine Blk.later (by assumption) ?_) | (with_reducible refine Blk.alloc ?_) | (with_reducible refine Blk.drewN ?_) | (with_reducible refine Blk.drew ?_) | (with_reducible refine Blk.other ?_ (by first | omega | (simp; done) | (simp; omega)))))
    have kn5 : Blk Wp (w15.heap.size) #[.int .i64 23, .int .i64 5, .int .i64 59, .int .i64 10] 30 := by rw [← hWp]; (repeat' (first | (with_reducible assumption) | ((with_reducible refine Blk.new ?_); first | rfl | (simp; done)) | (with_reducible refine Blk.later (by assumption) ?_) | (with_reducible refine Blk.alloc ?_) | (with_reducible refine Blk.drewN ?_) | (with_reducible refine Blk.drew ?_) | (with_reducible refine Blk.other ?_ (by first | omega | (simp; done) | (simp; omega)))))
    have kn6 : Blk Wp (w18.heap.size) #[.int .i64 23, .int .i64 5, .int .i64 59, .int .i64 10] 30 := by rw [← hWp]; (repeat' (first | (with_reducible assumption) | ((with_reducible refine Blk.new ?_); first | rfl | (simp; done)) | (with_reducible refine Blk.later (by assumption) ?_) | (with_reducible refine Blk.alloc ?_) | (with_reducible refine Blk.drewN ?_) | (with_reducible refine Blk.drew ?_) | (with_reducible refine Blk.other ?_ (by first | omega | (simp; done) | (simp; omega)))))
    replace hBw : Below w.heap.size w Wp := by rw [← hWp]; (repeat' (first | (with_reducible exact Below.refl _ _) | (with_reducible assumption) | (with_reducible refine belowThru ?_ (by assumption)) | (with_reducible refine belowAlloc ?_) | (with_reducible refine Below.setCell ?_ (by first | omega | (simp; done) | (simp; omega)) _) | (with_reducible refine Below.drew ?_) | (with_reducible refine below_drewN ?_ _)))
    clear k4 a4 b4 y4
    clear k5 a5 b5 y5
    rw [hWp]
    clear hWp
    have k4 := kn4; clear kn4; have y4 := k4.lt
    have k5 := kn5; clear kn5; have y5 := k5.lt
    have k6 := kn6; clear kn6; have y6 := k6.lt
    go_region_held3 (fun w' => (Blk w' (w12.heap.size) #[.int .i64 23, .int .i64 5, .int .i64 59, .int .i64 10] 30 ∧ (∀ i : Nat, w'.cell? ⟨w12.heap.size, i, none⟩ = (#[.int .i64 23, .int .i64 5, .int .i64 59, .int .i64 10] : Array Value)[i]?)) ∧ Below Wp.heap.size Wp w')
      (((first | (apply hold1; (focus assumption); intro p0 pB) | skip); refine ⟨Blk.full ?_, ?_⟩; all_goals (first | ((repeat' (first | (with_reducible assumption) | ((with_reducible refine Blk.new ?_); first | rfl | (simp; done)) | (with_reducible refine Blk.later (by assumption) ?_) | (with_reducible refine Blk.alloc ?_) | (with_reducible refine Blk.drewN ?_) | (with_reducible refine Blk.drew ?_) | (with_reducible refine Blk.other ?_ (by first | omega | (simp; done) | (simp; omega))))); done) | ((repeat' (first | (with_reducible exact Below.refl _ _) | (with_reducible assumption) | (with_reducible refine belowThru ?_ (by assumption)) | (with_reducible refine belowAlloc ?_) | (with_reducible refine Below.setCell ?_ (by first | omega | (simp; done) | (simp; omega)) _) | (with_reducible refine Below.drew ?_) | (with_reducible refine below_drewN ?_ _))); done) | exact Below.refl _ _)))
      (first
      | (go_at_call 23; (with_reducible refine (F23_5.out _).mono ?_); rintro e w1 ⟨rfl, hb⟩)
      | (go_at_call 23; (with_reducible refine (F59_10.out _).mono ?_); rintro e w1 ⟨rfl, hb⟩))
    all_goals
      apply hold1; (focus assumption); intro p0 pB
      go_wp2_with fail
      go_ret
      exact ⟨rfl, belowThru hBw pB⟩
end Go.Proofs.Ytbcgebobfnclnaa
/-
  What the widths of an edge mean: the shared mathematics.
-/
namespace Go.Proofs.Ytbcgebobfnclnaa
open Go.RowKit Go.Shelf
set_option linter.unusedVariables false
set_option linter.unusedSimpArgs false

/-- What Rise and Fall return, case by case. -/
theorem ri_bad {t : Int} {zs : List Int} {p nz : Int} (h1 : ¬ (okP zs ∧ okN nz)) : riE t zs p nz = (if okP zs then 2 else 50) ∧ faE t zs p nz = (if okP zs then 2 else 50) ∧ riS t zs p nz = none ∧ faS t zs p nz = none := by
  refine ⟨?_, ?_, if_neg (fun h => h1 ⟨h.1, h.2.1⟩), if_neg (fun h => h1 ⟨h.1, h.2.1⟩)⟩
  · by_cases hz : okP zs
    · rw [if_pos hz]; exact asE_arg hz (fun h => h1 ⟨hz, h.1⟩)
    · rw [if_neg hz]; exact asE_no hz
  · by_cases hz : okP zs
    · rw [if_pos hz]; exact asE_arg hz (fun h => h1 ⟨hz, h.1⟩)
    · rw [if_neg hz]; exact asE_no hz
theorem ri_arg {t : Int} {zs : List Int} {p nz : Int} (h1 : okP zs) (h2 : ¬ (okT t ∧ inL zs p)) : riE t zs p nz = 2 ∧ faE t zs p nz = 2 ∧ riS t zs p nz = none ∧ faS t zs p nz = none :=
  ⟨asE_arg h1 (fun h => h2 h.2), asE_arg h1 (fun h => h2 h.2), if_neg (fun h => h2 h.2.2), if_neg (fun h => h2 h.2.2)⟩
theorem both_none (x : Option Rat) : both x none = none := by unfold both; split <;> first | rfl | simp_all
theorem both_none' (x : Option Rat) : both none x = none := by unfold both; split <;> first | rfl | simp_all
theorem ri_some {t : Int} {zs : List Int} {p nz : Int} (h1 : okP zs ∧ okN nz) (h2 : okT t ∧ inL zs p) {x y : Rat} (hx : FX t (lwL nz zs) p.toNat = some x) (hy : FX t (upL nz zs) p.toNat = some y) : riE t zs p nz = 0 ∧ riS t zs p nz = some (y, x) := by
  constructor
  · rw [show riE t zs p nz = _ from asE_ok h1.1 ⟨h1.2, h2⟩, hx]; rfl
  · rw [show riS t zs p nz = _ from if_pos ⟨h1.1, h1.2, h2⟩, hx, hy]; rfl
theorem fa_some {t : Int} {zs : List Int} {p nz : Int} (h1 : okP zs ∧ okN nz) (h2 : okT t ∧ inL zs p) {x y : Rat} (hx : LX t (lwL nz zs) p.toNat = some x) (hy : LX t (upL nz zs) p.toNat = some y) : faE t zs p nz = 0 ∧ faS t zs p nz = some (x, y) := by
  constructor
  · rw [show faE t zs p nz = _ from asE_ok h1.1 ⟨h1.2, h2⟩, hx]; rfl
  · rw [show faS t zs p nz = _ from if_pos ⟨h1.1, h1.2, h2⟩, hx, hy]; rfl

end Go.Proofs.Ytbcgebobfnclnaa
/-
  Layer 5: less noise, narrower spans.
-/
namespace Go.Proofs.Ytbcgebobfnclnaa
set_option linter.unusedVariables false
set_option linter.unusedSimpArgs false

theorem asE_zero {zs : List Int} {ok : Prop} [Decidable ok] {b : Bool} (h : asE zs ok b = 0) : okP zs ∧ ok ∧ b = true := by
  by_cases h1 : okP zs
  · by_cases h2 : ok
    · rw [asE_ok h1 h2] at h
      refine ⟨h1, h2, ?_⟩
      cases b with
      | true => rfl
      | false => cases h
    · rw [asE_arg h1 h2] at h; cases h
  · rw [asE_no h1] at h; cases h
theorem some_of {x : Option Rat} (h : x.isSome = true) : ∃ q, x = some q := by cases x with
  | none => cases h
  | some q => exact ⟨q, rfl⟩
theorem LeL.len {q r : List Int} (h : LeL q r) : r.length = q.length := h.1
/-- What a found span is. -/
theorem ri_found {t : Int} {zs : List Int} {p nz : Int} (h : riE t zs p nz = 0) : okP zs ∧ okN nz ∧ okT t ∧ inL zs p ∧ ∃ x y, FX t (lwL nz zs) p.toNat = some x ∧ FX t (upL nz zs) p.toNat = some y ∧ y ≤ x ∧ fits x ∧ fits y ∧ riS t zs p nz = some (y, x) := by
  obtain ⟨h1, ⟨h2, h3, h4⟩, hb⟩ := asE_zero h
  obtain ⟨x, hx⟩ := some_of hb
  obtain ⟨y, hy, hyx⟩ := FX_le (lw_up h1.2 h2.1) hx
  have hp : p.toNat < zs.length := by have := h4.1; have := h4.2; omega
  exact ⟨h1, h2, h3, h4, x, y, hx, hy, hyx, (FX_fits (lwL_ok h1 h2.1) h3.1 (by rw [lwL_length]; exact hp) hx).2, (FX_fits (upL_ok h1 h2.1) h3.1 (by rw [upL_length]; exact hp) hy).2, (ri_some ⟨h1, h2⟩ ⟨h3, h4⟩ hx hy).2⟩
theorem fa_found {t : Int} {zs : List Int} {p nz : Int} (h : faE t zs p nz = 0) : okP zs ∧ okN nz ∧ okT t ∧ inL zs p ∧ ∃ x y, LX t (lwL nz zs) p.toNat = some x ∧ LX t (upL nz zs) p.toNat = some y ∧ x ≤ y ∧ fits x ∧ fits y ∧ faS t zs p nz = some (x, y) := by
  obtain ⟨h1, ⟨h2, h3, h4⟩, hb⟩ := asE_zero h
  obtain ⟨x, hx⟩ := some_of hb
  have hp : p.toNat < zs.length := by have := h4.1; have := h4.2; omega
  obtain ⟨y, hy, hyx⟩ := LX_le (lw_up h1.2 h2.1) (by rw [lwL_length]; exact hp) hx
  exact ⟨h1, h2, h3, h4, x, y, hx, hy, hyx, (LX_fits (lwL_ok h1 h2.1) h3.1 (by rw [lwL_length]; exact hp) hx).2, (LX_fits (upL_ok h1 h2.1) h3.1 (by rw [upL_length]; exact hp) hy).2, (fa_some ⟨h1, h2⟩ ⟨h3, h4⟩ hx hy).2⟩
theorem wi_found {t : Int} {zs : List Int} {nz : Int} (h : wiE t zs nz = 0) : okP zs ∧ okN nz ∧ okT t ∧ ∃ x y, WX t (lwL nz zs) = some x ∧ WX t (upL nz zs) = some y ∧ x ≤ y ∧ fits x ∧ fits y ∧ wiS t zs nz = some (x, y) := by
  obtain ⟨h1, ⟨h2, h3⟩, hb⟩ := asE_zero h
  obtain ⟨x, hx⟩ := some_of hb
  have zl := lwL_ok h1 h2.1
  obtain ⟨y, hy, hyx⟩ := WX_le (lw_up h1.2 h2.1) (by have := zl.1; omega) hx
  exact ⟨h1, h2, h3, x, y, hx, hy, hyx, (WX_fits zl h3.1 hx).2, (WX_fits (upL_ok h1 h2.1) h3.1 hy).2, by rw [show wiS t zs nz = _ from if_pos ⟨h1, h2, h3⟩, hx, hy]; rfl⟩
end Go.Proofs.Ytbcgebobfnclnaa
/-
  Layer 5: a list in reverse order, and the values that a noise allows, by the statements' own text.
-/
namespace Go.Proofs.Ytbcgebobfnclnaa
open Go.RowKit Go.Shelf
set_option linter.unusedVariables false
set_option linter.unusedSimpArgs false

theorem info_tin : (Try.prog.info? 3).map (fun i => (i.zero, i.size, i.bytes)) = some (some (.int .i64 0), 1, 8) := by kernel_rfl
theorem ownsRow_row {w : World} {base : Nat} {v : Value} {zs : List Int} (h : w.ownsRow base 3 1 v zs.length (iv zs)) : ∃ a c, v = .slice a zs.length c ∧ Row w a zs.length (iv zs) := by
  rcases h.2 with ⟨rfl, h0⟩ | ⟨g, cap, cur, rfl, hb, hh, hnc, _, hcs, ht⟩
  · exact ⟨none, 0, by rw [h0], ⟨iv_length zs, fun hn => absurd hn (by omega)⟩⟩
  · refine ⟨_, _, rfl, ⟨iv_length zs, fun hn => ⟨g, 0, rfl, lt_of_block hh, fun j hj => ?_⟩⟩⟩
    have e : w.cell? ⟨g, 0 + j, none⟩ = cur[j]? := by simp [World.cell?, hh]
    rw [e, ← ht, Nat.mul_one, List.getElem?_take_of_lt hj, Array.getElem?_toList]
theorem below_growL {w wr W w3 : World} {v : Value} {n : Nat} {xs : List Value} (hown : wr.ownsRow w.heap.size 3 1 v n xs) (hW : Below w.heap.size w W) (hg : W.grownBy w3 v.ownBlock) : Below w.heap.size w w3 :=
  hW.grown hg hW.size (fun k hk => by have := (hown.lt k hk).1; omega)
theorem own_map {w : World} {base : Nat} {v : Value} {k : Nat} {f : Nat → Int} (h : w.ownsRow base 3 1 v (k + 1) (iv ((List.range k).map f) ++ [.int .i64 (f k)])) : w.ownsRow base 3 1 v (k + 1) (iv ((List.range (k + 1)).map f)) := by
  have e : iv ((List.range (k + 1)).map f) = iv ((List.range k).map f) ++ [.int .i64 (f k)] := by simp [iv, List.range_succ]
  rw [e]; exact h
/-- A list that reads as the numbers for the indices. -/
def RetM (f : Nat → Int) (n : Nat) (w : World) (e : Ending) (w' : World) : Prop :=
  ∃ (v : Option Addr) (c : Nat), e = .returned (.slice v n c) ∧ Row w' v n (iv ((List.range n).map f)) ∧ Below w.heap.size w w'

set_option maxRecDepth 100000 in
set_option maxHeartbeats 4000000 in
theorem rev_any (a : Option Addr) (n c : Nat) (zs : List Int) (hn : n ≤ 100) (w : World) (hR : Row w a n (iv zs)) :
    Calls Try.prog 49 #[.slice a n c] w (RetM (fun k => zs[n - 1 - k]?.getD 0) n w) := by
  have HR := Lib.hid hR
  obtain ⟨i0, hi, hz0, hz1, hz2⟩ := info_parts info_tin
  obtain ⟨f, hf⟩ : ∃ f : Nat → Int, (fun k => zs[n - 1 - k]?.getD 0) = f := ⟨_, rfl⟩
  have HF : Hid (∀ k, f k = zs[n - 1 - k]?.getD 0) := fun k => by rw [← hf]
  rw [hf]
  clear hR hf
  go_enter Try.func49, Try.ntmps49
  go_wp2
  go_loopw [3, 7] (fun v s7 wr => ∃ k : Nat, k ≤ n ∧ s7 = .int .i64 k ∧ wr.ownsRow w.heap.size 3 1 v k (iv ((List.range k).map f)) ∧ Below w.heap.size w wr) (fun _ s7 _ => n - (intOf s7).toNat)
  case atStart => exact ⟨0, Nat.zero_le _, rfl, World.ownsRow_nil _ _ _ _, by (repeat' (first | (with_reducible exact Below.refl _ _) | (with_reducible assumption) | (with_reducible refine belowThru ?_ (by assumption)) | (with_reducible refine belowAlloc ?_) | (with_reducible refine Below.setCell ?_ (by first | omega | (simp; done) | (simp; omega)) _) | (with_reducible refine Below.drew ?_) | (with_reducible refine below_drewN ?_ _)))⟩
  case round =>
    obtain ⟨k, hk, rfl, hown, hB⟩ := hrel
    have p0 : (0 : Int) ≤ (k : Int) := by omega
    by_cases hlt : k < n
    · have p1 : (k : Int) < (n : Int) := by omega
      obtain ⟨j, hj⟩ : ∃ j : Nat, j = n - 1 - k := ⟨_, rfl⟩
      obtain ⟨bb, oo, z, rfl, hbb, hz, cz⟩ := HR.out.int (show j < n by omega)
      have cz := cell_later hB cz
      have hfz : f k = z := by rw [HF.out k, ← hj, hz]; rfl
      have w1 : IntKind.i64.wrap ((n : Int) - 1) = (n : Int) - 1 := IntWalk.i64_in _ (by omega)
      have w2 : IntKind.i64.wrap ((n : Int) - 1 - (k : Int)) = (j : Int) := by rw [show (n : Int) - 1 - (k : Int) = (j : Int) by omega]; exact IntWalk.i64_in _ (by omega)
      have j0 : (0 : Int) ≤ (j : Int) := by omega
      have j1 : (j : Int) < (n : Int) := by omega
      have hzB := hB.size
      clear hj hz
      go_wp2_with (at_builtin; refine wpList_append_own _ rfl _ _ 27 rfl w.heap.size 3 i0 (.int .i64 0) 1 8 Try.underlying27 hi hz0 hz1 hz2 rfl (by decide) _ _ _ rfl (hown.alloc _) ⟨wr.heap.size, 0, none⟩ 1 1 [.int .i64 z] rfl rfl (cell_one_new _ _ _) (fun x hx => by simp at hx; subst hx; rfl) (by unfold maxLen; omega) (by omega) (by simp; omega) ?_; intro v' w3 hown' hgrow3 hnil3)
      have hB' := below_growL hown (belowAlloc hB) hgrow3
      rw [← hfz] at hown'
      have HO := Lib.hid (own_map hown')
      clear hown' hgrow3 hnil3 hown
      go_roundw
      case rel => exact ⟨k + 1, hlt, by go_num, HO.out, hB'⟩
      case measure => simp [intOf]; omega
    · obtain rfl : k = n := by omega
      have hln : ((List.range k).map f).length = k := by simp
      obtain ⟨v, e, rfl, hr⟩ := ownsRow_row (zs := (List.range k).map f) (by rw [hln]; exact hown)
      rw [hln] at hr ⊢
      have HQ := Lib.hid hr
      clear hr hown hln
      go_wp2
      go_ret
      exact ⟨v, e, rfl, HQ.out, hB⟩
/-- The move of a value, and the value that it makes, in quarters. -/
def byA (ms : List Int) (nz : Int) (k : Nat) : Int := if k < ms.length then (ms[k]?.getD 0).tmod (4 * nz + 1) else 0
def alV (zs ms : List Int) (nz : Int) (k : Nat) : Int := min 1020 (max 0 (4 * zs[k]?.getD 0 + byA ms nz k))
/-- Small whole numbers as values. -/
def hv (ms : List Int) : List Value := ms.map (Value.int .i16)
theorem hv_length (ms : List Int) : (hv ms).length = ms.length := by simp [hv]
theorem Row.i16 {w : World} {a : Option Addr} {n : Nat} {ms : List Int} (h : Row w a n (hv ms)) {k : Nat} (hk : k < n) :
    ∃ b off z, a = some ⟨b, off, none⟩ ∧ ms[k]? = some z ∧ w.cell? ⟨b, off + k, none⟩ = some (.int .i16 z) := by
  obtain ⟨b, off, ha, hlt, hc⟩ := h.2 (by omega)
  have hl : k < ms.length := by have := h.1; rw [hv_length] at this; omega
  refine ⟨b, off, ms[k], ha, List.getElem?_eq_getElem hl, ?_⟩
  rw [hc k hk]; simp [hv, List.getElem?_eq_getElem hl]
theorem tmod_bd (x N : Int) (hN : 0 ≤ N) : -N ≤ x.tmod (N + 1) ∧ x.tmod (N + 1) ≤ N := by
  have l : (x.tmod (N + 1)).natAbs < (N + 1).natAbs := by rw [Int.natAbs_tmod]; exact Nat.mod_lt _ (by omega)
  omega

set_option maxRecDepth 100000 in
set_option maxHeartbeats 4000000 in
theorem alw_any (a : Option Addr) (n c : Nat) (zs : List Int) (a' : Option Addr) (m c' : Nat) (ms : List Int) (nz : Int) (hn : n ≤ 100) (hm : m ≤ maxLen) (hz : ∀ z ∈ zs, 0 ≤ z ∧ z ≤ 255) (hN : 0 ≤ nz ∧ nz ≤ 64) (hms : ∀ z ∈ ms, -32768 ≤ z ∧ z ≤ 32767) (w : World) (hR : Row w a n (iv zs)) (hM : Row w a' m (hv ms)) :
    Calls Try.prog 52 #[.slice a n c, .slice a' m c', .int .i64 nz] w (RetM (alV zs ms nz) n w) := by
  have HR := Lib.hid hR
  have HM := Lib.hid hM
  have hml : ms.length = m := by have := hM.1; rwa [hv_length] at this
  obtain ⟨i0, hi, hz0, hz1, hz2⟩ := info_parts info_tin
  obtain ⟨f, hf⟩ : ∃ f : Nat → Int, alV zs ms nz = f := ⟨_, rfl⟩
  have HF : Hid (∀ k, f k = min 1020 (max 0 (4 * zs[k]?.getD 0 + byA ms nz k))) := fun k => by rw [← hf]; rfl
  have HZ := Lib.hid hz
  have HS := Lib.hid hms
  have HL := Lib.hid hml
  unfold maxLen at hm
  have w1 : IntKind.i64.wrap (4 * nz) = 4 * nz := IntWalk.i64_in _ (by omega)
  have w2 : IntKind.i64.wrap (4 * nz + 1) = 4 * nz + 1 := IntWalk.i64_in _ (by omega)
  have w3 : ¬ 4 * nz + 1 = 0 := by omega
  rw [hf]
  clear hR hM hf hz hms hml
  go_enter Try.func52, Try.ntmps52
  go_wp2
  go_loopw [7, 12] (fun v s12 wr => ∃ k : Nat, k ≤ n ∧ s12 = .int .i64 k ∧ wr.ownsRow w.heap.size 3 1 v k (iv ((List.range k).map f)) ∧ Below w.heap.size w wr) (fun _ s12 _ => n - (intOf s12).toNat)
  case atStart => exact ⟨0, Nat.zero_le _, rfl, World.ownsRow_nil _ _ _ _, by (repeat' (first | (with_reducible exact Below.refl _ _) | (with_reducible assumption) | (with_reducible refine belowThru ?_ (by assumption)) | (with_reducible refine belowAlloc ?_) | (with_reducible refine Below.setCell ?_ (by first | omega | (simp; done) | (simp; omega)) _) | (with_reducible refine Below.drew ?_) | (with_reducible refine below_drewN ?_ _)))⟩
  case round =>
    obtain ⟨k, hk, rfl, hown, hB⟩ := hrel
    have p0 : (0 : Int) ≤ (k : Int) := by omega
    by_cases hlt : k < n
    · have p1 : (k : Int) < (n : Int) := by omega
      obtain ⟨bb, oo, z, rfl, hbb, hz, cz⟩ := HR.out.int hlt
      have cz := cell_later hB cz
      have hzz := HZ.out z (List.mem_of_getElem? hz)
      have w4 : IntKind.i64.wrap (4 * z) = 4 * z := IntWalk.i64_in _ (by omega)
      have hzB := hB.size
      by_cases hkm : k < m
      · have p2 : (k : Int) < (m : Int) := by omega
        obtain ⟨b2, o2, x, rfl, hx, cx⟩ := HM.out.i16 hkm
        have cx := cell_later hB cx
        have hxx := HS.out x (List.mem_of_getElem? hx)
        have w5 : IntKind.i64.wrap x = x := IntWalk.i64_in _ (by omega)
        have tb := tmod_bd x (4 * nz) (by omega)
        obtain ⟨r, hr⟩ : ∃ r, x.tmod (4 * nz + 1) = r := ⟨_, rfl⟩
        have hby : byA ms nz k = r := by unfold byA; rw [if_pos (by rw [HL.out]; exact hkm), hx, ← hr]; rfl
        rw [hr] at tb
        have w6 : IntKind.i64.wrap (x.tmod (4 * nz + 1)) = r := by rw [hr]; exact IntWalk.i64_in _ (by omega)
        have w7 : IntKind.i64.wrap (4 * z + r) = 4 * z + r := IntWalk.i64_in _ (by omega)
        have hfz : f k = min 1020 (max 0 (4 * z + r)) := by rw [HF.out k, hz, hby]; rfl
        have HFZ := Lib.hid hfz
        clear hfz hby hz hx w6
        go_wp2_with (at_builtin; refine wpList_append_own _ rfl _ _ 27 rfl w.heap.size 3 i0 (.int .i64 0) 1 8 Try.underlying27 hi hz0 hz1 hz2 rfl (by decide) _ _ _ rfl (hown.alloc _) ⟨wr.heap.size, 0, none⟩ 1 1 [.int .i64 (min 1020 (max 0 (4 * z + r)))] rfl rfl (cell_one_new _ _ _) (fun x hx => by simp at hx; subst hx; rfl) (by unfold maxLen; omega) (by omega) (by simp; omega) ?_; intro v' w3 hown' hgrow3 hnil3)
        have hB' := below_growL hown (belowAlloc hB) hgrow3
        rw [← HFZ.out] at hown'
        have HO := Lib.hid (own_map hown')
        clear hown' hgrow3 hnil3 hown
        go_roundw
        case rel => exact ⟨k + 1, hlt, by go_num, HO.out, hB'⟩
        case measure => simp [intOf]; omega
      · have p2 : (m : Int) ≤ (k : Int) := by omega
        have hby : byA ms nz k = 0 := by unfold byA; rw [if_neg (by rw [HL.out]; exact hkm)]
        have hfz : f k = min 1020 (max 0 (4 * z)) := by rw [HF.out k, hz, hby, Int.add_zero]; rfl
        have HFZ := Lib.hid hfz
        clear hfz hby hz
        go_wp2_with (at_builtin; refine wpList_append_own _ rfl _ _ 27 rfl w.heap.size 3 i0 (.int .i64 0) 1 8 Try.underlying27 hi hz0 hz1 hz2 rfl (by decide) _ _ _ rfl (hown.alloc _) ⟨wr.heap.size, 0, none⟩ 1 1 [.int .i64 (min 1020 (max 0 (4 * z)))] rfl rfl (cell_one_new _ _ _) (fun x hx => by simp at hx; subst hx; rfl) (by unfold maxLen; omega) (by omega) (by simp; omega) ?_; intro v' w3 hown' hgrow3 hnil3)
        have hB' := below_growL hown (belowAlloc hB) hgrow3
        rw [← HFZ.out] at hown'
        have HO := Lib.hid (own_map hown')
        clear hown' hgrow3 hnil3 hown
        go_roundw
        case rel => exact ⟨k + 1, hlt, by go_num, HO.out, hB'⟩
        case measure => simp [intOf]; omega
    · obtain rfl : k = n := by omega
      have hln : ((List.range k).map f).length = k := by simp
      obtain ⟨v, e, rfl, hr⟩ := ownsRow_row (zs := (List.range k).map f) (by rw [hln]; exact hown)
      rw [hln] at hr ⊢
      have HQ := Lib.hid hr
      clear hr hown hln
      go_wp2
      go_ret
      exact ⟨v, e, rfl, HQ.out, hB⟩
end Go.Proofs.Ytbcgebobfnclnaa
