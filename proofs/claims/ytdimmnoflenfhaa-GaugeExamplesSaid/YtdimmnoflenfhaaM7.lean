/-
  The texts that the laws of this seat share, merged: part 7.
-/
import Derived.BigQuiet
import Derived.Deep.CutBlock
import Derived.Deep.DeepCutAuto
import Derived.Deep.Draws
import Derived.Deep.LoopGhost
import Derived.Deep.OwnRows
import Derived.Deep.QuietTactic
import Derived.Deep.RegionHeld3
import Derived.IntWalk
import Derived.Laws.AppendOwn
import Derived.Laws.Bits64b
import Derived.Lib.Hide
import Derived.Lib.ItoaNum
import Derived.LoopIn
import Derived.LoopNIn
import Derived.LoopTactic
import Derived.OneCell
import Derived.Orders
import Derived.OwnWalkIn
import Derived.RangeFuncBound
import Derived.RangeFuncCalls
import Derived.RangeFuncLeaves
import Derived.RangeFuncNested
import Derived.Shelf.Abstract
import Derived.Shelf.AbstractIn
import Derived.Shelf.Bits.Mul64
import Derived.Shelf.RegionOpen
import Derived.Shelf.Small.Bits
import Derived.Shelf.Spec.BitsCarry
import Derived.Shelf.Strconv.Itoa0
import Derived.TacticsInMore
import Derived.Test.YtdimmnoflenfhaaProg
import Derived.WalkKit
import Derived.WalkLawsBesides
import Derived.WalkSmall
import Derived.WalkSpells
import Derived.Test.YtdimmnoflenfhaaM6
/-
  Layer 5: Decide, by the code.
-/
namespace Go.Proofs.Ytdimmnoflenfhaa
open Go.RowKit Go.Shelf
set_option linter.unusedVariables false
set_option linter.unusedSimpArgs false

set_option maxRecDepth 100000 in
set_option maxHeartbeats 4000000 in
theorem dec_none (s1 s2 s3 s4 l1 l2 h1 h2 A B C D : Int) (w : World)
    (H1 : Hid (∀ w, Calls Try.prog 46 #[.agg #[.int .i64 s1, .int .i64 s2, .int .i64 s3, .int .i64 s4]] w fun e w' => e = .returned (.int .i64 0) ∧ Below w.heap.size w w'))
    (H2 : Hid (∀ w, Calls Try.prog 46 #[.agg #[.int .i64 l1, .int .i64 l2, .int .i64 h1, .int .i64 h2]] w fun e w' => e = .returned (.int .i64 0) ∧ Below w.heap.size w w'))
    (HM : Hid (∀ w, Calls Try.prog 64 #[.agg #[.int .i64 s1, .int .i64 s2, .int .i64 s3, .int .i64 s4], .agg #[.int .i64 l1, .int .i64 l2, .int .i64 h1, .int .i64 h2]] w fun e w' => e = .returned (.tuple #[.agg #[.int .i64 A, .int .i64 B, .int .i64 C, .int .i64 D], .int .i64 6]) ∧ Below w.heap.size w w')) :
    Calls Try.prog 33 #[.agg #[.int .i64 s1, .int .i64 s2, .int .i64 s3, .int .i64 s4], .agg #[.int .i64 l1, .int .i64 l2], .agg #[.int .i64 h1, .int .i64 h2]] w fun e w' => e = .returned (.tuple #[.int .u8 2, .int .i64 0]) ∧ Below w.heap.size w w' := by
  go_enter Try.func33, Try.ntmps33
  go_wp2_with fail
  refine (H1.out _).mono ?_
  rintro e w1 ⟨rfl, hb⟩
  have k0 : Blk w1 w.heap.size #[.int .i64 s1, .int .i64 s2, .int .i64 s3, .int .i64 s4] 30 := Blk.later hb (by (repeat' (first | (with_reducible assumption) | (with_reducible refine Blk.set2 ?_) | ((with_reducible refine Blk.new ?_); first | rfl | (simp; done)) | (with_reducible refine Blk.later (by assumption) ?_) | (with_reducible refine Blk.alloc ?_) | (with_reducible refine Blk.drewN ?_) | (with_reducible refine Blk.drew ?_) | (with_reducible refine Blk.other ?_ (by first | omega | (simp; done) | (simp; omega))))))
  have k3 : Blk w1 (w.heap.size + 1 + 1 + 1) #[.int .i64 l1, .int .i64 l2, .int .i64 h1, .int .i64 h2] 30 := Blk.later hb (by (repeat' (first | (with_reducible assumption) | (with_reducible refine Blk.set2 ?_) | ((with_reducible refine Blk.new ?_); first | rfl | (simp; done)) | (with_reducible refine Blk.later (by assumption) ?_) | (with_reducible refine Blk.alloc ?_) | (with_reducible refine Blk.drewN ?_) | (with_reducible refine Blk.drew ?_) | (with_reducible refine Blk.other ?_ (by first | omega | (simp; done) | (simp; omega))))))
  obtain ⟨a3, b3⟩ := k3.read
  have hB1 : Below w.heap.size w w1 := by (repeat' (first | (with_reducible exact Below.refl _ _) | (with_reducible assumption) | (with_reducible refine belowThru ?_ (by assumption)) | (with_reducible refine belowAlloc ?_) | (with_reducible refine Below.setCell ?_ (by first | omega | (simp; done) | (simp; omega)) _) | (with_reducible refine Below.drew ?_) | (with_reducible refine below_drewN ?_ _)))
  clear hb
  go_wp2_with fail
  refine (H2.out _).mono ?_
  rintro e w2 ⟨rfl, hb⟩
  replace k0 := Blk.later hb k0
  replace k3 := Blk.later hb k3
  have hB2 := belowThru hB1 hb
  clear a3 b3 hB1 hb
  obtain ⟨a3, b3⟩ := k3.read
  obtain ⟨a0, b0⟩ := k0.read
  go_wp2_with fail
  refine (HM.out _).mono ?_
  rintro e w3 ⟨rfl, hb⟩
  replace k0 := Blk.later hb k0
  have hB3 := belowThru hB2 hb
  have y0 := k0.lt
  clear a3 b3 a0 b0 hb k3
  obtain ⟨a0, b0⟩ := k0.read
  go_wp2
  exact bodyPost_ret (v := .tuple #[.int .u8 2, .int .i64 0]) (by simp only [results, Try.results33]; go_simp) rfl ⟨rfl, by (repeat' (first | (with_reducible exact Below.refl _ _) | (with_reducible assumption) | (with_reducible refine belowThru ?_ (by assumption)) | (with_reducible refine belowAlloc ?_) | (with_reducible refine Below.setCell ?_ (by first | omega | (simp; done) | (simp; omega)) _) | (with_reducible refine Below.drew ?_) | (with_reducible refine below_drewN ?_ _)))⟩
set_option maxRecDepth 100000 in
set_option maxHeartbeats 4000000 in
theorem dec_yes (s1 s2 s3 s4 l1 l2 h1 h2 : Int) (w : World)
    (H1 : Hid (∀ w, Calls Try.prog 46 #[.agg #[.int .i64 s1, .int .i64 s2, .int .i64 s3, .int .i64 s4]] w fun e w' => e = .returned (.int .i64 0) ∧ Below w.heap.size w w'))
    (H2 : Hid (∀ w, Calls Try.prog 46 #[.agg #[.int .i64 l1, .int .i64 l2, .int .i64 h1, .int .i64 h2]] w fun e w' => e = .returned (.int .i64 0) ∧ Below w.heap.size w w'))
    (HM : Hid (∀ w, Calls Try.prog 64 #[.agg #[.int .i64 s1, .int .i64 s2, .int .i64 s3, .int .i64 s4], .agg #[.int .i64 l1, .int .i64 l2, .int .i64 h1, .int .i64 h2]] w fun e w' => e = .returned (.tuple #[.agg #[.int .i64 s1, .int .i64 s2, .int .i64 s3, .int .i64 s4], .int .i64 0]) ∧ Below w.heap.size w w')) :
    Calls Try.prog 33 #[.agg #[.int .i64 s1, .int .i64 s2, .int .i64 s3, .int .i64 s4], .agg #[.int .i64 l1, .int .i64 l2], .agg #[.int .i64 h1, .int .i64 h2]] w fun e w' => e = .returned (.tuple #[.int .u8 1, .int .i64 0]) ∧ Below w.heap.size w w' := by
  go_enter Try.func33, Try.ntmps33
  go_wp2_with fail
  refine (H1.out _).mono ?_
  rintro e w1 ⟨rfl, hb⟩
  have k0 : Blk w1 w.heap.size #[.int .i64 s1, .int .i64 s2, .int .i64 s3, .int .i64 s4] 30 := Blk.later hb (by (repeat' (first | (with_reducible assumption) | (with_reducible refine Blk.set2 ?_) | ((with_reducible refine Blk.new ?_); first | rfl | (simp; done)) | (with_reducible refine Blk.later (by assumption) ?_) | (with_reducible refine Blk.alloc ?_) | (with_reducible refine Blk.drewN ?_) | (with_reducible refine Blk.drew ?_) | (with_reducible refine Blk.other ?_ (by first | omega | (simp; done) | (simp; omega))))))
  have k3 : Blk w1 (w.heap.size + 1 + 1 + 1) #[.int .i64 l1, .int .i64 l2, .int .i64 h1, .int .i64 h2] 30 := Blk.later hb (by (repeat' (first | (with_reducible assumption) | (with_reducible refine Blk.set2 ?_) | ((with_reducible refine Blk.new ?_); first | rfl | (simp; done)) | (with_reducible refine Blk.later (by assumption) ?_) | (with_reducible refine Blk.alloc ?_) | (with_reducible refine Blk.drewN ?_) | (with_reducible refine Blk.drew ?_) | (with_reducible refine Blk.other ?_ (by first | omega | (simp; done) | (simp; omega))))))
  obtain ⟨a3, b3⟩ := k3.read
  have hB1 : Below w.heap.size w w1 := by (repeat' (first | (with_reducible exact Below.refl _ _) | (with_reducible assumption) | (with_reducible refine belowThru ?_ (by assumption)) | (with_reducible refine belowAlloc ?_) | (with_reducible refine Below.setCell ?_ (by first | omega | (simp; done) | (simp; omega)) _) | (with_reducible refine Below.drew ?_) | (with_reducible refine below_drewN ?_ _)))
  clear hb
  go_wp2_with fail
  refine (H2.out _).mono ?_
  rintro e w2 ⟨rfl, hb⟩
  replace k0 := Blk.later hb k0
  replace k3 := Blk.later hb k3
  have hB2 := belowThru hB1 hb
  clear a3 b3 hB1 hb
  obtain ⟨a3, b3⟩ := k3.read
  obtain ⟨a0, b0⟩ := k0.read
  go_wp2_with fail
  refine (HM.out _).mono ?_
  rintro e w3 ⟨rfl, hb⟩
  replace k0 := Blk.later hb k0
  have hB3 := belowThru hB2 hb
  have y0 := k0.lt
  clear a3 b3 a0 b0 hb k3
  obtain ⟨a0, b0⟩ := k0.read
  go_wp2
  exact bodyPost_ret (v := .tuple #[.int .u8 1, .int .i64 0]) (by simp only [results, Try.results33]; go_simp) rfl ⟨rfl, by (repeat' (first | (with_reducible exact Below.refl _ _) | (with_reducible assumption) | (with_reducible refine belowThru ?_ (by assumption)) | (with_reducible refine belowAlloc ?_) | (with_reducible refine Below.setCell ?_ (by first | omega | (simp; done) | (simp; omega)) _) | (with_reducible refine Below.drew ?_) | (with_reducible refine below_drewN ?_ _)))⟩
set_option maxRecDepth 100000 in
set_option maxHeartbeats 4000000 in
theorem dec_open (s1 s2 s3 s4 l1 l2 h1 h2 A B C D : Int) (w : World) (hne : ¬ (A = s1 ∧ B = s2 ∧ C = s3 ∧ D = s4))
    (H1 : Hid (∀ w, Calls Try.prog 46 #[.agg #[.int .i64 s1, .int .i64 s2, .int .i64 s3, .int .i64 s4]] w fun e w' => e = .returned (.int .i64 0) ∧ Below w.heap.size w w'))
    (H2 : Hid (∀ w, Calls Try.prog 46 #[.agg #[.int .i64 l1, .int .i64 l2, .int .i64 h1, .int .i64 h2]] w fun e w' => e = .returned (.int .i64 0) ∧ Below w.heap.size w w'))
    (HM : Hid (∀ w, Calls Try.prog 64 #[.agg #[.int .i64 s1, .int .i64 s2, .int .i64 s3, .int .i64 s4], .agg #[.int .i64 l1, .int .i64 l2, .int .i64 h1, .int .i64 h2]] w fun e w' => e = .returned (.tuple #[.agg #[.int .i64 A, .int .i64 B, .int .i64 C, .int .i64 D], .int .i64 0]) ∧ Below w.heap.size w w')) :
    Calls Try.prog 33 #[.agg #[.int .i64 s1, .int .i64 s2, .int .i64 s3, .int .i64 s4], .agg #[.int .i64 l1, .int .i64 l2], .agg #[.int .i64 h1, .int .i64 h2]] w fun e w' => e = .returned (.tuple #[.int .u8 3, .int .i64 0]) ∧ Below w.heap.size w w' := by
  go_enter Try.func33, Try.ntmps33
  go_wp2_with fail
  refine (H1.out _).mono ?_
  rintro e w1 ⟨rfl, hb⟩
  have k0 : Blk w1 w.heap.size #[.int .i64 s1, .int .i64 s2, .int .i64 s3, .int .i64 s4] 30 := Blk.later hb (by (repeat' (first | (with_reducible assumption) | (with_reducible refine Blk.set2 ?_) | ((with_reducible refine Blk.new ?_); first | rfl | (simp; done)) | (with_reducible refine Blk.later (by assumption) ?_) | (with_reducible refine Blk.alloc ?_) | (with_reducible refine Blk.drewN ?_) | (with_reducible refine Blk.drew ?_) | (with_reducible refine Blk.other ?_ (by first | omega | (simp; done) | (simp; omega))))))
  have k3 : Blk w1 (w.heap.size + 1 + 1 + 1) #[.int .i64 l1, .int .i64 l2, .int .i64 h1, .int .i64 h2] 30 := Blk.later hb (by (repeat' (first | (with_reducible assumption) | (with_reducible refine Blk.set2 ?_) | ((with_reducible refine Blk.new ?_); first | rfl | (simp; done)) | (with_reducible refine Blk.later (by assumption) ?_) | (with_reducible refine Blk.alloc ?_) | (with_reducible refine Blk.drewN ?_) | (with_reducible refine Blk.drew ?_) | (with_reducible refine Blk.other ?_ (by first | omega | (simp; done) | (simp; omega))))))
  obtain ⟨a3, b3⟩ := k3.read
  have hB1 : Below w.heap.size w w1 := by (repeat' (first | (with_reducible exact Below.refl _ _) | (with_reducible assumption) | (with_reducible refine belowThru ?_ (by assumption)) | (with_reducible refine belowAlloc ?_) | (with_reducible refine Below.setCell ?_ (by first | omega | (simp; done) | (simp; omega)) _) | (with_reducible refine Below.drew ?_) | (with_reducible refine below_drewN ?_ _)))
  clear hb
  go_wp2_with fail
  refine (H2.out _).mono ?_
  rintro e w2 ⟨rfl, hb⟩
  replace k0 := Blk.later hb k0
  replace k3 := Blk.later hb k3
  have hB2 := belowThru hB1 hb
  clear a3 b3 hB1 hb
  obtain ⟨a3, b3⟩ := k3.read
  obtain ⟨a0, b0⟩ := k0.read
  go_wp2_with fail
  refine (HM.out _).mono ?_
  rintro e w3 ⟨rfl, hb⟩
  replace k0 := Blk.later hb k0
  have hB3 := belowThru hB2 hb
  have y0 := k0.lt
  clear a3 b3 a0 b0 hb k3
  obtain ⟨a0, b0⟩ := k0.read
  go_wp2
  all_goals exact bodyPost_ret (v := .tuple #[.int .u8 3, .int .i64 0]) (by simp only [results, Try.results33]; go_simp) rfl ⟨rfl, by (repeat' (first | (with_reducible exact Below.refl _ _) | (with_reducible assumption) | (with_reducible refine belowThru ?_ (by assumption)) | (with_reducible refine belowAlloc ?_) | (with_reducible refine Below.setCell ?_ (by first | omega | (simp; done) | (simp; omega)) _) | (with_reducible refine Below.drew ?_) | (with_reducible refine below_drewN ?_ _)))⟩
/-- The verdict for a span and a tolerance. -/
def deV (l h m n : Rat) : Int := if ¬ hiQ l [m] ≤ loQ h [n] then 2 else if m ≤ l ∧ h ≤ n then 1 else 3
theorem dec_q (l h m n : Rat) (fl : fits l) (fh : fits h) (fm : fits m) (fn' : fits n) (hlh : l ≤ h) (hmn : m ≤ n) (w : World) :
    Calls Try.prog 33 #[.agg #[.int .i64 (fn l), .int .i64 (fd l), .int .i64 (fn h), .int .i64 (fd h)], .agg #[.int .i64 (fn m), .int .i64 (fd m)], .agg #[.int .i64 (fn n), .int .i64 (fd n)]] w fun e w' => e = .returned (.tuple #[.int .u8 (deV l h m n), .int .i64 0]) ∧ Below w.heap.size w w' := by
  obtain ⟨A, B, C, D, E, HM, hm⟩ := meet_q l h m n fl fh fm fn' hlh hmn
  have H1 := fun w => checkSpan_any (fn l) (fd l) (fn h) (fd h) w
  have H2 := fun w => checkSpan_any (fn m) (fd m) (fn n) (fd n) w
  rw [ckS_ok fl fh hlh] at H1
  rw [ckS_ok fm fn' hmn] at H2
  unfold deV
  rcases hm with ⟨rfl, hn⟩ | ⟨rfl, hc, rfl, rfl, rfl, rfl⟩
  · rw [if_pos hn]
    exact dec_none _ _ _ _ _ _ _ _ A B C D w H1 H2 HM
  · rw [if_neg (fun k => k hc)]
    have e1 : m ≤ l → hiQ l [m] = l := fun k => by
      unfold hiQ; simp only [List.foldl_cons, List.foldl_nil]; exact if_neg (Rat.not_lt.2 k)
    have e2 : h ≤ n → loQ h [n] = h := fun k => by
      unfold loQ; simp only [List.foldl_cons, List.foldl_nil]; exact if_neg (Rat.not_lt.2 k)
    by_cases k : m ≤ l ∧ h ≤ n
    · rw [if_pos k]
      rw [e1 k.1, e2 k.2] at HM
      exact dec_yes _ _ _ _ _ _ _ _ w H1 H2 HM
    · rw [if_neg k]
      refine dec_open _ _ _ _ _ _ _ _ _ _ _ _ w (fun g => k ?_) H1 H2 HM
      have q1 : hiQ l [m] = l := q_ext g.1 g.2.1
      have q2 : loQ h [n] = h := q_ext g.2.2.1 g.2.2.2
      exact ⟨((hi1 l m l).1 (by rw [q1]; exact Rat.le_refl)).2, ((lo1 h n h).1 (by rw [q2]; exact Rat.le_refl)).2⟩
end Go.Proofs.Ytdimmnoflenfhaa
/-
  Layer 5: valid gauges, by the code.
-/
namespace Go.Proofs.Ytdimmnoflenfhaa
open Go.RowKit Go.Shelf
set_option linter.unusedVariables false
set_option linter.unusedSimpArgs false

/-- A fraction that a gauge may have. -/
def smF (a b : Int) : Prop := (-1000000 ≤ a ∧ a ≤ 1000000) ∧ b ≤ 1000000
/-- A valid gauge. -/
def okG (t n s1 s2 s3 s4 l1 l2 h1 h2 : Int) : Prop := okT t ∧ okN n ∧ okS s1 s2 s3 s4 ∧ okS l1 l2 h1 h2 ∧ 0 < s1 ∧ smF s1 s2 ∧ smF s3 s4 ∧ smF l1 l2 ∧ smF h1 h2
theorem idx_g (a b c d e f g h : Value) :
    (∀ w, (Instr.index 99 (.agg #[a, b, c, d, e, f, g, h]) (.int .i64 0)).run Try.prog w = .ok (.agg #[a, b]) w) ∧
    (∀ w, (Instr.index 99 (.agg #[a, b, c, d, e, f, g, h]) (.int .i64 1)).run Try.prog w = .ok (.agg #[c, d]) w) ∧
    (∀ w, (Instr.index 99 (.agg #[a, b, c, d, e, f, g, h]) (.int .i64 2)).run Try.prog w = .ok (.agg #[e, f]) w) ∧
    (∀ w, (Instr.index 99 (.agg #[a, b, c, d, e, f, g, h]) (.int .i64 3)).run Try.prog w = .ok (.agg #[g, h]) w) := by
  have hty : ∀ q, (Try.prog.types[23]'q).size = 2 := fun _ => by kernel_rfl
  refine ⟨fun w => ?_, fun w => ?_, fun w => ?_, fun w => ?_⟩ <;> simp [Instr.index, run_underlying Try.underlying99, asIntOf, go_sem, hty]
set_option maxRecDepth 100000 in
set_option maxHeartbeats 2000000 in
theorem ckG_1 (t n s1 s2 s3 s4 l1 l2 h1 h2 : Int) (w : World) (HT : Hid (∀ w, Calls Try.prog 69 #[.int .i64 t] w fun e w' => e = .returned (.bool false) ∧ w = w')) :
    Calls Try.prog 36 #[.agg #[.int .i64 t, .int .i64 n, .int .i64 s1, .int .i64 s2, .int .i64 s3, .int .i64 s4, .int .i64 l1, .int .i64 l2, .int .i64 h1, .int .i64 h2]] w fun e w' => e = .returned (.int .i64 8) ∧ Below w.heap.size w w' := by
  go_enter Try.func36, Try.ntmps36
  go_wp2_with fail
  refine (HT.out _).mono ?_
  rintro e w1 ⟨rfl, rfl⟩
  go_wp2
  go_ret
  exact ⟨rfl, by (repeat' (first | (with_reducible exact Below.refl _ _) | (with_reducible assumption) | (with_reducible refine belowThru ?_ (by assumption)) | (with_reducible refine belowAlloc ?_) | (with_reducible refine Below.setCell ?_ (by first | omega | (simp; done) | (simp; omega)) _) | (with_reducible refine Below.drew ?_) | (with_reducible refine below_drewN ?_ _)))⟩
set_option maxRecDepth 100000 in
set_option maxHeartbeats 2000000 in
theorem ckG_2 (t n s1 s2 s3 s4 l1 l2 h1 h2 : Int) (w : World) (HT : Hid (∀ w, Calls Try.prog 69 #[.int .i64 t] w fun e w' => e = .returned (.bool true) ∧ w = w')) (HN : Hid (∀ w, Calls Try.prog 70 #[.int .i64 n] w fun e w' => e = .returned (.bool false) ∧ w = w')) :
    Calls Try.prog 36 #[.agg #[.int .i64 t, .int .i64 n, .int .i64 s1, .int .i64 s2, .int .i64 s3, .int .i64 s4, .int .i64 l1, .int .i64 l2, .int .i64 h1, .int .i64 h2]] w fun e w' => e = .returned (.int .i64 8) ∧ Below w.heap.size w w' := by
  go_enter Try.func36, Try.ntmps36
  go_wp2_with fail
  refine (HT.out _).mono ?_
  rintro e w1 ⟨rfl, rfl⟩
  go_wp2_with fail
  refine (HN.out _).mono ?_
  rintro e w1 ⟨rfl, rfl⟩
  go_wp2
  go_ret
  exact ⟨rfl, by (repeat' (first | (with_reducible exact Below.refl _ _) | (with_reducible assumption) | (with_reducible refine belowThru ?_ (by assumption)) | (with_reducible refine belowAlloc ?_) | (with_reducible refine Below.setCell ?_ (by first | omega | (simp; done) | (simp; omega)) _) | (with_reducible refine Below.drew ?_) | (with_reducible refine below_drewN ?_ _)))⟩
set_option maxRecDepth 100000 in
set_option maxHeartbeats 2000000 in
theorem ckG_3 (t n s1 s2 s3 s4 l1 l2 h1 h2 : Int) (w : World) (HT : Hid (∀ w, Calls Try.prog 69 #[.int .i64 t] w fun e w' => e = .returned (.bool true) ∧ w = w')) (HN : Hid (∀ w, Calls Try.prog 70 #[.int .i64 n] w fun e w' => e = .returned (.bool true) ∧ w = w')) (H1 : Hid (∀ w, Calls Try.prog 46 #[.agg #[.int .i64 s1, .int .i64 s2, .int .i64 s3, .int .i64 s4]] w fun e w' => e = .returned (.int .i64 8) ∧ Below w.heap.size w w')) :
    Calls Try.prog 36 #[.agg #[.int .i64 t, .int .i64 n, .int .i64 s1, .int .i64 s2, .int .i64 s3, .int .i64 s4, .int .i64 l1, .int .i64 l2, .int .i64 h1, .int .i64 h2]] w fun e w' => e = .returned (.int .i64 8) ∧ Below w.heap.size w w' := by
  go_enter Try.func36, Try.ntmps36
  go_wp2_with fail
  refine (HT.out _).mono ?_
  rintro e w1 ⟨rfl, rfl⟩
  go_wp2_with fail
  refine (HN.out _).mono ?_
  rintro e w1 ⟨rfl, rfl⟩
  go_wp2_with fail
  refine (H1.out _).mono ?_
  rintro e w1 ⟨rfl, hb⟩
  have k0 : Blk w1 w.heap.size #[.int .i64 t, .int .i64 n, .int .i64 s1, .int .i64 s2, .int .i64 s3, .int .i64 s4, .int .i64 l1, .int .i64 l2, .int .i64 h1, .int .i64 h2] 41 := Blk.later hb (by (repeat' (first | (with_reducible assumption) | ((with_reducible refine Blk.new ?_); first | rfl | (simp; done)) | (with_reducible refine Blk.later (by assumption) ?_) | (with_reducible refine Blk.alloc ?_) | (with_reducible refine Blk.drewN ?_) | (with_reducible refine Blk.drew ?_) | (with_reducible refine Blk.other ?_ (by first | omega | (simp; done) | (simp; omega))))))
  obtain ⟨a0, b0⟩ := k0.read
  have hB1 : Below w.heap.size w w1 := by (repeat' (first | (with_reducible exact Below.refl _ _) | (with_reducible assumption) | (with_reducible refine belowThru ?_ (by assumption)) | (with_reducible refine belowAlloc ?_) | (with_reducible refine Below.setCell ?_ (by first | omega | (simp; done) | (simp; omega)) _) | (with_reducible refine Below.drew ?_) | (with_reducible refine below_drewN ?_ _)))
  clear hb
  go_wp2
  go_ret
  exact ⟨rfl, by (repeat' (first | (with_reducible exact Below.refl _ _) | (with_reducible assumption) | (with_reducible refine belowThru ?_ (by assumption)) | (with_reducible refine belowAlloc ?_) | (with_reducible refine Below.setCell ?_ (by first | omega | (simp; done) | (simp; omega)) _) | (with_reducible refine Below.drew ?_) | (with_reducible refine below_drewN ?_ _)))⟩
set_option maxRecDepth 100000 in
set_option maxHeartbeats 2000000 in
theorem ckG_4 (t n s1 s2 s3 s4 l1 l2 h1 h2 : Int) (w : World) (HT : Hid (∀ w, Calls Try.prog 69 #[.int .i64 t] w fun e w' => e = .returned (.bool true) ∧ w = w')) (HN : Hid (∀ w, Calls Try.prog 70 #[.int .i64 n] w fun e w' => e = .returned (.bool true) ∧ w = w')) (H1 : Hid (∀ w, Calls Try.prog 46 #[.agg #[.int .i64 s1, .int .i64 s2, .int .i64 s3, .int .i64 s4]] w fun e w' => e = .returned (.int .i64 0) ∧ Below w.heap.size w w')) (H2 : Hid (∀ w, Calls Try.prog 46 #[.agg #[.int .i64 l1, .int .i64 l2, .int .i64 h1, .int .i64 h2]] w fun e w' => e = .returned (.int .i64 8) ∧ Below w.heap.size w w')) :
    Calls Try.prog 36 #[.agg #[.int .i64 t, .int .i64 n, .int .i64 s1, .int .i64 s2, .int .i64 s3, .int .i64 s4, .int .i64 l1, .int .i64 l2, .int .i64 h1, .int .i64 h2]] w fun e w' => e = .returned (.int .i64 8) ∧ Below w.heap.size w w' := by
  go_enter Try.func36, Try.ntmps36
  go_wp2_with fail
  refine (HT.out _).mono ?_
  rintro e w1 ⟨rfl, rfl⟩
  go_wp2_with fail
  refine (HN.out _).mono ?_
  rintro e w1 ⟨rfl, rfl⟩
  go_wp2_with fail
  refine (H1.out _).mono ?_
  rintro e w1 ⟨rfl, hb⟩
  have k0 : Blk w1 w.heap.size #[.int .i64 t, .int .i64 n, .int .i64 s1, .int .i64 s2, .int .i64 s3, .int .i64 s4, .int .i64 l1, .int .i64 l2, .int .i64 h1, .int .i64 h2] 41 := Blk.later hb (by (repeat' (first | (with_reducible assumption) | ((with_reducible refine Blk.new ?_); first | rfl | (simp; done)) | (with_reducible refine Blk.later (by assumption) ?_) | (with_reducible refine Blk.alloc ?_) | (with_reducible refine Blk.drewN ?_) | (with_reducible refine Blk.drew ?_) | (with_reducible refine Blk.other ?_ (by first | omega | (simp; done) | (simp; omega))))))
  obtain ⟨a0, b0⟩ := k0.read
  have hB1 : Below w.heap.size w w1 := by (repeat' (first | (with_reducible exact Below.refl _ _) | (with_reducible assumption) | (with_reducible refine belowThru ?_ (by assumption)) | (with_reducible refine belowAlloc ?_) | (with_reducible refine Below.setCell ?_ (by first | omega | (simp; done) | (simp; omega)) _) | (with_reducible refine Below.drew ?_) | (with_reducible refine below_drewN ?_ _)))
  clear hb
  go_wp2_with fail
  refine (H2.out _).mono ?_
  rintro e w2 ⟨rfl, hb⟩
  replace k0 := Blk.later hb k0
  have hB2 := belowThru hB1 hb
  clear a0 b0 hB1 hb
  obtain ⟨a0, b0⟩ := k0.read
  go_wp2
  go_ret
  exact ⟨rfl, by (repeat' (first | (with_reducible exact Below.refl _ _) | (with_reducible assumption) | (with_reducible refine belowThru ?_ (by assumption)) | (with_reducible refine belowAlloc ?_) | (with_reducible refine Below.setCell ?_ (by first | omega | (simp; done) | (simp; omega)) _) | (with_reducible refine Below.drew ?_) | (with_reducible refine below_drewN ?_ _)))⟩
set_option maxRecDepth 100000 in
set_option maxHeartbeats 2000000 in
theorem ckG_5 (t n s1 s2 s3 s4 l1 l2 h1 h2 : Int) (w : World) (h : s1 ≤ 0) (HT : Hid (∀ w, Calls Try.prog 69 #[.int .i64 t] w fun e w' => e = .returned (.bool true) ∧ w = w')) (HN : Hid (∀ w, Calls Try.prog 70 #[.int .i64 n] w fun e w' => e = .returned (.bool true) ∧ w = w')) (H1 : Hid (∀ w, Calls Try.prog 46 #[.agg #[.int .i64 s1, .int .i64 s2, .int .i64 s3, .int .i64 s4]] w fun e w' => e = .returned (.int .i64 0) ∧ Below w.heap.size w w')) (H2 : Hid (∀ w, Calls Try.prog 46 #[.agg #[.int .i64 l1, .int .i64 l2, .int .i64 h1, .int .i64 h2]] w fun e w' => e = .returned (.int .i64 0) ∧ Below w.heap.size w w')) :
    Calls Try.prog 36 #[.agg #[.int .i64 t, .int .i64 n, .int .i64 s1, .int .i64 s2, .int .i64 s3, .int .i64 s4, .int .i64 l1, .int .i64 l2, .int .i64 h1, .int .i64 h2]] w fun e w' => e = .returned (.int .i64 8) ∧ Below w.heap.size w w' := by
  go_enter Try.func36, Try.ntmps36
  go_wp2_with fail
  refine (HT.out _).mono ?_
  rintro e w1 ⟨rfl, rfl⟩
  go_wp2_with fail
  refine (HN.out _).mono ?_
  rintro e w1 ⟨rfl, rfl⟩
  go_wp2_with fail
  refine (H1.out _).mono ?_
  rintro e w1 ⟨rfl, hb⟩
  have k0 : Blk w1 w.heap.size #[.int .i64 t, .int .i64 n, .int .i64 s1, .int .i64 s2, .int .i64 s3, .int .i64 s4, .int .i64 l1, .int .i64 l2, .int .i64 h1, .int .i64 h2] 41 := Blk.later hb (by (repeat' (first | (with_reducible assumption) | ((with_reducible refine Blk.new ?_); first | rfl | (simp; done)) | (with_reducible refine Blk.later (by assumption) ?_) | (with_reducible refine Blk.alloc ?_) | (with_reducible refine Blk.drewN ?_) | (with_reducible refine Blk.drew ?_) | (with_reducible refine Blk.other ?_ (by first | omega | (simp; done) | (simp; omega))))))
  obtain ⟨a0, b0⟩ := k0.read
  have hB1 : Below w.heap.size w w1 := by (repeat' (first | (with_reducible exact Below.refl _ _) | (with_reducible assumption) | (with_reducible refine belowThru ?_ (by assumption)) | (with_reducible refine belowAlloc ?_) | (with_reducible refine Below.setCell ?_ (by first | omega | (simp; done) | (simp; omega)) _) | (with_reducible refine Below.drew ?_) | (with_reducible refine below_drewN ?_ _)))
  clear hb
  go_wp2_with fail
  refine (H2.out _).mono ?_
  rintro e w2 ⟨rfl, hb⟩
  replace k0 := Blk.later hb k0
  have hB2 := belowThru hB1 hb
  clear a0 b0 hB1 hb
  obtain ⟨a0, b0⟩ := k0.read
  go_wp2
  go_ret
  exact ⟨rfl, by (repeat' (first | (with_reducible exact Below.refl _ _) | (with_reducible assumption) | (with_reducible refine belowThru ?_ (by assumption)) | (with_reducible refine belowAlloc ?_) | (with_reducible refine Below.setCell ?_ (by first | omega | (simp; done) | (simp; omega)) _) | (with_reducible refine Below.drew ?_) | (with_reducible refine below_drewN ?_ _)))⟩
def smG (s1 s2 s3 s4 l1 l2 h1 h2 : Int) (k : Int) : Prop := (0 < k → smF s1 s2) ∧ (1 < k → smF s3 s4) ∧ (2 < k → smF l1 l2) ∧ (3 < k → smF h1 h2)
set_option maxRecDepth 100000 in
set_option maxHeartbeats 8000000 in
theorem ckG_6 (t n s1 s2 s3 s4 l1 l2 h1 h2 : Int) (w : World) (h : 0 < s1) (HG : okT t ∧ okN n ∧ okS s1 s2 s3 s4 ∧ okS l1 l2 h1 h2 ∧ 0 < s1) (HT : Hid (∀ w, Calls Try.prog 69 #[.int .i64 t] w fun e w' => e = .returned (.bool true) ∧ w = w')) (HN : Hid (∀ w, Calls Try.prog 70 #[.int .i64 n] w fun e w' => e = .returned (.bool true) ∧ w = w')) (H1 : Hid (∀ w, Calls Try.prog 46 #[.agg #[.int .i64 s1, .int .i64 s2, .int .i64 s3, .int .i64 s4]] w fun e w' => e = .returned (.int .i64 0) ∧ Below w.heap.size w w')) (H2 : Hid (∀ w, Calls Try.prog 46 #[.agg #[.int .i64 l1, .int .i64 l2, .int .i64 h1, .int .i64 h2]] w fun e w' => e = .returned (.int .i64 0) ∧ Below w.heap.size w w')) :
    Calls Try.prog 36 #[.agg #[.int .i64 t, .int .i64 n, .int .i64 s1, .int .i64 s2, .int .i64 s3, .int .i64 s4, .int .i64 l1, .int .i64 l2, .int .i64 h1, .int .i64 h2]] w fun e w' => (okG t n s1 s2 s3 s4 l1 l2 h1 h2 ∧ e = .returned (.int .i64 0) ∨ ¬ okG t n s1 s2 s3 s4 l1 l2 h1 h2 ∧ e = .returned (.int .i64 8)) ∧ Below w.heap.size w w' := by
  replace HG := Lib.hid HG
  obtain ⟨x0, x1, x2, x3⟩ := idx_g (.int .i64 s1) (.int .i64 s2) (.int .i64 s3) (.int .i64 s4) (.int .i64 l1) (.int .i64 l2) (.int .i64 h1) (.int .i64 h2)
  go_enter Try.func36, Try.ntmps36
  go_wp2_with fail
  refine (HT.out _).mono ?_
  rintro e w1 ⟨rfl, rfl⟩
  go_wp2_with fail
  refine (HN.out _).mono ?_
  rintro e w1 ⟨rfl, rfl⟩
  go_wp2_with fail
  refine (H1.out _).mono ?_
  rintro e w1 ⟨rfl, hb⟩
  have k0 : Blk w1 w.heap.size #[.int .i64 t, .int .i64 n, .int .i64 s1, .int .i64 s2, .int .i64 s3, .int .i64 s4, .int .i64 l1, .int .i64 l2, .int .i64 h1, .int .i64 h2] 41 := Blk.later hb (by (repeat' (first | (with_reducible assumption) | ((with_reducible refine Blk.new ?_); first | rfl | (simp; done)) | (with_reducible refine Blk.later (by assumption) ?_) | (with_reducible refine Blk.alloc ?_) | (with_reducible refine Blk.drewN ?_) | (with_reducible refine Blk.drew ?_) | (with_reducible refine Blk.other ?_ (by first | omega | (simp; done) | (simp; omega))))))
  obtain ⟨a0, b0⟩ := k0.read
  have hB1 : Below w.heap.size w w1 := by (repeat' (first | (with_reducible exact Below.refl _ _) | (with_reducible assumption) | (with_reducible refine belowThru ?_ (by assumption)) | (with_reducible refine belowAlloc ?_) | (with_reducible refine Below.setCell ?_ (by first | omega | (simp; done) | (simp; omega)) _) | (with_reducible refine Below.drew ?_) | (with_reducible refine below_drewN ?_ _)))
  clear hb
  go_wp2_with fail
  refine (H2.out _).mono ?_
  rintro e w2 ⟨rfl, hb⟩
  replace k0 := Blk.later hb k0
  have hB2 := belowThru hB1 hb
  clear a0 b0 hB1 hb
  obtain ⟨a0, b0⟩ := k0.read
  go_wp2_with fail
  go_loopw [46] (fun i wr => ∃ k : Int, (0 ≤ k ∧ k ≤ 4) ∧ i = .int .i64 k ∧ Hid (smG s1 s2 s3 s4 l1 l2 h1 h2 k) ∧ Below w.heap.size w wr) (fun i _ => (4 - intOf i).toNat)
  case atStart => exact ⟨0, ⟨by omega, by omega⟩, rfl, (⟨fun h => absurd h (by omega), fun h => absurd h (by omega), fun h => absurd h (by omega), fun h => absurd h (by omega)⟩ : smG s1 s2 s3 s4 l1 l2 h1 h2 0), hB2⟩
  case round =>
    clear k0 a0 b0 hB2 HT HN H1 H2 h
    obtain ⟨k, ⟨hk0, hk4⟩, rfl, hd, hB⟩ := hrel
    have hk : k = 0 ∨ k = 1 ∨ k = 2 ∨ k = 3 ∨ k = 4 := by omega
    rcases hk with rfl | rfl | rfl | rfl | rfl
    · by_cases hs : smF s1 s2
      · have hd' : Hid (smG s1 s2 s3 s4 l1 l2 h1 h2 (0 + 1)) := (⟨fun _ => hs, fun h => absurd h (by omega), fun h => absurd h (by omega), fun h => absurd h (by omega)⟩ : smG s1 s2 s3 s4 l1 l2 h1 h2 (0 + 1))
        have HC := Lib.hid (gwithin_yes s1 (-1000000) 1000000 hs.1.1 hs.1.2)
        have hle : decide (1000000 < s2) = false := by have := hs.2; simp; omega
        have hle2 : s2 ≤ 1000000 := hs.2
        clear hs hd
        go_wp2_with ((go_at_call 59; (with_reducible refine (HC.out _).mono ?_); rintro e w1 ⟨rfl, rfl⟩))
        go_roundw
        case rel => exact ⟨0 + 1, ⟨by omega, by omega⟩, by go_num, hd', by (repeat' (first | (with_reducible exact Below.refl _ _) | (with_reducible assumption) | (with_reducible refine belowThru ?_ (by assumption)) | (with_reducible refine belowAlloc ?_) | (with_reducible refine Below.setCell ?_ (by first | omega | (simp; done) | (simp; omega)) _) | (with_reducible refine Below.drew ?_) | (with_reducible refine below_drewN ?_ _)))⟩
        case measure => simp [intOf]
      · have hno : Hid (¬ okG t n s1 s2 s3 s4 l1 l2 h1 h2) := (fun h => hs h.2.2.2.2.2.1 : ¬ okG t n s1 s2 s3 s4 l1 l2 h1 h2)
        by_cases h1' : -1000000 ≤ s1 ∧ s1 ≤ 1000000
        · have HC := Lib.hid (gwithin_yes s1 (-1000000) 1000000 h1'.1 h1'.2)
          have hgt : 1000000 < s2 := by rcases (show s2 ≤ 1000000 ∨ 1000000 < s2 by omega) with q | q; exact absurd ⟨h1', q⟩ hs; exact q
          clear hs hd h1'
          go_wp2_with ((go_at_call 59; (with_reducible refine (HC.out _).mono ?_); rintro e w1 ⟨rfl, rfl⟩))
          go_ret
          exact ⟨.inr ⟨hno.out, rfl⟩, by (repeat' (first | (with_reducible exact Below.refl _ _) | (with_reducible assumption) | (with_reducible refine belowThru ?_ (by assumption)) | (with_reducible refine belowAlloc ?_) | (with_reducible refine Below.setCell ?_ (by first | omega | (simp; done) | (simp; omega)) _) | (with_reducible refine Below.drew ?_) | (with_reducible refine below_drewN ?_ _)))⟩
        · have HC := Lib.hid (gwithin_no s1 (-1000000) 1000000 h1')
          clear hs hd h1'
          go_wp2_with ((go_at_call 59; (with_reducible refine (HC.out _).mono ?_); rintro e w1 ⟨rfl, rfl⟩))
          go_ret
          exact ⟨.inr ⟨hno.out, rfl⟩, by (repeat' (first | (with_reducible exact Below.refl _ _) | (with_reducible assumption) | (with_reducible refine belowThru ?_ (by assumption)) | (with_reducible refine belowAlloc ?_) | (with_reducible refine Below.setCell ?_ (by first | omega | (simp; done) | (simp; omega)) _) | (with_reducible refine Below.drew ?_) | (with_reducible refine below_drewN ?_ _)))⟩
    · by_cases hs : smF s3 s4
      · have hd' : Hid (smG s1 s2 s3 s4 l1 l2 h1 h2 (1 + 1)) := (⟨fun _ => hd.out.1 (by omega), fun _ => hs, fun h => absurd h (by omega), fun h => absurd h (by omega)⟩ : smG s1 s2 s3 s4 l1 l2 h1 h2 (1 + 1))
        have HC := Lib.hid (gwithin_yes s3 (-1000000) 1000000 hs.1.1 hs.1.2)
        have hle : decide (1000000 < s4) = false := by have := hs.2; simp; omega
        have hle2 : s4 ≤ 1000000 := hs.2
        clear hs hd
        go_wp2_with ((go_at_call 59; (with_reducible refine (HC.out _).mono ?_); rintro e w1 ⟨rfl, rfl⟩))
        go_roundw
        case rel => exact ⟨1 + 1, ⟨by omega, by omega⟩, by go_num, hd', by (repeat' (first | (with_reducible exact Below.refl _ _) | (with_reducible assumption) | (with_reducible refine belowThru ?_ (by assumption)) | (with_reducible refine belowAlloc ?_) | (with_reducible refine Below.setCell ?_ (by first | omega | (simp; done) | (simp; omega)) _) | (with_reducible refine Below.drew ?_) | (with_reducible refine below_drewN ?_ _)))⟩
        case measure => simp [intOf]
      · have hno : Hid (¬ okG t n s1 s2 s3 s4 l1 l2 h1 h2) := (fun h => hs h.2.2.2.2.2.2.1 : ¬ okG t n s1 s2 s3 s4 l1 l2 h1 h2)
        by_cases h1' : -1000000 ≤ s3 ∧ s3 ≤ 1000000
        · have HC := Lib.hid (gwithin_yes s3 (-1000000) 1000000 h1'.1 h1'.2)
          have hgt : 1000000 < s4 := by rcases (show s4 ≤ 1000000 ∨ 1000000 < s4 by omega) with q | q; exact absurd ⟨h1', q⟩ hs; exact q
          clear hs hd h1'
          go_wp2_with ((go_at_call 59; (with_reducible refine (HC.out _).mono ?_); rintro e w1 ⟨rfl, rfl⟩))
          go_ret
          exact ⟨.inr ⟨hno.out, rfl⟩, by (repeat' (first | (with_reducible exact Below.refl _ _) | (with_reducible assumption) | (with_reducible refine belowThru ?_ (by assumption)) | (with_reducible refine belowAlloc ?_) | (with_reducible refine Below.setCell ?_ (by first | omega | (simp; done) | (simp; omega)) _) | (with_reducible refine Below.drew ?_) | (with_reducible refine below_drewN ?_ _)))⟩
        · have HC := Lib.hid (gwithin_no s3 (-1000000) 1000000 h1')
          clear hs hd h1'
          go_wp2_with ((go_at_call 59; (with_reducible refine (HC.out _).mono ?_); rintro e w1 ⟨rfl, rfl⟩))
          go_ret
          exact ⟨.inr ⟨hno.out, rfl⟩, by (repeat' (first | (with_reducible exact Below.refl _ _) | (with_reducible assumption) | (with_reducible refine belowThru ?_ (by assumption)) | (with_reducible refine belowAlloc ?_) | (with_reducible refine Below.setCell ?_ (by first | omega | (simp; done) | (simp; omega)) _) | (with_reducible refine Below.drew ?_) | (with_reducible refine below_drewN ?_ _)))⟩
    · by_cases hs : smF l1 l2
      · have hd' : Hid (smG s1 s2 s3 s4 l1 l2 h1 h2 (2 + 1)) := (⟨fun _ => hd.out.1 (by omega), fun _ => hd.out.2.1 (by omega), fun _ => hs, fun h => absurd h (by omega)⟩ : smG s1 s2 s3 s4 l1 l2 h1 h2 (2 + 1))
        have HC := Lib.hid (gwithin_yes l1 (-1000000) 1000000 hs.1.1 hs.1.2)
        have hle : decide (1000000 < l2) = false := by have := hs.2; simp; omega
        have hle2 : l2 ≤ 1000000 := hs.2
        clear hs hd
        go_wp2_with ((go_at_call 59; (with_reducible refine (HC.out _).mono ?_); rintro e w1 ⟨rfl, rfl⟩))
        go_roundw
        case rel => exact ⟨2 + 1, ⟨by omega, by omega⟩, by go_num, hd', by (repeat' (first | (with_reducible exact Below.refl _ _) | (with_reducible assumption) | (with_reducible refine belowThru ?_ (by assumption)) | (with_reducible refine belowAlloc ?_) | (with_reducible refine Below.setCell ?_ (by first | omega | (simp; done) | (simp; omega)) _) | (with_reducible refine Below.drew ?_) | (with_reducible refine below_drewN ?_ _)))⟩
        case measure => simp [intOf]
      · have hno : Hid (¬ okG t n s1 s2 s3 s4 l1 l2 h1 h2) := (fun h => hs h.2.2.2.2.2.2.2.1 : ¬ okG t n s1 s2 s3 s4 l1 l2 h1 h2)
        by_cases h1' : -1000000 ≤ l1 ∧ l1 ≤ 1000000
        · have HC := Lib.hid (gwithin_yes l1 (-1000000) 1000000 h1'.1 h1'.2)
          have hgt : 1000000 < l2 := by rcases (show l2 ≤ 1000000 ∨ 1000000 < l2 by omega) with q | q; exact absurd ⟨h1', q⟩ hs; exact q
          clear hs hd h1'
          go_wp2_with ((go_at_call 59; (with_reducible refine (HC.out _).mono ?_); rintro e w1 ⟨rfl, rfl⟩))
          go_ret
          exact ⟨.inr ⟨hno.out, rfl⟩, by (repeat' (first | (with_reducible exact Below.refl _ _) | (with_reducible assumption) | (with_reducible refine belowThru ?_ (by assumption)) | (with_reducible refine belowAlloc ?_) | (with_reducible refine Below.setCell ?_ (by first | omega | (simp; done) | (simp; omega)) _) | (with_reducible refine Below.drew ?_) | (with_reducible refine below_drewN ?_ _)))⟩
        · have HC := Lib.hid (gwithin_no l1 (-1000000) 1000000 h1')
          clear hs hd h1'
          go_wp2_with ((go_at_call 59; (with_reducible refine (HC.out _).mono ?_); rintro e w1 ⟨rfl, rfl⟩))
          go_ret
          exact ⟨.inr ⟨hno.out, rfl⟩, by (repeat' (first | (with_reducible exact Below.refl _ _) | (with_reducible assumption) | (with_reducible refine belowThru ?_ (by assumption)) | (with_reducible refine belowAlloc ?_) | (with_reducible refine Below.setCell ?_ (by first | omega | (simp; done) | (simp; omega)) _) | (with_reducible refine Below.drew ?_) | (with_reducible refine below_drewN ?_ _)))⟩
    · by_cases hs : smF h1 h2
      · have hd' : Hid (smG s1 s2 s3 s4 l1 l2 h1 h2 (3 + 1)) := (⟨fun _ => hd.out.1 (by omega), fun _ => hd.out.2.1 (by omega), fun _ => hd.out.2.2.1 (by omega), fun _ => hs⟩ : smG s1 s2 s3 s4 l1 l2 h1 h2 (3 + 1))
        have HC := Lib.hid (gwithin_yes h1 (-1000000) 1000000 hs.1.1 hs.1.2)
        have hle : decide (1000000 < h2) = false := by have := hs.2; simp; omega
        have hle2 : h2 ≤ 1000000 := hs.2
        clear hs hd
        go_wp2_with ((go_at_call 59; (with_reducible refine (HC.out _).mono ?_); rintro e w1 ⟨rfl, rfl⟩))
        go_roundw
        case rel => exact ⟨3 + 1, ⟨by omega, by omega⟩, by go_num, hd', by (repeat' (first | (with_reducible exact Below.refl _ _) | (with_reducible assumption) | (with_reducible refine belowThru ?_ (by assumption)) | (with_reducible refine belowAlloc ?_) | (with_reducible refine Below.setCell ?_ (by first | omega | (simp; done) | (simp; omega)) _) | (with_reducible refine Below.drew ?_) | (with_reducible refine below_drewN ?_ _)))⟩
        case measure => simp [intOf]
      · have hno : Hid (¬ okG t n s1 s2 s3 s4 l1 l2 h1 h2) := (fun h => hs h.2.2.2.2.2.2.2.2 : ¬ okG t n s1 s2 s3 s4 l1 l2 h1 h2)
        by_cases h1' : -1000000 ≤ h1 ∧ h1 ≤ 1000000
        · have HC := Lib.hid (gwithin_yes h1 (-1000000) 1000000 h1'.1 h1'.2)
          have hgt : 1000000 < h2 := by rcases (show h2 ≤ 1000000 ∨ 1000000 < h2 by omega) with q | q; exact absurd ⟨h1', q⟩ hs; exact q
          clear hs hd h1'
          go_wp2_with ((go_at_call 59; (with_reducible refine (HC.out _).mono ?_); rintro e w1 ⟨rfl, rfl⟩))
          go_ret
          exact ⟨.inr ⟨hno.out, rfl⟩, by (repeat' (first | (with_reducible exact Below.refl _ _) | (with_reducible assumption) | (with_reducible refine belowThru ?_ (by assumption)) | (with_reducible refine belowAlloc ?_) | (with_reducible refine Below.setCell ?_ (by first | omega | (simp; done) | (simp; omega)) _) | (with_reducible refine Below.drew ?_) | (with_reducible refine below_drewN ?_ _)))⟩
        · have HC := Lib.hid (gwithin_no h1 (-1000000) 1000000 h1')
          clear hs hd h1'
          go_wp2_with ((go_at_call 59; (with_reducible refine (HC.out _).mono ?_); rintro e w1 ⟨rfl, rfl⟩))
          go_ret
          exact ⟨.inr ⟨hno.out, rfl⟩, by (repeat' (first | (with_reducible exact Below.refl _ _) | (with_reducible assumption) | (with_reducible refine belowThru ?_ (by assumption)) | (with_reducible refine belowAlloc ?_) | (with_reducible refine Below.setCell ?_ (by first | omega | (simp; done) | (simp; omega)) _) | (with_reducible refine Below.drew ?_) | (with_reducible refine below_drewN ?_ _)))⟩
    · have hyes : Hid (okG t n s1 s2 s3 s4 l1 l2 h1 h2) := (⟨HG.out.1, HG.out.2.1, HG.out.2.2.1, HG.out.2.2.2.1, HG.out.2.2.2.2, hd.out.1 (by omega), hd.out.2.1 (by omega), hd.out.2.2.1 (by omega), hd.out.2.2.2 (by omega)⟩ : okG t n s1 s2 s3 s4 l1 l2 h1 h2)
      go_wp2
      go_ret
      exact ⟨.inl ⟨hyes.out, rfl⟩, by (repeat' (first | (with_reducible exact Below.refl _ _) | (with_reducible assumption) | (with_reducible refine belowThru ?_ (by assumption)) | (with_reducible refine belowAlloc ?_) | (with_reducible refine Below.setCell ?_ (by first | omega | (simp; done) | (simp; omega)) _) | (with_reducible refine Below.drew ?_) | (with_reducible refine below_drewN ?_ _)))⟩
theorem ckG_any (t n s1 s2 s3 s4 l1 l2 h1 h2 : Int) (w : World) :
    Calls Try.prog 36 #[.agg #[.int .i64 t, .int .i64 n, .int .i64 s1, .int .i64 s2, .int .i64 s3, .int .i64 s4, .int .i64 l1, .int .i64 l2, .int .i64 h1, .int .i64 h2]] w fun e w' => (okG t n s1 s2 s3 s4 l1 l2 h1 h2 ∧ e = .returned (.int .i64 0) ∨ ¬ okG t n s1 s2 s3 s4 l1 l2 h1 h2 ∧ e = .returned (.int .i64 8)) ∧ Below w.heap.size w w' := by
  have HT := fun w => isThr_any t w
  have HN := fun w => isNoise_any n w
  by_cases ht : okT t
  · rw [decide_eq_true ht] at HT
    by_cases hn : okN n
    · rw [decide_eq_true hn] at HN
      have H1 := fun w => checkSpan_any s1 s2 s3 s4 w
      have H2 := fun w => checkSpan_any l1 l2 h1 h2 w
      rcases ckS_cases s1 s2 s3 s4 with ⟨k1, e1⟩ | ⟨k1, e1⟩
      · rw [e1] at H1
        rcases ckS_cases l1 l2 h1 h2 with ⟨k2, e2⟩ | ⟨k2, e2⟩
        · rw [e2] at H2
          by_cases hs : 0 < s1
          · exact ckG_6 t n s1 s2 s3 s4 l1 l2 h1 h2 w hs ⟨ht, hn, k1, k2, hs⟩ HT HN H1 H2
          · exact (ckG_5 t n s1 s2 s3 s4 l1 l2 h1 h2 w (by omega) HT HN H1 H2).mono fun e w' h => ⟨.inr ⟨fun g => hs g.2.2.2.2.1, h.1⟩, h.2⟩
        · rw [e2] at H2
          exact (ckG_4 t n s1 s2 s3 s4 l1 l2 h1 h2 w HT HN H1 H2).mono fun e w' h => ⟨.inr ⟨fun g => k2 g.2.2.2.1, h.1⟩, h.2⟩
      · rw [e1] at H1
        exact (ckG_3 t n s1 s2 s3 s4 l1 l2 h1 h2 w HT HN H1).mono fun e w' h => ⟨.inr ⟨fun g => k1 g.2.2.1, h.1⟩, h.2⟩
    · rw [decide_eq_false hn] at HN
      exact (ckG_2 t n s1 s2 s3 s4 l1 l2 h1 h2 w HT HN).mono fun e w' h => ⟨.inr ⟨fun g => hn g.2.1, h.1⟩, h.2⟩
  · rw [decide_eq_false ht] at HT
    exact (ckG_1 t n s1 s2 s3 s4 l1 l2 h1 h2 w HT).mono fun e w' h => ⟨.inr ⟨fun g => ht g.1, h.1⟩, h.2⟩
end Go.Proofs.Ytdimmnoflenfhaa
