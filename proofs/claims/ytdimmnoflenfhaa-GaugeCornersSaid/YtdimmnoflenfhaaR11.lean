/-
  The texts that the laws of this seat share, merged: part 11.
-/
import Derived.BigQuiet
import Derived.Deep.CutBlock
import Derived.Deep.DeepCutAuto
import Derived.Deep.Draws
import Derived.Deep.LoopGhost
import Derived.Deep.QuietTactic
import Derived.Deep.RegionHeld3
import Derived.Deep.RegionLaw
import Derived.IntWalk
import Derived.Laws.AppendOwn
import Derived.Laws.Bits64b
import Derived.Lib.Hide
import Derived.Lib.ItoaNum
import Derived.LoopTactic
import Derived.OneCell
import Derived.Orders
import Derived.Shelf.Bits.Mul64
import Derived.Shelf.Small.Bits
import Derived.Shelf.Spec.BitsCarry
import Derived.Shelf.Strconv.Itoa0
import Derived.Test.YtdimmnoflenfhaaProg
import Derived.WalkKit
import Derived.WalkLawsBesides
import Derived.WalkSmall
import Derived.WalkSpells
import Derived.Test.YtdimmnoflenfhaaR8
import Derived.Test.YtdimmnoflenfhaaR9
import Derived.Test.YtdimmnoflenfhaaR10
/-
  The document's own answers, layer 1: fractions made, sums and differences.
-/
namespace Go.Proofs.Ytdimmnoflenfhaa
open Go.RowKit

theorem rplus_q (q r : Rat) (hq : fits q) (hr : fits r) (w : World) :
    Calls Try.prog 91 #[.agg #[.int .i64 (fn q), .int .i64 (fd q)], .agg #[.int .i64 (fn r), .int .i64 (fd r)]] w fun e w' => e = .returned (.tuple #[.agg #[.int .i64 (rn (q + r)), .int .i64 (rd (q + r))], .bool (decide (re (q + r) = 0))]) ∧ Below w.heap.size w w' := by
  have b1 := prod_bound q r hq hr
  have b2 := prod_bound r q hr hq
  have fq := hq; have fr' := hr; unfold fits at fq fr'; obtain ⟨q1, q2, q3⟩ := fq; obtain ⟨r1, r2, r3⟩ := fr'; have q4 := fd_pos q; have r4 := fd_pos r
  have e1 := mag_mul_pos (fn q) (fd r) r4
  have e2 := mag_mul_pos (fn r) (fd q) q4
  have s1 := sg_mul (fn q) (fd r) r4
  have s2 := sg_mul (fn r) (fd q) q4
  have m1 := mag_lo (fn q); have m2 := mag_le (fn q) (by omega) (by omega); have m3 := mag_lo (fn r); have m4 := mag_le (fn r) (by omega) (by omega)
  have HX := Lib.hid (fun w => rtimes_any (mag (fn q)) (fd r) (by omega) (by omega) (by omega) (by omega) w)
  have HY := Lib.hid (fun w => rtimes_any (mag (fn r)) (fd q) (by omega) (by omega) (by omega) (by omega) w)
  have HZ := Lib.hid (fun w => rtimes_any (fd q) (fd r) (by omega) (by omega) (by omega) (by omega) w)
  have hx := mkR_add q r
  have c2 := mag_mul_bound (fd q) (fd r) (by omega) (by omega) (by omega) (by omega)
  have c3 : 1 ≤ fd q * fd r := by have := Int.mul_pos (show 0 < fd q by omega) (show 0 < fd r by omega); omega
  rw [e1] at HX
  rw [e2] at HY
  obtain ⟨p, hp⟩ : ∃ p, p = fn q * fd r := ⟨_, rfl⟩
  obtain ⟨p', hp'⟩ : ∃ p', p' = fn r * fd q := ⟨_, rfl⟩
  obtain ⟨Z, hZ⟩ : ∃ Z, Z = fd q * fd r := ⟨_, rfl⟩
  rw [← hp] at e1 s1 b1 HX hx
  rw [← hp'] at e2 s2 b2 HY hx
  rw [← hZ] at HZ c2 c3 hx
  have g1 := mag_sg p; have g2 := mag_sg p'
  have M1 := mag_lo p; have M2 := mag_lo p'
  have M3 : mag p ≤ 21267647932558653957237540927630737409 := by have := mag_natAbs p; omega
  have M4 : mag p' ≤ 21267647932558653957237540927630737409 := by have := mag_natAbs p'; omega
  have k1 := sg p; have k2 := sg p'
  have hb := mul_bound p.sign p'.sign 1 1 (by omega) (by omega) (by omega) (by omega)
  have hl : (decide (mag p < mag p') = true ∧ mag p < mag p') ∨ (decide (mag p < mag p') = false ∧ ¬ mag p < mag p') := by
    by_cases h : mag p < mag p'
    · exact .inl ⟨decide_eq_true h, h⟩
    · exact .inr ⟨decide_eq_false h, h⟩
  have HE := rless_any (mag p) (mag p') M1 (by omega) M2 (by omega)
  have hs : (0 ≤ p.sign * p'.sign ∧ (p.sign + p'.sign < 0 → -(mag p + mag p') = p + p') ∧ (¬ p.sign + p'.sign < 0 → mag p + mag p' = p + p')) ∨
      (p.sign * p'.sign < 0 ∧ (mag p < mag p' → (p'.sign < 0 → -(mag p' - mag p) = p + p') ∧ (¬ p'.sign < 0 → mag p' - mag p = p + p')) ∧ (¬ mag p < mag p' → (p.sign < 0 → -(mag p - mag p') = p + p') ∧ (¬ p.sign < 0 → mag p - mag p' = p + p'))) := by
    rcases k1 with ⟨h1, h2⟩ | ⟨h1, h2⟩ | ⟨h1, h2⟩ <;> rcases k2 with ⟨h3, h4⟩ | ⟨h3, h4⟩ | ⟨h3, h4⟩ <;> rw [h2, h4] <;> omega
  have walk := fun v U1 U0 A B ok => rplus_walk (fn q) (fd q) (fn r) (fd r) (fn q).sign (fn r).sign v ((fn q).sign * (fn r).sign) (mag (fn q)) (mag (fn r)) (whi (mag p)) (wlo (mag p)) (whi (mag p')) (wlo (mag p')) (whi Z) (wlo Z) U1 U0 A B ok w
    (IntWalk.i64_in _ (by rw [← s1, ← s2]; omega)) (Lib.hid (rsign_any _)) (Lib.hid (rsign_any _)) (Lib.hid (rsize_any _ (by omega) (by omega))) (Lib.hid (rsize_pos _ (by omega) (by omega))) (Lib.hid (rsize_any _ (by omega) (by omega))) (Lib.hid (rsize_pos _ (by omega) (by omega))) HX HY HZ
  rw [← s1, ← s2] at walk
  rcases hs with ⟨y1, y2, y3⟩ | ⟨y1, y2, y3⟩
  · refine walk (p.sign + p'.sign) _ _ _ _ _ (.inl ⟨y1, IntWalk.i64_in _ (by omega), Lib.hid (rplus_any (mag p) (mag p')), Lib.hid (lowest_q (q + r) _ (mag p + mag p') Z (by omega) (by omega) c3 (by omega) ?_)⟩)
    rw [← hx]; congr 1; split <;> omega
  · rcases hl with ⟨l1, l2⟩ | ⟨l1, l2⟩
    · rw [l1] at HE
      refine walk 0 _ _ _ _ _ (.inr (.inl ⟨y1, Lib.hid HE, Lib.hid (rminus_any (mag p') (mag p)), Lib.hid (lowest_q (q + r) _ (mag p' - mag p) Z (by omega) (by omega) c3 (by omega) ?_)⟩))
      have y4 := y2 l2
      rw [← hx]; congr 1; split <;> omega
    · rw [l1] at HE
      refine walk 0 _ _ _ _ _ (.inr (.inr ⟨y1, Lib.hid HE, Lib.hid (rminus_any (mag p) (mag p')), Lib.hid (lowest_q (q + r) _ (mag p - mag p') Z (by omega) (by omega) c3 (by omega) ?_)⟩))
      have y4 := y3 l2
      rw [← hx]; congr 1; split <;> omega


end Go.Proofs.Ytdimmnoflenfhaa
/-
  The document's own answers, layer 1: enclosures of sums and differences, of what is in both, of both.
-/
namespace Go.Proofs.Ytdimmnoflenfhaa
open Go.RowKit
set_option linter.unusedVariables false
set_option linter.unusedSimpArgs false

/-- What holds of the region whichever operations have come up. -/
def RSubSpansI (a b c d p q r s g h t u A B C D E : Int) (w : World) (i15 i16 i17 i18 i19 i20 i21 i22 i23 i24 i25 i5 : Value) (b9 : Act) (L9 : Array Bool) (a9 : Act) (w9 : World) : Prop :=
  ∃ (gg0 gg1 gg2 gg3 gg4 gg5 gg6 gg7 gg8 gg9 gg10 gg11 gg12 : Bool), L9 = #[gg0, gg1, gg2, gg3, gg4, gg5, gg6, gg7, gg8, gg9, gg10, gg11, gg12] ∧ a9 = ((((((((((((b9).put (some 15) (cond gg0 (.agg #[.int .i64 a, .int .i64 b, .int .i64 c, .int .i64 d]) (i15))).put (some 16) (cond gg1 (.pointer (some ⟨(w.heap.size + 1), 2, none⟩)) (i16))).put (some 17) (cond gg2 (.agg #[.int .i64 r, .int .i64 s]) (i17))).put (some 18) (cond gg3 (.agg #[.int .i64 g, .int .i64 h]) (i18))).put (some 19) (cond gg4 (.pointer (some ⟨(w.heap.size + 1), 0, none⟩)) (i19))).put (some 20) (cond gg5 (.agg #[.int .i64 p, .int .i64 q]) (i20))).put (some 21) (cond gg6 (.agg #[.int .i64 t, .int .i64 u]) (i21))).put (some 22) (cond gg7 (.agg #[.int .i64 g, .int .i64 h, .int .i64 t, .int .i64 u]) (i22))).put (some 23) (cond gg8 (.tuple #[.agg #[.int .i64 A, .int .i64 B, .int .i64 C, .int .i64 D], .int .i64 E]) (i23))).put (some 24) (cond gg9 (.agg #[.int .i64 A, .int .i64 B, .int .i64 C, .int .i64 D]) (i24))).put (some 25) (cond gg10 (.int .i64 E) (i25))).put (some 5) (cond gg12 (.int .i64 E) (i5)) ∧ Blk w9 w.heap.size #[.int .i64 a, .int .i64 b, .int .i64 c, .int .i64 d] 30 ∧ Blk w9 (w.heap.size + 1) #[.int .i64 p, .int .i64 q, .int .i64 r, .int .i64 s] 30 ∧ Blk w9 (w.heap.size + 1 + 1) (cond gg11 #[.int .i64 A, .int .i64 B, .int .i64 C, .int .i64 D] #[.int .i64 0, .int .i64 0, .int .i64 0, .int .i64 0]) 30 ∧ Below w.heap.size w w9 ∧ (w.heap.size + 1 + 1 + 1) ≤ w9.heap.size

set_option maxRecDepth 100000 in
set_option maxHeartbeats 4000000 in
set_option linter.unusedSimpArgs false in
theorem rsubSpans_walk (a b c d p q r s g h t u A B C D E : Int) (w : World)
    (HV1 : Hid (∀ w, Calls Try.prog 65 #[.agg #[.int .i64 a, .int .i64 b, .int .i64 c, .int .i64 d]] w fun e w' => e = .returned (.bool true) ∧ Below w.heap.size w w'))
    (HV2 : Hid (∀ w, Calls Try.prog 65 #[.agg #[.int .i64 p, .int .i64 q, .int .i64 r, .int .i64 s]] w fun e w' => e = .returned (.bool true) ∧ Below w.heap.size w w'))
    (HL : Hid (∀ w, Calls Try.prog 92 #[.agg #[.int .i64 r, .int .i64 s]] w fun e w' => e = .returned (.agg #[.int .i64 g, .int .i64 h]) ∧ Below w.heap.size w w'))
    (HM : Hid (∀ w, Calls Try.prog 92 #[.agg #[.int .i64 p, .int .i64 q]] w fun e w' => e = .returned (.agg #[.int .i64 t, .int .i64 u]) ∧ Below w.heap.size w w'))
    (HA : Hid (∀ w, Calls Try.prog 99 #[.agg #[.int .i64 a, .int .i64 b, .int .i64 c, .int .i64 d], .agg #[.int .i64 g, .int .i64 h, .int .i64 t, .int .i64 u]] w fun e w' => e = .returned (.tuple #[.agg #[.int .i64 A, .int .i64 B, .int .i64 C, .int .i64 D], .int .i64 E]) ∧ Below w.heap.size w w')) :
    Calls Try.prog 71 #[.agg #[.int .i64 a, .int .i64 b, .int .i64 c, .int .i64 d], .agg #[.int .i64 p, .int .i64 q, .int .i64 r, .int .i64 s]] w fun e w' => e = .returned (.tuple #[.agg #[.int .i64 A, .int .i64 B, .int .i64 C, .int .i64 D], .int .i64 E]) ∧ Below w.heap.size w w' := by
  go_enter Try.func71, Try.ntmps71
  go_upto_region 3 with (first
    | (go_at_call 65; (with_reducible refine (HV1.out _).mono ?_); rintro e w1 ⟨rfl, hb⟩; (first | ((with_reducible have k0 := Blk.later hb (Blk.alloc (Blk.alloc (Blk.new rfl)))); (with_reducible have k1 := Blk.later hb (Blk.alloc (Blk.new rfl))); (with_reducible have k2 := Blk.later hb (Blk.new rfl)); simp only [World.size_alloc] at k1 k2; obtain ⟨a0, b0⟩ := k0.read; have zl := k0.lt; obtain ⟨a1, b1⟩ := k1.read; have zl := k1.lt; obtain ⟨a2, b2⟩ := k2.read; have zl := k2.lt) | ((try (have zk := k0.lt; (first | ((with_reducible refine Blk.keepG hb k0 (fun h => ?_) ?_); (focus ((repeat' (first | (with_reducible assumption) | ((with_reducible refine Blk.new ?_); first | rfl | (simp; done)) | (with_reducible refine Blk.later (by assumption) ?_) | (with_reducible refine Blk.alloc ?_) | (with_reducible refine Blk.drewN ?_) | (with_reducible refine Blk.drew ?_) | (with_reducible refine Blk.other ?_ (by first | omega | (simp; done) | (simp; omega))))); done)); clear k0; intro k0) | (with_reducible replace k0 := Blk.later hb (Blk.set (Blk.set k0))) | (with_reducible replace k0 := Blk.later hb (Blk.set k0))); clear a0 b0; obtain ⟨a0, b0⟩ := k0.read; have zl := k0.lt)); (try (have zk := k1.lt; (first | ((with_reducible refine Blk.keepG hb k1 (fun h => ?_) ?_); (focus ((repeat' (first | (with_reducible assumption) | ((with_reducible refine Blk.new ?_); first | rfl | (simp; done)) | (with_reducible refine Blk.later (by assumption) ?_) | (with_reducible refine Blk.alloc ?_) | (with_reducible refine Blk.drewN ?_) | (with_reducible refine Blk.drew ?_) | (with_reducible refine Blk.other ?_ (by first | omega | (simp; done) | (simp; omega))))); done)); clear k1; intro k1) | (with_reducible replace k1 := Blk.later hb (Blk.set (Blk.set k1))) | (with_reducible replace k1 := Blk.later hb (Blk.set k1))); clear a1 b1; obtain ⟨a1, b1⟩ := k1.read; have zl := k1.lt)); (try (have zk := k2.lt; (first | ((with_reducible refine Blk.keepG hb k2 (fun h => ?_) ?_); (focus ((repeat' (first | (with_reducible assumption) | ((with_reducible refine Blk.new ?_); first | rfl | (simp; done)) | (with_reducible refine Blk.later (by assumption) ?_) | (with_reducible refine Blk.alloc ?_) | (with_reducible refine Blk.drewN ?_) | (with_reducible refine Blk.drew ?_) | (with_reducible refine Blk.other ?_ (by first | omega | (simp; done) | (simp; omega))))); done)); clear k2; intro k2) | (with_reducible replace k2 := Blk.later hb (Blk.set (Blk.set k2))) | (with_reducible replace k2 := Blk.later hb (Blk.set k2))); clear a2 b2; obtain ⟨a2, b2⟩ := k2.read; have zl := k2.lt)))); clear HV1)
    | (go_at_call 65; (with_reducible refine (HV2.out _).mono ?_); rintro e w1 ⟨rfl, hb⟩; (try (have zk := k0.lt; (first | ((with_reducible refine Blk.keepG hb k0 (fun h => ?_) ?_); (focus ((repeat' (first | (with_reducible assumption) | ((with_reducible refine Blk.new ?_); first | rfl | (simp; done)) | (with_reducible refine Blk.later (by assumption) ?_) | (with_reducible refine Blk.alloc ?_) | (with_reducible refine Blk.drewN ?_) | (with_reducible refine Blk.drew ?_) | (with_reducible refine Blk.other ?_ (by first | omega | (simp; done) | (simp; omega))))); done)); clear k0; intro k0) | (with_reducible replace k0 := Blk.later hb (Blk.set (Blk.set k0))) | (with_reducible replace k0 := Blk.later hb (Blk.set k0))); clear a0 b0; obtain ⟨a0, b0⟩ := k0.read; have zl := k0.lt)); (try (have zk := k1.lt; (first | ((with_reducible refine Blk.keepG hb k1 (fun h => ?_) ?_); (focus ((repeat' (first | (with_reducible assumption) | ((with_reducible refine Blk.new ?_); first | rfl | (simp; done)) | (with_reducible refine Blk.later (by assumption) ?_) | (with_reducible refine Blk.alloc ?_) | (with_reducible refine Blk.drewN ?_) | (with_reducible refine Blk.drew ?_) | (with_reducible refine Blk.other ?_ (by first | omega | (simp; done) | (simp; omega))))); done)); clear k1; intro k1) | (with_reducible replace k1 := Blk.later hb (Blk.set (Blk.set k1))) | (with_reducible replace k1 := Blk.later hb (Blk.set k1))); clear a1 b1; obtain ⟨a1, b1⟩ := k1.read; have zl := k1.lt)); (try (have zk := k2.lt; (first | ((with_reducible refine Blk.keepG hb k2 (fun h => ?_) ?_); (focus ((repeat' (first | (with_reducible assumption) | ((with_reducible refine Blk.new ?_); first | rfl | (simp; done)) | (with_reducible refine Blk.later (by assumption) ?_) | (with_reducible refine Blk.alloc ?_) | (with_reducible refine Blk.drewN ?_) | (with_reducible refine Blk.drew ?_) | (with_reducible refine Blk.other ?_ (by first | omega | (simp; done) | (simp; omega))))); done)); clear k2; intro k2) | (with_reducible replace k2 := Blk.later hb (Blk.set (Blk.set k2))) | (with_reducible replace k2 := Blk.later hb (Blk.set k2))); clear a2 b2; obtain ⟨a2, b2⟩ := k2.read; have zl := k2.lt)); clear HV2))
  refine wp_region_inv (RSubSpansI a b c d p q r s g h t u A B C D E w ?i15 ?i16 ?i17 ?i18 ?i19 ?i20 ?i21 ?i22 ?i23 ?i24 ?i25 ?i5) (by kernel_rfl) (by kernel_rfl) ?hsz ?hst ?hstep ?hfin
  case hst =>
    unfold RSubSpansI
    refine ⟨false, false, false, false, false, false, false, false, false, false, false, false, false, rfl, ?_, ?_, ?_, ?_, ?_, ?_⟩
    · first | (simp only [Act.put, List.setIfInBounds_toArray, List.set_cons_zero, List.set_cons_succ, cond_false]; done) | (simp only [Act.put, List.setIfInBounds_toArray, List.set_cons_zero, List.set_cons_succ, cond_false]; rfl)
    all_goals (first | (intro h; cases h; done) | ((repeat' (first | (with_reducible assumption) | ((with_reducible refine Blk.new ?_); first | rfl | (simp; done)) | (with_reducible refine Blk.later (by assumption) ?_) | (with_reducible refine Blk.alloc ?_) | (with_reducible refine Blk.drewN ?_) | (with_reducible refine Blk.drew ?_) | (with_reducible refine Blk.other ?_ (by first | omega | (simp; done) | (simp; omega))))); done) | ((repeat' (first | (with_reducible exact Below.refl _ _) | (with_reducible assumption) | (with_reducible refine belowThru ?_ (by assumption)) | (with_reducible refine belowAlloc ?_) | (with_reducible refine Below.setCell ?_ (by first | omega | (simp; done) | (simp; omega)) _) | (with_reducible refine Below.drew ?_) | (with_reducible refine below_drewN ?_ _))); done) | (simp only [cond_false]; (repeat' (first | (with_reducible assumption) | ((with_reducible refine Blk.new ?_); first | rfl | (simp; done)) | (with_reducible refine Blk.later (by assumption) ?_) | (with_reducible refine Blk.alloc ?_) | (with_reducible refine Blk.drewN ?_) | (with_reducible refine Blk.drew ?_) | (with_reducible refine Blk.other ?_ (by first | omega | (simp; done) | (simp; omega))))); done) | (simp only [World.size_drew]; omega) | (simp only [World.size_drew] at *; omega) | (simp; done) | (simp; omega))
  case hsz =>
    intro L a w9 h
    obtain ⟨gg0, gg1, gg2, gg3, gg4, gg5, gg6, gg7, gg8, gg9, gg10, gg11, gg12, rfl, -⟩ := h; rfl
  case hstep =>
    intro L a w9 hI i hi
    obtain ⟨gg0, gg1, gg2, gg3, gg4, gg5, gg6, gg7, gg8, gg9, gg10, gg11, gg12, rfl, rfl, fb0, fb1, fb2, fB, fL⟩ := hI
    obtain ⟨hi1, hi2, o, ho, hall⟩ := inv_mem hi
    clear hi
    rcases i with _ | _ | _ | _ | _ | _ | _ | _ | _ | _ | _ | _ | _ | i
    · have ge0 : gg0 = false := hi2
      clear hall hi1 hi2
      subst ge0
      have ho2 := ho
      simp only [List.getElem?_toArray, List.getElem?_cons_zero, List.getElem?_cons_succ] at ho2
      have ho3 := Option.some.inj ho2; clear ho2; subst ho3
      obtain ⟨ba0, bb0⟩ := fb0.read; have bl0 := fb0.lt
      obtain ⟨ba1, bb1⟩ := fb1.read; have bl1 := fb1.lt
      simp only [Act.put, List.setIfInBounds_toArray, List.set_cons_zero, List.set_cons_succ]
      simp only [cond_true, cond_false]
      refine inv_op ho (by kernel_rfl) (fun K hK => ?_)
      clear ho
      go_simp
      refine hK.out _ _ ?_
      unfold RSubSpansI
      refine ⟨true, gg1, gg2, gg3, gg4, gg5, gg6, gg7, gg8, gg9, gg10, gg11, gg12, rfl, by simp only [Act.put, List.setIfInBounds_toArray, List.set_cons_zero, List.set_cons_succ, cond_true, cond_false, Bool.cond_self], ?_, ?_, ?_, ?_, ?_⟩
      · exact fb0
      · exact fb1
      · exact fb2
      · exact fB
      · exact fL
    · have ge1 : gg1 = false := hi2
      clear hall hi1 hi2
      subst ge1
      have ho2 := ho
      simp only [List.getElem?_toArray, List.getElem?_cons_zero, List.getElem?_cons_succ] at ho2
      have ho3 := Option.some.inj ho2; clear ho2; subst ho3
      obtain ⟨ba0, bb0⟩ := fb0.read; have bl0 := fb0.lt
      obtain ⟨ba1, bb1⟩ := fb1.read; have bl1 := fb1.lt
      simp only [Act.put, List.setIfInBounds_toArray, List.set_cons_zero, List.set_cons_succ]
      simp only [cond_true, cond_false]
      refine inv_op ho (by kernel_rfl) (fun K hK => ?_)
      clear ho
      go_simp
      refine hK.out _ _ ?_
      unfold RSubSpansI
      refine ⟨gg0, true, gg2, gg3, gg4, gg5, gg6, gg7, gg8, gg9, gg10, gg11, gg12, rfl, by simp only [Act.put, List.setIfInBounds_toArray, List.set_cons_zero, List.set_cons_succ, cond_true, cond_false, Bool.cond_self], ?_, ?_, ?_, ?_, ?_⟩
      · exact fb0
      · exact fb1
      · exact fb2
      · exact fB
      · exact fL
    · have ge2 : gg2 = false := hi2
      have ge1 : gg1 = true := inv_dep ho hall 1 (by kernel_rfl)
      clear hall hi1 hi2
      subst ge2 ge1
      have ho2 := ho
      simp only [List.getElem?_toArray, List.getElem?_cons_zero, List.getElem?_cons_succ] at ho2
      have ho3 := Option.some.inj ho2; clear ho2; subst ho3
      obtain ⟨ba0, bb0⟩ := fb0.read; have bl0 := fb0.lt
      obtain ⟨ba1, bb1⟩ := fb1.read; have bl1 := fb1.lt
      simp only [Act.put, List.setIfInBounds_toArray, List.set_cons_zero, List.set_cons_succ]
      simp only [cond_true, cond_false]
      refine inv_op ho (by kernel_rfl) (fun K hK => ?_)
      clear ho
      go_simp
      refine hK.out _ _ ?_
      unfold RSubSpansI
      refine ⟨gg0, true, true, gg3, gg4, gg5, gg6, gg7, gg8, gg9, gg10, gg11, gg12, rfl, by simp only [Act.put, List.setIfInBounds_toArray, List.set_cons_zero, List.set_cons_succ, cond_true, cond_false, Bool.cond_self], ?_, ?_, ?_, ?_, ?_⟩
      · exact fb0
      · exact fb1
      · exact fb2
      · exact fB
      · exact fL
    · have ge3 : gg3 = false := hi2
      have ge2 : gg2 = true := inv_dep ho hall 2 (by kernel_rfl)
      clear hall hi1 hi2
      subst ge3 ge2
      have ho2 := ho
      simp only [List.getElem?_toArray, List.getElem?_cons_zero, List.getElem?_cons_succ] at ho2
      have ho3 := Option.some.inj ho2; clear ho2; subst ho3
      obtain ⟨ba0, bb0⟩ := fb0.read; have bl0 := fb0.lt
      obtain ⟨ba1, bb1⟩ := fb1.read; have bl1 := fb1.lt
      simp only [Act.put, List.setIfInBounds_toArray, List.set_cons_zero, List.set_cons_succ]
      simp only [cond_true, cond_false]
      refine inv_op ho (by kernel_rfl) (fun K hK => ?_)
      clear ho
      go_simp
      go_at_call 92; (with_reducible refine (HL.out _).mono ?_); rintro e w1 ⟨rfl, hb⟩
      refine hK.out _ _ ?_
      unfold RSubSpansI
      refine ⟨gg0, gg1, true, true, gg4, gg5, gg6, gg7, gg8, gg9, gg10, gg11, gg12, rfl, by simp only [Act.put, List.setIfInBounds_toArray, List.set_cons_zero, List.set_cons_succ, cond_true, cond_false, Bool.cond_self], ?_, ?_, ?_, ?_, ?_⟩
      · exact Blk.later hb fb0
      · exact Blk.later hb fb1
      · exact Blk.later hb fb2
      · exact belowThru fB hb
      · have := hb.size; omega
    · have ge4 : gg4 = false := hi2
      clear hall hi1 hi2
      subst ge4
      have ho2 := ho
      simp only [List.getElem?_toArray, List.getElem?_cons_zero, List.getElem?_cons_succ] at ho2
      have ho3 := Option.some.inj ho2; clear ho2; subst ho3
      obtain ⟨ba0, bb0⟩ := fb0.read; have bl0 := fb0.lt
      obtain ⟨ba1, bb1⟩ := fb1.read; have bl1 := fb1.lt
      simp only [Act.put, List.setIfInBounds_toArray, List.set_cons_zero, List.set_cons_succ]
      simp only [cond_true, cond_false]
      refine inv_op ho (by kernel_rfl) (fun K hK => ?_)
      clear ho
      go_simp
      refine hK.out _ _ ?_
      unfold RSubSpansI
      refine ⟨gg0, gg1, gg2, gg3, true, gg5, gg6, gg7, gg8, gg9, gg10, gg11, gg12, rfl, by simp only [Act.put, List.setIfInBounds_toArray, List.set_cons_zero, List.set_cons_succ, cond_true, cond_false, Bool.cond_self], ?_, ?_, ?_, ?_, ?_⟩
      · exact fb0
      · exact fb1
      · exact fb2
      · exact fB
      · exact fL
    · have ge5 : gg5 = false := hi2
      have ge4 : gg4 = true := inv_dep ho hall 4 (by kernel_rfl)
      clear hall hi1 hi2
      subst ge5 ge4
      have ho2 := ho
      simp only [List.getElem?_toArray, List.getElem?_cons_zero, List.getElem?_cons_succ] at ho2
      have ho3 := Option.some.inj ho2; clear ho2; subst ho3
      obtain ⟨ba0, bb0⟩ := fb0.read; have bl0 := fb0.lt
      obtain ⟨ba1, bb1⟩ := fb1.read; have bl1 := fb1.lt
      simp only [Act.put, List.setIfInBounds_toArray, List.set_cons_zero, List.set_cons_succ]
      simp only [cond_true, cond_false]
      refine inv_op ho (by kernel_rfl) (fun K hK => ?_)
      clear ho
      go_simp
      refine hK.out _ _ ?_
      unfold RSubSpansI
      refine ⟨gg0, gg1, gg2, gg3, true, true, gg6, gg7, gg8, gg9, gg10, gg11, gg12, rfl, by simp only [Act.put, List.setIfInBounds_toArray, List.set_cons_zero, List.set_cons_succ, cond_true, cond_false, Bool.cond_self], ?_, ?_, ?_, ?_, ?_⟩
      · exact fb0
      · exact fb1
      · exact fb2
      · exact fB
      · exact fL
    · have ge6 : gg6 = false := hi2
      have ge5 : gg5 = true := inv_dep ho hall 5 (by kernel_rfl)
      clear hall hi1 hi2
      subst ge6 ge5
      have ho2 := ho
      simp only [List.getElem?_toArray, List.getElem?_cons_zero, List.getElem?_cons_succ] at ho2
      have ho3 := Option.some.inj ho2; clear ho2; subst ho3
      obtain ⟨ba0, bb0⟩ := fb0.read; have bl0 := fb0.lt
      obtain ⟨ba1, bb1⟩ := fb1.read; have bl1 := fb1.lt
      simp only [Act.put, List.setIfInBounds_toArray, List.set_cons_zero, List.set_cons_succ]
      simp only [cond_true, cond_false]
      refine inv_op ho (by kernel_rfl) (fun K hK => ?_)
      clear ho
      go_simp
      go_at_call 92; (with_reducible refine (HM.out _).mono ?_); rintro e w1 ⟨rfl, hb⟩
      refine hK.out _ _ ?_
      unfold RSubSpansI
      refine ⟨gg0, gg1, gg2, gg3, gg4, true, true, gg7, gg8, gg9, gg10, gg11, gg12, rfl, by simp only [Act.put, List.setIfInBounds_toArray, List.set_cons_zero, List.set_cons_succ, cond_true, cond_false, Bool.cond_self], ?_, ?_, ?_, ?_, ?_⟩
      · exact Blk.later hb fb0
      · exact Blk.later hb fb1
      · exact Blk.later hb fb2
      · exact belowThru fB hb
      · have := hb.size; omega
    · have ge7 : gg7 = false := hi2
      have ge3 : gg3 = true := inv_dep ho hall 3 (by kernel_rfl)
      have ge6 : gg6 = true := inv_dep ho hall 6 (by kernel_rfl)
      clear hall hi1 hi2
      subst ge7 ge3 ge6
      have ho2 := ho
      simp only [List.getElem?_toArray, List.getElem?_cons_zero, List.getElem?_cons_succ] at ho2
      have ho3 := Option.some.inj ho2; clear ho2; subst ho3
      obtain ⟨ba0, bb0⟩ := fb0.read; have bl0 := fb0.lt
      obtain ⟨ba1, bb1⟩ := fb1.read; have bl1 := fb1.lt
      simp only [Act.put, List.setIfInBounds_toArray, List.set_cons_zero, List.set_cons_succ]
      simp only [cond_true, cond_false]
      refine inv_op ho (by kernel_rfl) (fun K hK => ?_)
      clear ho
      go_simp
      refine hK.out _ _ ?_
      unfold RSubSpansI
      refine ⟨gg0, gg1, gg2, true, gg4, gg5, true, true, gg8, gg9, gg10, gg11, gg12, rfl, by simp only [Act.put, List.setIfInBounds_toArray, List.set_cons_zero, List.set_cons_succ, cond_true, cond_false, Bool.cond_self], ?_, ?_, ?_, ?_, ?_⟩
      · exact fb0
      · exact fb1
      · exact fb2
      · exact fB
      · exact fL
    · have ge8 : gg8 = false := hi2
      have ge0 : gg0 = true := inv_dep ho hall 0 (by kernel_rfl)
      have ge7 : gg7 = true := inv_dep ho hall 7 (by kernel_rfl)
      clear hall hi1 hi2
      subst ge8 ge0 ge7
      have ho2 := ho
      simp only [List.getElem?_toArray, List.getElem?_cons_zero, List.getElem?_cons_succ] at ho2
      have ho3 := Option.some.inj ho2; clear ho2; subst ho3
      obtain ⟨ba0, bb0⟩ := fb0.read; have bl0 := fb0.lt
      obtain ⟨ba1, bb1⟩ := fb1.read; have bl1 := fb1.lt
      simp only [Act.put, List.setIfInBounds_toArray, List.set_cons_zero, List.set_cons_succ]
      simp only [cond_true, cond_false]
      refine inv_op ho (by kernel_rfl) (fun K hK => ?_)
      clear ho
      go_simp
      go_at_call 99; (with_reducible refine (HA.out _).mono ?_); rintro e w1 ⟨rfl, hb⟩
      refine hK.out _ _ ?_
      unfold RSubSpansI
      refine ⟨true, gg1, gg2, gg3, gg4, gg5, gg6, true, true, gg9, gg10, gg11, gg12, rfl, by simp only [Act.put, List.setIfInBounds_toArray, List.set_cons_zero, List.set_cons_succ, cond_true, cond_false, Bool.cond_self], ?_, ?_, ?_, ?_, ?_⟩
      · exact Blk.later hb fb0
      · exact Blk.later hb fb1
      · exact Blk.later hb fb2
      · exact belowThru fB hb
      · have := hb.size; omega
    · have ge9 : gg9 = false := hi2
      have ge8 : gg8 = true := inv_dep ho hall 8 (by kernel_rfl)
      clear hall hi1 hi2
      subst ge9 ge8
      have ho2 := ho
      simp only [List.getElem?_toArray, List.getElem?_cons_zero, List.getElem?_cons_succ] at ho2
      have ho3 := Option.some.inj ho2; clear ho2; subst ho3
      obtain ⟨ba0, bb0⟩ := fb0.read; have bl0 := fb0.lt
      obtain ⟨ba1, bb1⟩ := fb1.read; have bl1 := fb1.lt
      simp only [Act.put, List.setIfInBounds_toArray, List.set_cons_zero, List.set_cons_succ]
      simp only [cond_true, cond_false]
      refine inv_op ho (by kernel_rfl) (fun K hK => ?_)
      clear ho
      go_simp
      refine hK.out _ _ ?_
      unfold RSubSpansI
      refine ⟨gg0, gg1, gg2, gg3, gg4, gg5, gg6, gg7, true, true, gg10, gg11, gg12, rfl, by simp only [Act.put, List.setIfInBounds_toArray, List.set_cons_zero, List.set_cons_succ, cond_true, cond_false, Bool.cond_self], ?_, ?_, ?_, ?_, ?_⟩
      · exact fb0
      · exact fb1
      · exact fb2
      · exact fB
      · exact fL
    · have ge10 : gg10 = false := hi2
      have ge8 : gg8 = true := inv_dep ho hall 8 (by kernel_rfl)
      clear hall hi1 hi2
      subst ge10 ge8
      have ho2 := ho
      simp only [List.getElem?_toArray, List.getElem?_cons_zero, List.getElem?_cons_succ] at ho2
      have ho3 := Option.some.inj ho2; clear ho2; subst ho3
      obtain ⟨ba0, bb0⟩ := fb0.read; have bl0 := fb0.lt
      obtain ⟨ba1, bb1⟩ := fb1.read; have bl1 := fb1.lt
      simp only [Act.put, List.setIfInBounds_toArray, List.set_cons_zero, List.set_cons_succ]
      simp only [cond_true, cond_false]
      refine inv_op ho (by kernel_rfl) (fun K hK => ?_)
      clear ho
      go_simp
      refine hK.out _ _ ?_
      unfold RSubSpansI
      refine ⟨gg0, gg1, gg2, gg3, gg4, gg5, gg6, gg7, true, gg9, true, gg11, gg12, rfl, by simp only [Act.put, List.setIfInBounds_toArray, List.set_cons_zero, List.set_cons_succ, cond_true, cond_false, Bool.cond_self], ?_, ?_, ?_, ?_, ?_⟩
      · exact fb0
      · exact fb1
      · exact fb2
      · exact fB
      · exact fL
    · have ge11 : gg11 = false := hi2
      have ge9 : gg9 = true := inv_dep ho hall 9 (by kernel_rfl)
      clear hall hi1 hi2
      subst ge11 ge9
      have ho2 := ho
      simp only [List.getElem?_toArray, List.getElem?_cons_zero, List.getElem?_cons_succ] at ho2
      have ho3 := Option.some.inj ho2; clear ho2; subst ho3
      simp only [cond_true, cond_false] at fb2
      obtain ⟨ba0, bb0⟩ := fb0.read; have bl0 := fb0.lt
      obtain ⟨ba1, bb1⟩ := fb1.read; have bl1 := fb1.lt
      obtain ⟨ba2, bb2⟩ := fb2.read; have bl2 := fb2.lt
      simp only [Act.put, List.setIfInBounds_toArray, List.set_cons_zero, List.set_cons_succ]
      simp only [cond_true, cond_false]
      refine inv_op ho (by kernel_rfl) (fun K hK => ?_)
      clear ho
      go_simp
      refine hK.out _ _ ?_
      unfold RSubSpansI
      refine ⟨gg0, gg1, gg2, gg3, gg4, gg5, gg6, gg7, gg8, true, gg10, true, gg12, rfl, by simp only [Act.put, List.setIfInBounds_toArray, List.set_cons_zero, List.set_cons_succ, cond_true, cond_false, Bool.cond_self], ?_, ?_, ?_, ?_, ?_⟩
      · (repeat' (first | (with_reducible assumption) | ((with_reducible refine Blk.new ?_); first | rfl | (simp; done)) | (with_reducible refine Blk.later (by assumption) ?_) | (with_reducible refine Blk.alloc ?_) | (with_reducible refine Blk.drewN ?_) | (with_reducible refine Blk.drew ?_) | (with_reducible refine Blk.other ?_ (by first | omega | (simp; done) | (simp; omega)))))
      · (repeat' (first | (with_reducible assumption) | ((with_reducible refine Blk.new ?_); first | rfl | (simp; done)) | (with_reducible refine Blk.later (by assumption) ?_) | (with_reducible refine Blk.alloc ?_) | (with_reducible refine Blk.drewN ?_) | (with_reducible refine Blk.drew ?_) | (with_reducible refine Blk.other ?_ (by first | omega | (simp; done) | (simp; omega)))))
      · exact Blk.set (Blk.set (Blk.set (Blk.set (fb2))))
      · (repeat' (first | (with_reducible exact Below.refl _ _) | (with_reducible assumption) | (with_reducible refine belowThru ?_ (by assumption)) | (with_reducible refine belowAlloc ?_) | (with_reducible refine Below.setCell ?_ (by first | omega | (simp; done) | (simp; omega)) _) | (with_reducible refine Below.drew ?_) | (with_reducible refine below_drewN ?_ _)))
      · first | exact fL | (simp; omega)
    · have ge12 : gg12 = false := hi2
      have ge10 : gg10 = true := inv_dep ho hall 10 (by kernel_rfl)
      clear hall hi1 hi2
      subst ge12 ge10
      have ho2 := ho
      simp only [List.getElem?_toArray, List.getElem?_cons_zero, List.getElem?_cons_succ] at ho2
      have ho3 := Option.some.inj ho2; clear ho2; subst ho3
      obtain ⟨ba0, bb0⟩ := fb0.read; have bl0 := fb0.lt
      obtain ⟨ba1, bb1⟩ := fb1.read; have bl1 := fb1.lt
      simp only [Act.put, List.setIfInBounds_toArray, List.set_cons_zero, List.set_cons_succ]
      simp only [cond_true, cond_false]
      refine inv_op ho (by kernel_rfl) (fun K hK => ?_)
      clear ho
      go_simp
      refine hK.out _ _ ?_
      unfold RSubSpansI
      refine ⟨gg0, gg1, gg2, gg3, gg4, gg5, gg6, gg7, gg8, gg9, true, gg11, true, rfl, by simp only [Act.put, List.setIfInBounds_toArray, List.set_cons_zero, List.set_cons_succ, cond_true, cond_false, Bool.cond_self], ?_, ?_, ?_, ?_, ?_⟩
      · exact fb0
      · exact fb1
      · exact fb2
      · exact fB
      · exact fL
    · exfalso; simp at hi1; omega
  case hfin =>
    intro a w9 hI
    obtain ⟨gg0, gg1, gg2, gg3, gg4, gg5, gg6, gg7, gg8, gg9, gg10, gg11, gg12, hL, rfl, fb0, fb1, fb2, fB, fL⟩ := hI
    have hL2 : #[true, true, true, true, true, true, true, true, true, true, true, true, true] = #[gg0, gg1, gg2, gg3, gg4, gg5, gg6, gg7, gg8, gg9, gg10, gg11, gg12] := hL
    cases hL2
    simp only [Act.put, List.setIfInBounds_toArray, List.set_cons_zero, List.set_cons_succ]
    simp only [cond_true]
    go_wp2_with fail
    simp only [cond_true] at fb2
    obtain ⟨ra, rb⟩ := fb2.read
    exact bodyPost_ret (v := .tuple #[.agg #[.int .i64 A, .int .i64 B, .int .i64 C, .int .i64 D], .int .i64 E]) (by simp only [results, Try.results71]; go_simp) rfl ⟨rfl, fB⟩

end Go.Proofs.Ytdimmnoflenfhaa
/-
  The document's own answers, layer 1: what an enclosure contains; sums of enclosures.
-/
namespace Go.Proofs.Ytdimmnoflenfhaa
open Go.RowKit
set_option linter.unusedVariables false
set_option linter.unusedSimpArgs false

set_option maxHeartbeats 2000000 in
theorem raddSpans_walk (a b c d p q r s A0 B0 A1 B1 A B C D E : Int) (x y : Bool) (w : World)
    (H1 : Hid (∀ w, Calls Try.prog 65 #[.agg #[.int .i64 a, .int .i64 b, .int .i64 c, .int .i64 d]] w fun e w' => e = .returned (.bool true) ∧ Below w.heap.size w w'))
    (H2 : Hid (∀ w, Calls Try.prog 65 #[.agg #[.int .i64 p, .int .i64 q, .int .i64 r, .int .i64 s]] w fun e w' => e = .returned (.bool true) ∧ Below w.heap.size w w'))
    (H3 : Hid (∀ w, Calls Try.prog 91 #[.agg #[.int .i64 a, .int .i64 b], .agg #[.int .i64 p, .int .i64 q]] w fun e w' => e = .returned (.tuple #[.agg #[.int .i64 A0, .int .i64 B0], .bool x]) ∧ Below w.heap.size w w'))
    (H4 : Hid (∀ w, Calls Try.prog 91 #[.agg #[.int .i64 c, .int .i64 d], .agg #[.int .i64 r, .int .i64 s]] w fun e w' => e = .returned (.tuple #[.agg #[.int .i64 A1, .int .i64 B1], .bool y]) ∧ Below w.heap.size w w'))
    (hv : (x = false ∧ A = 0 ∧ B = 0 ∧ C = 0 ∧ D = 0 ∧ E = 4) ∨ (x = true ∧ y = false ∧ A = 0 ∧ B = 0 ∧ C = 0 ∧ D = 0 ∧ E = 4) ∨ (x = true ∧ y = true ∧ A = A0 ∧ B = B0 ∧ C = A1 ∧ D = B1 ∧ E = 0)) :
    Calls Try.prog 99 #[.agg #[.int .i64 a, .int .i64 b, .int .i64 c, .int .i64 d], .agg #[.int .i64 p, .int .i64 q, .int .i64 r, .int .i64 s]] w fun e w' => e = .returned (.tuple #[.agg #[.int .i64 A, .int .i64 B, .int .i64 C, .int .i64 D], .int .i64 E]) ∧ Below w.heap.size w w' := by
  rcases hv with ⟨rfl, rfl, rfl, rfl, rfl, rfl⟩ | ⟨rfl, rfl, rfl, rfl, rfl, rfl, rfl⟩ | ⟨rfl, rfl, rfl, rfl, rfl, rfl, rfl⟩
  all_goals
    go_enter Try.func99, Try.ntmps99
    go_wp2_with (first
      | (go_at_call 65; (with_reducible refine (H1.out _).mono ?_); rintro e w1 ⟨rfl, hb⟩; (first | ((with_reducible have k0 := Blk.later hb (Blk.alloc (Blk.alloc (Blk.new rfl)))); (with_reducible have k1 := Blk.later hb (Blk.alloc (Blk.new rfl))); (with_reducible have k2 := Blk.later hb (Blk.new rfl)); simp only [World.size_alloc] at k1 k2; obtain ⟨a0, b0⟩ := k0.read; have zl := k0.lt; obtain ⟨a1, b1⟩ := k1.read; have zl := k1.lt; obtain ⟨a2, b2⟩ := k2.read; have zl := k2.lt) | ((try (have zk := k0.lt; (first | ((with_reducible refine Blk.keepG hb k0 (fun h => ?_) ?_); (focus ((repeat' (first | (with_reducible assumption) | ((with_reducible refine Blk.new ?_); first | rfl | (simp; done)) | (with_reducible refine Blk.later (by assumption) ?_) | (with_reducible refine Blk.alloc ?_) | (with_reducible refine Blk.drewN ?_) | (with_reducible refine Blk.drew ?_) | (with_reducible refine Blk.other ?_ (by first | omega | (simp; done) | (simp; omega))))); done)); clear k0; intro k0) | (with_reducible replace k0 := Blk.later hb (Blk.set (Blk.set k0))) | (with_reducible replace k0 := Blk.later hb (Blk.set k0))); clear a0 b0; obtain ⟨a0, b0⟩ := k0.read; have zl := k0.lt)); (try (have zk := k1.lt; (first | ((with_reducible refine Blk.keepG hb k1 (fun h => ?_) ?_); (focus ((repeat' (first | (with_reducible assumption) | ((with_reducible refine Blk.new ?_); first | rfl | (simp; done)) | (with_reducible refine Blk.later (by assumption) ?_) | (with_reducible refine Blk.alloc ?_) | (with_reducible refine Blk.drewN ?_) | (with_reducible refine Blk.drew ?_) | (with_reducible refine Blk.other ?_ (by first | omega | (simp; done) | (simp; omega))))); done)); clear k1; intro k1) | (with_reducible replace k1 := Blk.later hb (Blk.set (Blk.set k1))) | (with_reducible replace k1 := Blk.later hb (Blk.set k1))); clear a1 b1; obtain ⟨a1, b1⟩ := k1.read; have zl := k1.lt)); (try (have zk := k2.lt; (first | ((with_reducible refine Blk.keepG hb k2 (fun h => ?_) ?_); (focus ((repeat' (first | (with_reducible assumption) | ((with_reducible refine Blk.new ?_); first | rfl | (simp; done)) | (with_reducible refine Blk.later (by assumption) ?_) | (with_reducible refine Blk.alloc ?_) | (with_reducible refine Blk.drewN ?_) | (with_reducible refine Blk.drew ?_) | (with_reducible refine Blk.other ?_ (by first | omega | (simp; done) | (simp; omega))))); done)); clear k2; intro k2) | (with_reducible replace k2 := Blk.later hb (Blk.set (Blk.set k2))) | (with_reducible replace k2 := Blk.later hb (Blk.set k2))); clear a2 b2; obtain ⟨a2, b2⟩ := k2.read; have zl := k2.lt)); (try (have zk := k3.lt; (first | ((with_reducible refine Blk.keepG hb k3 (fun h => ?_) ?_); (focus ((repeat' (first | (with_reducible assumption) | ((with_reducible refine Blk.new ?_); first | rfl | (simp; done)) | (with_reducible refine Blk.later (by assumption) ?_) | (with_reducible refine Blk.alloc ?_) | (with_reducible refine Blk.drewN ?_) | (with_reducible refine Blk.drew ?_) | (with_reducible refine Blk.other ?_ (by first | omega | (simp; done) | (simp; omega))))); done)); clear k3; intro k3) | (with_reducible replace k3 := Blk.later hb (Blk.set (Blk.set k3))) | (with_reducible replace k3 := Blk.later hb (Blk.set k3))); clear a3 b3; obtain ⟨a3, b3⟩ := k3.read; have zl := k3.lt)))); clear H1)
      | (go_at_call 65; (with_reducible refine (H2.out _).mono ?_); rintro e w1 ⟨rfl, hb⟩; (try (have zk := k0.lt; (first | ((with_reducible refine Blk.keepG hb k0 (fun h => ?_) ?_); (focus ((repeat' (first | (with_reducible assumption) | ((with_reducible refine Blk.new ?_); first | rfl | (simp; done)) | (with_reducible refine Blk.later (by assumption) ?_) | (with_reducible refine Blk.alloc ?_) | (with_reducible refine Blk.drewN ?_) | (with_reducible refine Blk.drew ?_) | (with_reducible refine Blk.other ?_ (by first | omega | (simp; done) | (simp; omega))))); done)); clear k0; intro k0) | (with_reducible replace k0 := Blk.later hb (Blk.set (Blk.set k0))) | (with_reducible replace k0 := Blk.later hb (Blk.set k0))); clear a0 b0; obtain ⟨a0, b0⟩ := k0.read; have zl := k0.lt)); (try (have zk := k1.lt; (first | ((with_reducible refine Blk.keepG hb k1 (fun h => ?_) ?_); (focus ((repeat' (first | (with_reducible assumption) | ((with_reducible refine Blk.new ?_); first | rfl | (simp; done)) | (with_reducible refine Blk.later (by assumption) ?_) | (with_reducible refine Blk.alloc ?_) | (with_reducible refine Blk.drewN ?_) | (with_reducible refine Blk.drew ?_) | (with_reducible refine Blk.other ?_ (by first | omega | (simp; done) | (simp; omega))))); done)); clear k1; intro k1) | (with_reducible replace k1 := Blk.later hb (Blk.set (Blk.set k1))) | (with_reducible replace k1 := Blk.later hb (Blk.set k1))); clear a1 b1; obtain ⟨a1, b1⟩ := k1.read; have zl := k1.lt)); (try (have zk := k2.lt; (first | ((with_reducible refine Blk.keepG hb k2 (fun h => ?_) ?_); (focus ((repeat' (first | (with_reducible assumption) | ((with_reducible refine Blk.new ?_); first | rfl | (simp; done)) | (with_reducible refine Blk.later (by assumption) ?_) | (with_reducible refine Blk.alloc ?_) | (with_reducible refine Blk.drewN ?_) | (with_reducible refine Blk.drew ?_) | (with_reducible refine Blk.other ?_ (by first | omega | (simp; done) | (simp; omega))))); done)); clear k2; intro k2) | (with_reducible replace k2 := Blk.later hb (Blk.set (Blk.set k2))) | (with_reducible replace k2 := Blk.later hb (Blk.set k2))); clear a2 b2; obtain ⟨a2, b2⟩ := k2.read; have zl := k2.lt)); (try (have zk := k3.lt; (first | ((with_reducible refine Blk.keepG hb k3 (fun h => ?_) ?_); (focus ((repeat' (first | (with_reducible assumption) | ((with_reducible refine Blk.new ?_); first | rfl | (simp; done)) | (with_reducible refine Blk.later (by assumption) ?_) | (with_reducible refine Blk.alloc ?_) | (with_reducible refine Blk.drewN ?_) | (with_reducible refine Blk.drew ?_) | (with_reducible refine Blk.other ?_ (by first | omega | (simp; done) | (simp; omega))))); done)); clear k3; intro k3) | (with_reducible replace k3 := Blk.later hb (Blk.set (Blk.set k3))) | (with_reducible replace k3 := Blk.later hb (Blk.set k3))); clear a3 b3; obtain ⟨a3, b3⟩ := k3.read; have zl := k3.lt)); clear H2)
      | (go_at_call 91; (with_reducible refine (H3.out _).mono ?_); rintro e w1 ⟨rfl, hb⟩; (try (have zk := k0.lt; (first | ((with_reducible refine Blk.keepG hb k0 (fun h => ?_) ?_); (focus ((repeat' (first | (with_reducible assumption) | ((with_reducible refine Blk.new ?_); first | rfl | (simp; done)) | (with_reducible refine Blk.later (by assumption) ?_) | (with_reducible refine Blk.alloc ?_) | (with_reducible refine Blk.drewN ?_) | (with_reducible refine Blk.drew ?_) | (with_reducible refine Blk.other ?_ (by first | omega | (simp; done) | (simp; omega))))); done)); clear k0; intro k0) | (with_reducible replace k0 := Blk.later hb (Blk.set (Blk.set k0))) | (with_reducible replace k0 := Blk.later hb (Blk.set k0))); clear a0 b0; obtain ⟨a0, b0⟩ := k0.read; have zl := k0.lt)); (try (have zk := k1.lt; (first | ((with_reducible refine Blk.keepG hb k1 (fun h => ?_) ?_); (focus ((repeat' (first | (with_reducible assumption) | ((with_reducible refine Blk.new ?_); first | rfl | (simp; done)) | (with_reducible refine Blk.later (by assumption) ?_) | (with_reducible refine Blk.alloc ?_) | (with_reducible refine Blk.drewN ?_) | (with_reducible refine Blk.drew ?_) | (with_reducible refine Blk.other ?_ (by first | omega | (simp; done) | (simp; omega))))); done)); clear k1; intro k1) | (with_reducible replace k1 := Blk.later hb (Blk.set (Blk.set k1))) | (with_reducible replace k1 := Blk.later hb (Blk.set k1))); clear a1 b1; obtain ⟨a1, b1⟩ := k1.read; have zl := k1.lt)); (try (have zk := k2.lt; (first | ((with_reducible refine Blk.keepG hb k2 (fun h => ?_) ?_); (focus ((repeat' (first | (with_reducible assumption) | ((with_reducible refine Blk.new ?_); first | rfl | (simp; done)) | (with_reducible refine Blk.later (by assumption) ?_) | (with_reducible refine Blk.alloc ?_) | (with_reducible refine Blk.drewN ?_) | (with_reducible refine Blk.drew ?_) | (with_reducible refine Blk.other ?_ (by first | omega | (simp; done) | (simp; omega))))); done)); clear k2; intro k2) | (with_reducible replace k2 := Blk.later hb (Blk.set (Blk.set k2))) | (with_reducible replace k2 := Blk.later hb (Blk.set k2))); clear a2 b2; obtain ⟨a2, b2⟩ := k2.read; have zl := k2.lt)); (try (have zk := k3.lt; (first | ((with_reducible refine Blk.keepG hb k3 (fun h => ?_) ?_); (focus ((repeat' (first | (with_reducible assumption) | ((with_reducible refine Blk.new ?_); first | rfl | (simp; done)) | (with_reducible refine Blk.later (by assumption) ?_) | (with_reducible refine Blk.alloc ?_) | (with_reducible refine Blk.drewN ?_) | (with_reducible refine Blk.drew ?_) | (with_reducible refine Blk.other ?_ (by first | omega | (simp; done) | (simp; omega))))); done)); clear k3; intro k3) | (with_reducible replace k3 := Blk.later hb (Blk.set (Blk.set k3))) | (with_reducible replace k3 := Blk.later hb (Blk.set k3))); clear a3 b3; obtain ⟨a3, b3⟩ := k3.read; have zl := k3.lt)); clear H3)
      | (go_at_call 91; (with_reducible refine (H4.out _).mono ?_); rintro e w1 ⟨rfl, hb⟩; (try (have zk := k0.lt; (first | ((with_reducible refine Blk.keepG hb k0 (fun h => ?_) ?_); (focus ((repeat' (first | (with_reducible assumption) | ((with_reducible refine Blk.new ?_); first | rfl | (simp; done)) | (with_reducible refine Blk.later (by assumption) ?_) | (with_reducible refine Blk.alloc ?_) | (with_reducible refine Blk.drewN ?_) | (with_reducible refine Blk.drew ?_) | (with_reducible refine Blk.other ?_ (by first | omega | (simp; done) | (simp; omega))))); done)); clear k0; intro k0) | (with_reducible replace k0 := Blk.later hb (Blk.set (Blk.set k0))) | (with_reducible replace k0 := Blk.later hb (Blk.set k0))); clear a0 b0; obtain ⟨a0, b0⟩ := k0.read; have zl := k0.lt)); (try (have zk := k1.lt; (first | ((with_reducible refine Blk.keepG hb k1 (fun h => ?_) ?_); (focus ((repeat' (first | (with_reducible assumption) | ((with_reducible refine Blk.new ?_); first | rfl | (simp; done)) | (with_reducible refine Blk.later (by assumption) ?_) | (with_reducible refine Blk.alloc ?_) | (with_reducible refine Blk.drewN ?_) | (with_reducible refine Blk.drew ?_) | (with_reducible refine Blk.other ?_ (by first | omega | (simp; done) | (simp; omega))))); done)); clear k1; intro k1) | (with_reducible replace k1 := Blk.later hb (Blk.set (Blk.set k1))) | (with_reducible replace k1 := Blk.later hb (Blk.set k1))); clear a1 b1; obtain ⟨a1, b1⟩ := k1.read; have zl := k1.lt)); (try (have zk := k2.lt; (first | ((with_reducible refine Blk.keepG hb k2 (fun h => ?_) ?_); (focus ((repeat' (first | (with_reducible assumption) | ((with_reducible refine Blk.new ?_); first | rfl | (simp; done)) | (with_reducible refine Blk.later (by assumption) ?_) | (with_reducible refine Blk.alloc ?_) | (with_reducible refine Blk.drewN ?_) | (with_reducible refine Blk.drew ?_) | (with_reducible refine Blk.other ?_ (by first | omega | (simp; done) | (simp; omega))))); done)); clear k2; intro k2) | (with_reducible replace k2 := Blk.later hb (Blk.set (Blk.set k2))) | (with_reducible replace k2 := Blk.later hb (Blk.set k2))); clear a2 b2; obtain ⟨a2, b2⟩ := k2.read; have zl := k2.lt)); (try (have zk := k3.lt; (first | ((with_reducible refine Blk.keepG hb k3 (fun h => ?_) ?_); (focus ((repeat' (first | (with_reducible assumption) | ((with_reducible refine Blk.new ?_); first | rfl | (simp; done)) | (with_reducible refine Blk.later (by assumption) ?_) | (with_reducible refine Blk.alloc ?_) | (with_reducible refine Blk.drewN ?_) | (with_reducible refine Blk.drew ?_) | (with_reducible refine Blk.other ?_ (by first | omega | (simp; done) | (simp; omega))))); done)); clear k3; intro k3) | (with_reducible replace k3 := Blk.later hb (Blk.set (Blk.set k3))) | (with_reducible replace k3 := Blk.later hb (Blk.set k3))); clear a3 b3; obtain ⟨a3, b3⟩ := k3.read; have zl := k3.lt)); ((with_reducible have k3 := Blk.later hb (Blk.new rfl)); (try simp only [World.size_alloc, World.size_drew, World.heap_drewN] at k3); obtain ⟨a3, b3⟩ := k3.read; have zl := k3.lt); clear H4))
    first
    | exact bodyPost_ret (v := .tuple #[.agg #[.int .i64 0, .int .i64 0, .int .i64 0, .int .i64 0], .int .i64 4]) (by simp only [results, Try.results99]; go_simp) rfl ⟨rfl, by (repeat' (first | (with_reducible exact Below.refl _ _) | (with_reducible assumption) | (with_reducible refine belowThru ?_ (by assumption)) | (with_reducible refine belowAlloc ?_) | (with_reducible refine Below.setCell ?_ (by first | omega | (simp; done) | (simp; omega)) _) | (with_reducible refine Below.drew ?_) | (with_reducible refine below_drewN ?_ _)))⟩
    | exact bodyPost_ret (v := .tuple #[.agg #[.int .i64 A, .int .i64 B, .int .i64 C, .int .i64 D], .int .i64 0]) (by simp only [results, Try.results99]; go_simp) rfl ⟨rfl, by (repeat' (first | (with_reducible exact Below.refl _ _) | (with_reducible assumption) | (with_reducible refine belowThru ?_ (by assumption)) | (with_reducible refine belowAlloc ?_) | (with_reducible refine Below.setCell ?_ (by first | omega | (simp; done) | (simp; omega)) _) | (with_reducible refine Below.drew ?_) | (with_reducible refine below_drewN ?_ _)))⟩
end Go.Proofs.Ytdimmnoflenfhaa
