/-
  The texts that the laws of this seat share, merged: part 16.
-/
import Derived.BigQuiet
import Derived.Deep.CutRange
import Derived.Deep.DeepCutAuto
import Derived.Deep.Draws
import Derived.Deep.OwnRows
import Derived.Deep.QuietTactic
import Derived.Deep.RegionHeld3
import Derived.Laws.AppendOwn
import Derived.Laws.EntriesVeiled
import Derived.Lib.Hide
import Derived.LoopIn
import Derived.LoopNIn
import Derived.OneCell
import Derived.OwnWalkIn
import Derived.RangeFuncBound
import Derived.RangeFuncCalls
import Derived.RangeFuncLeaves
import Derived.RangeFuncNested
import Derived.Shelf.Abstract
import Derived.Shelf.AbstractIn
import Derived.Shelf.RegionOpen
import Derived.StillTailTactics
import Derived.TacticsInMore
import Derived.Test.YtghmjdmiaajbnaaProg
import Derived.WalkKit
import Derived.WalkSmall
import Derived.WalkSpells
import Derived.Test.YtghmjdmiaajbnaaM5
import Derived.Test.YtghmjdmiaajbnaaM12
/-
  Layer 2: point operations: which are valid, what they turn a value into.
-/
namespace Go.Proofs.Ytghmjdmiaajbnaa
open Go.RowKit
set_option linter.unusedVariables false
set_option linter.unusedSimpArgs false

/-- A point operation that is valid. -/
def okP (pM pA pD pL pH : Int) : Prop := (okFa pM ∧ okV pA) ∧ (1 ≤ pD ∧ pD ≤ 65536) ∧ okV pL ∧ okV pH ∧ pL ≤ pH
instance (pM pA pD pL pH : Int) : Decidable (okP pM pA pD pL pH) := inferInstanceAs (Decidable (_ ∧ _))
/-- What it turns a value into. -/
def ptV (pM pA pD pL pH v : Int) : Int := inR ((pM * v + pA) / pD) pL pH
theorem ptV_ok {pM pA pD pL pH : Int} (h : okP pM pA pD pL pH) (v : Int) : okV (ptV pM pA pD pL pH v) := by
  obtain ⟨-, -, ⟨l0, l1⟩, ⟨h0, h1⟩, hl⟩ := h
  unfold ptV inR okV; omega
theorem mul_fv {m v : Int} (hm : okFa m) (hv : okV v) : -140737488355328 ≤ m * v ∧ m * v ≤ 140737488355328 := by
  have h := Int.natAbs_mul m v
  have h1 : m.natAbs ≤ 65536 := by unfold okFa at hm; omega
  have h2 : v.natAbs ≤ 2147483648 := by unfold okV at hv; omega
  have h3 := Nat.mul_le_mul h1 h2
  omega
set_option maxRecDepth 100000 in
set_option maxHeartbeats 4000000 in
theorem isPoint_any (pM pA pD pL pH : Int) (w : World) :
    Calls Try.prog 52 #[.agg #[.int .i64 pM, .int .i64 pA, .int .i64 pD, .int .i64 pL, .int .i64 pH]] w fun e w' => e = .returned (.bool (decide (okP pM pA pD pL pH))) ∧ Below w.heap.size w w' := by
  have hc : (decide (okFa pM) = false ∧ decide (okP pM pA pD pL pH) = false) ∨
      (decide (okFa pM) = true ∧ decide (okV pA) = false ∧ decide (okP pM pA pD pL pH) = false) ∨
      (decide (okFa pM) = true ∧ decide (okV pA) = true ∧ pD < 1 ∧ decide (okP pM pA pD pL pH) = false) ∨
      (decide (okFa pM) = true ∧ decide (okV pA) = true ∧ 1 ≤ pD ∧ 65536 < pD ∧ decide (okP pM pA pD pL pH) = false) ∨
      (decide (okFa pM) = true ∧ decide (okV pA) = true ∧ 1 ≤ pD ∧ pD ≤ 65536 ∧ decide (okV pL) = false ∧ decide (okP pM pA pD pL pH) = false) ∨
      (decide (okFa pM) = true ∧ decide (okV pA) = true ∧ 1 ≤ pD ∧ pD ≤ 65536 ∧ decide (okV pL) = true ∧ decide (okV pH) = false ∧ decide (okP pM pA pD pL pH) = false) ∨
      (decide (okFa pM) = true ∧ decide (okV pA) = true ∧ 1 ≤ pD ∧ pD ≤ 65536 ∧ decide (okV pL) = true ∧ decide (okV pH) = true ∧ ¬ pL ≤ pH ∧ decide (okP pM pA pD pL pH) = false) ∨
      (decide (okFa pM) = true ∧ decide (okV pA) = true ∧ 1 ≤ pD ∧ pD ≤ 65536 ∧ decide (okV pL) = true ∧ decide (okV pH) = true ∧ pL ≤ pH ∧ decide (okP pM pA pD pL pH) = true) := by
    by_cases q0 : okFa pM
    · skip
      by_cases q1 : okV pA
      · skip
        by_cases q2 : 1 ≤ pD
        · skip
          by_cases q3 : pD ≤ 65536
          · skip
            by_cases q4 : okV pL
            · skip
              by_cases q5 : okV pH
              · skip
                by_cases q6 : pL ≤ pH
                · skip
                  exact .inr (.inr (.inr (.inr (.inr (.inr (.inr (⟨decide_eq_true q0, decide_eq_true q1, q2, q3, decide_eq_true q4, decide_eq_true q5, q6, decide_eq_true ⟨⟨q0, q1⟩, ⟨q2, q3⟩, q4, q5, q6⟩⟩)))))))
                · exact .inr (.inr (.inr (.inr (.inr (.inr (.inl ⟨decide_eq_true q0, decide_eq_true q1, q2, q3, decide_eq_true q4, decide_eq_true q5, q6, decide_eq_false (fun h => q6 h.2.2.2.2)⟩))))))
              · exact .inr (.inr (.inr (.inr (.inr (.inl ⟨decide_eq_true q0, decide_eq_true q1, q2, q3, decide_eq_true q4, decide_eq_false q5, decide_eq_false (fun h => q5 h.2.2.2.1)⟩)))))
            · exact .inr (.inr (.inr (.inr (.inl ⟨decide_eq_true q0, decide_eq_true q1, q2, q3, decide_eq_false q4, decide_eq_false (fun h => q4 h.2.2.1)⟩))))
          · exact .inr (.inr (.inr (.inl ⟨decide_eq_true q0, decide_eq_true q1, q2, (by omega), decide_eq_false (fun h => q3 h.2.1.2)⟩)))
        · exact .inr (.inr (.inl ⟨decide_eq_true q0, decide_eq_true q1, (by omega), decide_eq_false (fun h => q2 h.2.1.1)⟩))
      · exact .inr (.inl ⟨decide_eq_true q0, decide_eq_false q1, decide_eq_false (fun h => q1 h.1.2)⟩)
    · exact .inl ⟨decide_eq_false q0, decide_eq_false (fun h => q0 h.1.1)⟩
  rcases hc with ⟨d1, he⟩ | ⟨d1, d2, he⟩ | ⟨d1, d2, d3, he⟩ | ⟨d1, d2, d3, d4, he⟩ | ⟨d1, d2, d3, d4, d5, he⟩ | ⟨d1, d2, d3, d4, d5, d6, he⟩ | ⟨d1, d2, d3, d4, d5, d6, d7, he⟩ | ⟨d1, d2, d3, d4, d5, d6, d7, he⟩
  all_goals
    have HE := Lib.hid he
    clear he
    go_enter Try.func52, Try.ntmps52
    go_wp2_with (first
      | (go_at_call 95; (with_reducible refine (within_fa _ _).mono ?_); rintro e w1 ⟨rfl, rfl⟩)
      | (go_at_call 80; (with_reducible refine (isValue_any _ _).mono ?_); rintro e w1 ⟨rfl, rfl⟩))
    go_ret
    exact ⟨by rw [HE.out]; first | rfl | simp_all, by (repeat' (first | (with_reducible exact Below.refl _ _) | (with_reducible assumption) | (with_reducible refine belowThru ?_ (by assumption)) | (with_reducible refine belowAlloc ?_) | (with_reducible refine Below.setCell ?_ (by first | omega | (simp; done) | (simp; omega)) _) | (with_reducible refine Below.drew ?_) | (with_reducible refine below_drewN ?_ _)))⟩

set_option maxRecDepth 100000 in
set_option maxHeartbeats 4000000 in
theorem point1_any (W H pM pA pD pL pH x y : Int) (a : Option Addr) (n c : Nat) (zs : List Int) (hI : okI W H zs) (hP : okP pM pA pD pL pH) (hp : inP W H x y) (bp bm : Nat) (w : World)
    (hR : Row w a n (iv zs)) (kp : Blk w bp #[.int .i64 pM, .int .i64 pA, .int .i64 pD, .int .i64 pL, .int .i64 pH] 30) (km : Blk w bm #[.int .i64 W, .int .i64 H, .slice a n c] 24) :
    Calls Try.prog 54 #[.agg #[.int .i64 x, .int .i64 y], .pointer (some ⟨bp, 0, none⟩), .pointer (some ⟨bm, 0, none⟩)] w fun e w' => e = .returned (.int .i64 (ptV pM pA pD pL pH (pixAt W zs x y))) ∧ Below w.heap.size w w' := by
  have hv := okI_at hI hp
  have HA := Lib.hid (fun w hR => at_z W H x y a n c zs hI hp w hR)
  obtain ⟨v, hve⟩ : ∃ v, v = pixAt W zs x y := ⟨_, rfl⟩
  rw [← hve] at hv HA ⊢
  clear hve
  obtain ⟨⟨hM, hA1⟩, ⟨d0, d1⟩, -⟩ := hP
  have m1 := mul_fv hM hv
  obtain ⟨A0, A1⟩ := hA1
  have v1 : IntKind.i64.wrap (pM * v) = pM * v := IntWalk.i64_in _ (by omega)
  have v2 : IntKind.i64.wrap (pM * v + pA) = pM * v + pA := IntWalk.i64_in _ (by omega)
  have HQ := Lib.hid (quotient_any (pM * v + pA) pD d0 (by omega) (by omega) (by omega))
  have HR := Lib.hid hR
  have hmx : Try.prog.follows .mixedOrders = true := by kernel_rfl
  have z1 := kp.lt; have z2 := km.lt
  unfold ptV
  clear hR hI hp hM hv d0 d1 A0 A1 m1
  go_enter Try.func54, Try.ntmps54
  go_wp2
  have k0 : Blk (w.alloc (.cells #[.int .i64 x, .int .i64 y] 83)) w.heap.size #[.int .i64 x, .int .i64 y] 83 := Blk.new rfl
  have k1 := kp.alloc (o := .cells #[.int .i64 x, .int .i64 y] 83)
  have k2 := km.alloc (o := .cells #[.int .i64 x, .int .i64 y] 83)
  have hB : Below w.heap.size w (w.alloc (.cells #[.int .i64 x, .int .i64 y] 83)) := by (repeat' (first | (with_reducible exact Below.refl _ _) | (with_reducible assumption) | (with_reducible refine belowThru ?_ (by assumption)) | (with_reducible refine belowAlloc ?_) | (with_reducible refine Below.setCell ?_ (by first | omega | (simp; done) | (simp; omega)) _) | (with_reducible refine Below.drew ?_) | (with_reducible refine below_drewN ?_ _)))
  obtain ⟨W0, hW0⟩ : ∃ W0, w.alloc (.cells #[.int .i64 x, .int .i64 y] 83) = W0 := ⟨_, rfl⟩
  rw [hW0] at k0 k1 k2 hB ⊢
  clear hW0 kp km
  refine wp_region_held_drew (S := fun w' => (Blk w' w.heap.size #[.int .i64 x, .int .i64 y] 83 ∧ (∀ i : Nat, w'.cell? ⟨w.heap.size, i, none⟩ = (#[.int .i64 x, .int .i64 y] : Array Value)[i]?)) ∧ (Blk w' bp #[.int .i64 pM, .int .i64 pA, .int .i64 pD, .int .i64 pL, .int .i64 pH] 30 ∧ (∀ i : Nat, w'.cell? ⟨bp, i, none⟩ = (#[.int .i64 pM, .int .i64 pA, .int .i64 pD, .int .i64 pL, .int .i64 pH] : Array Value)[i]?)) ∧ (Blk w' bm #[.int .i64 W, .int .i64 H, .slice a n c] 24 ∧ (∀ i : Nat, w'.cell? ⟨bm, i, none⟩ = (#[.int .i64 W, .int .i64 H, .slice a n c] : Array Value)[i]?)) ∧ Below w.heap.size w w') hmx ⟨k0.drew.full, k1.drew.full, k2.drew.full, hB.drew⟩ (fun hHeld => ?_)
  refine wpAnyH_take (i := 0) (v := ?_) rfl (by kernel_rfl) (by kernel_rfl) (by kernel_rfl) (fun _ _ _ h => h) (Or.inl ⟨by rfl, ?hT0⟩) (by assumption) ?_
  case hT0 => ((intro w hSw; (try dsimp only at hSw); go_simp); try (with_reducible rfl))
  try simp only [Act.put, List.setIfInBounds_toArray, List.set_cons_zero, List.set_cons_succ]
  refine wpAnyH_take (i := 1) (v := ?_) rfl (by kernel_rfl) (by kernel_rfl) (by kernel_rfl) (fun _ _ _ h => h) (Or.inl ⟨by rfl, ?hT1⟩) (by assumption) ?_
  case hT1 => ((intro w hSw; (try dsimp only at hSw); go_simp); try (with_reducible rfl))
  try simp only [Act.put, List.setIfInBounds_toArray, List.set_cons_zero, List.set_cons_succ]
  refine wpAnyH_take (i := 2) (v := ?_) rfl (by kernel_rfl) (by kernel_rfl) (by kernel_rfl) (fun _ _ _ h => h) (Or.inl ⟨by rfl, ?hT2⟩) (by assumption) ?_
  case hT2 => ((intro w hSw; (try dsimp only at hSw); go_simp); try (with_reducible rfl))
  try simp only [Act.put, List.setIfInBounds_toArray, List.set_cons_zero, List.set_cons_succ]
  refine wpAnyH_take (i := 3) (v := ?_) rfl (by kernel_rfl) (by kernel_rfl) (by kernel_rfl) (fun _ _ _ h => h) (Or.inl ⟨by rfl, ?hT3⟩) (by assumption) ?_
  case hT3 => ((intro w hSw; (try dsimp only at hSw); go_simp); try (with_reducible rfl))
  try simp only [Act.put, List.setIfInBounds_toArray, List.set_cons_zero, List.set_cons_succ]
  refine wpAnyH_take (i := 6) (v := ?_) rfl (by kernel_rfl) (by kernel_rfl) (by kernel_rfl) (fun _ _ _ h => h) (Or.inl ⟨by rfl, ?hT4⟩) (by assumption) ?_
  case hT4 => ((intro w hSw; (try dsimp only at hSw); go_simp); try (with_reducible rfl))
  try simp only [Act.put, List.setIfInBounds_toArray, List.set_cons_zero, List.set_cons_succ]
  refine wpAnyH_take (i := 7) (v := ?_) rfl (by kernel_rfl) (by kernel_rfl) (by kernel_rfl) (fun _ _ _ h => h) (Or.inl ⟨by rfl, ?hT5⟩) (by assumption) ?_
  case hT5 => ((intro w hSw; (try dsimp only at hSw); go_simp); try (with_reducible rfl))
  try simp only [Act.put, List.setIfInBounds_toArray, List.set_cons_zero, List.set_cons_succ]
  refine wpAnyH_take (i := 9) (v := ?_) rfl (by kernel_rfl) (by kernel_rfl) (by kernel_rfl) (fun _ _ _ h => h) (Or.inl ⟨by rfl, ?hT6⟩) (by assumption) ?_
  case hT6 => ((intro w hSw; (try dsimp only at hSw); go_simp); try (with_reducible rfl))
  try simp only [Act.put, List.setIfInBounds_toArray, List.set_cons_zero, List.set_cons_succ]
  refine wpAnyH_take (i := 10) (v := ?_) rfl (by kernel_rfl) (by kernel_rfl) (by kernel_rfl) (fun _ _ _ h => h) (Or.inl ⟨by rfl, ?hT7⟩) (by assumption) ?_
  case hT7 => ((intro w hSw; (try dsimp only at hSw); go_simp); try (with_reducible rfl))
  try simp only [Act.put, List.setIfInBounds_toArray, List.set_cons_zero, List.set_cons_succ]
  refine wpAnyH_take (i := 12) (v := ?_) rfl (by kernel_rfl) (by kernel_rfl) (by kernel_rfl) (fun _ _ _ h => h) (Or.inl ⟨by rfl, ?hT8⟩) (by assumption) ?_
  case hT8 => ((intro w hSw; (try dsimp only at hSw); go_simp); try (with_reducible rfl))
  try simp only [Act.put, List.setIfInBounds_toArray, List.set_cons_zero, List.set_cons_succ]
  refine wpAnyH_take (i := 13) (v := ?_) rfl (by kernel_rfl) (by kernel_rfl) (by kernel_rfl) (fun _ _ _ h => h) (Or.inl ⟨by rfl, ?hT9⟩) (by assumption) ?_
  case hT9 => ((intro w hSw; (try dsimp only at hSw); go_simp); try (with_reducible rfl))
  try simp only [Act.put, List.setIfInBounds_toArray, List.set_cons_zero, List.set_cons_succ]
  refine wpAnyH_take (i := 14) (v := ?_) rfl (by kernel_rfl) (by kernel_rfl) (by kernel_rfl) (fun _ _ _ h => h) (Or.inl ⟨by rfl, ?hT10⟩) (by assumption) ?_
  case hT10 => ((intro w hSw; (try dsimp only at hSw); go_simp); try (with_reducible rfl))
  try simp only [Act.put, List.setIfInBounds_toArray, List.set_cons_zero, List.set_cons_succ]
  refine wpAnyH_take (i := 15) (v := ?_) rfl (by kernel_rfl) (by kernel_rfl) (by kernel_rfl) (fun _ _ _ h => h) (Or.inl ⟨by rfl, ?hT11⟩) (by assumption) ?_
  case hT11 => ((intro w hSw; (try dsimp only at hSw); go_simp); try (with_reducible rfl))
  try simp only [Act.put, List.setIfInBounds_toArray, List.set_cons_zero, List.set_cons_succ]
  refine wpAnyH_ready (rs := [4]) (by kernel_rfl) (by simp) ?_
  refine AllReadyH.cons rfl (fun K hK => ?_) AllReadyH.nil
  go_simp
  (go_at_call 57; (with_reducible refine (HA.out _ (HR.out.later hB.drew)).mono ?_); rintro e wA ⟨rfl, hb⟩)
  refine hK.out _ _ ?_ (fun hHeldN => ?_)
  · (try dsimp only); (((first | (apply hold3; (focus assumption); intro p0 p1 p2 pB) | skip); refine ⟨Blk.full ?_, Blk.full ?_, Blk.full ?_, ?_⟩; all_goals (first | ((repeat' (first | (with_reducible assumption) | ((with_reducible refine Blk.new ?_); first | rfl | (simp; done)) | (with_reducible refine Blk.later (by assumption) ?_) | (with_reducible refine Blk.alloc ?_) | (with_reducible refine Blk.drewN ?_) | (with_reducible refine Blk.drew ?_) | (with_reducible refine Blk.other ?_ (by first | omega | (simp; done) | (simp; omega))))); done) | ((repeat' (first | (with_reducible exact Below.refl _ _) | (with_reducible assumption) | (with_reducible refine belowThru ?_ (by assumption)) | (with_reducible refine belowAlloc ?_) | (with_reducible refine Below.setCell ?_ (by first | omega | (simp; done) | (simp; omega)) _) | (with_reducible refine Below.drew ?_) | (with_reducible refine below_drewN ?_ _))); done))))
  clear hK K hHeld
  have hHeld := hHeldN
  clear hHeldN
  try simp only [Act.put, List.setIfInBounds_toArray, List.set_cons_zero, List.set_cons_succ]
  clear hb
  refine wpAnyH_take (i := 5) (v := ?_) rfl (by kernel_rfl) (by kernel_rfl) (by kernel_rfl) (fun _ _ _ h => h) (Or.inl ⟨by rfl, ?hT12⟩) (by assumption) ?_
  case hT12 => ((intro w hSw; (try dsimp only at hSw); go_simp); try (with_reducible rfl))
  try simp only [Act.put, List.setIfInBounds_toArray, List.set_cons_zero, List.set_cons_succ]
  refine wpAnyH_take (i := 8) (v := ?_) rfl (by kernel_rfl) (by kernel_rfl) (by kernel_rfl) (fun _ _ _ h => h) (Or.inl ⟨by rfl, ?hT13⟩) (by assumption) ?_
  case hT13 => ((intro w hSw; (try dsimp only at hSw); go_simp); try (with_reducible rfl))
  try simp only [Act.put, List.setIfInBounds_toArray, List.set_cons_zero, List.set_cons_succ]
  refine wpAnyH_ready (rs := [11]) (by kernel_rfl) (by simp) ?_
  refine AllReadyH.cons rfl (fun K hK => ?_) AllReadyH.nil
  go_simp
  (go_at_call 56; (with_reducible refine (HQ.out _).mono ?_); rintro e wB ⟨rfl, rfl⟩)
  refine hK.out _ _ ?_ (fun hHeldN => ?_)
  · (try dsimp only); (((first | (apply hold3; (focus assumption); intro p0 p1 p2 pB) | skip); refine ⟨Blk.full ?_, Blk.full ?_, Blk.full ?_, ?_⟩; all_goals (first | ((repeat' (first | (with_reducible assumption) | ((with_reducible refine Blk.new ?_); first | rfl | (simp; done)) | (with_reducible refine Blk.later (by assumption) ?_) | (with_reducible refine Blk.alloc ?_) | (with_reducible refine Blk.drewN ?_) | (with_reducible refine Blk.drew ?_) | (with_reducible refine Blk.other ?_ (by first | omega | (simp; done) | (simp; omega))))); done) | ((repeat' (first | (with_reducible exact Below.refl _ _) | (with_reducible assumption) | (with_reducible refine belowThru ?_ (by assumption)) | (with_reducible refine belowAlloc ?_) | (with_reducible refine Below.setCell ?_ (by first | omega | (simp; done) | (simp; omega)) _) | (with_reducible refine Below.drew ?_) | (with_reducible refine below_drewN ?_ _))); done))))
  clear hK K hHeld
  have hHeld := hHeldN
  clear hHeldN
  try simp only [Act.put, List.setIfInBounds_toArray, List.set_cons_zero, List.set_cons_succ]
  refine wpAnyH_ready (rs := [16]) (by kernel_rfl) (by simp) ?_
  refine AllReadyH.cons rfl (fun K hK => ?_) AllReadyH.nil
  go_simp
  (go_at_call 55; (with_reducible refine (bring_any _ _ _ _).mono ?_); rintro e wC ⟨rfl, rfl⟩)
  refine hK.out _ _ ?_ (fun hHeldN => ?_)
  · (try dsimp only); (((first | (apply hold3; (focus assumption); intro p0 p1 p2 pB) | skip); refine ⟨Blk.full ?_, Blk.full ?_, Blk.full ?_, ?_⟩; all_goals (first | ((repeat' (first | (with_reducible assumption) | ((with_reducible refine Blk.new ?_); first | rfl | (simp; done)) | (with_reducible refine Blk.later (by assumption) ?_) | (with_reducible refine Blk.alloc ?_) | (with_reducible refine Blk.drewN ?_) | (with_reducible refine Blk.drew ?_) | (with_reducible refine Blk.other ?_ (by first | omega | (simp; done) | (simp; omega))))); done) | ((repeat' (first | (with_reducible exact Below.refl _ _) | (with_reducible assumption) | (with_reducible refine belowThru ?_ (by assumption)) | (with_reducible refine belowAlloc ?_) | (with_reducible refine Below.setCell ?_ (by first | omega | (simp; done) | (simp; omega)) _) | (with_reducible refine Below.drew ?_) | (with_reducible refine below_drewN ?_ _))); done))))
  clear hK K hHeld
  have hHeld := hHeldN
  clear hHeldN
  try simp only [Act.put, List.setIfInBounds_toArray, List.set_cons_zero, List.set_cons_succ]
  refine wpAnyH_ready (rs := [17]) (by kernel_rfl) (by simp) ?_
  refine AllReadyH.cons rfl (fun K hK => ?_) AllReadyH.nil
  go_simp
  refine hK.out _ _ ?_ (fun hHeldN => ?_)
  · (try dsimp only); (((first | (apply hold3; (focus assumption); intro p0 p1 p2 pB) | skip); refine ⟨Blk.full ?_, Blk.full ?_, Blk.full ?_, ?_⟩; all_goals (first | ((repeat' (first | (with_reducible assumption) | ((with_reducible refine Blk.new ?_); first | rfl | (simp; done)) | (with_reducible refine Blk.later (by assumption) ?_) | (with_reducible refine Blk.alloc ?_) | (with_reducible refine Blk.drewN ?_) | (with_reducible refine Blk.drew ?_) | (with_reducible refine Blk.other ?_ (by first | omega | (simp; done) | (simp; omega))))); done) | ((repeat' (first | (with_reducible exact Below.refl _ _) | (with_reducible assumption) | (with_reducible refine belowThru ?_ (by assumption)) | (with_reducible refine belowAlloc ?_) | (with_reducible refine Below.setCell ?_ (by first | omega | (simp; done) | (simp; omega)) _) | (with_reducible refine Below.drew ?_) | (with_reducible refine below_drewN ?_ _))); done))))
  clear hK K hHeld
  have hHeld := hHeldN
  clear hHeldN
  try simp only [Act.put, List.setIfInBounds_toArray, List.set_cons_zero, List.set_cons_succ]
  refine wpAnyH_done (by kernel_rfl) ?_ _
  obtain ⟨-, -, -, qB⟩ := hHeld
  go_wp2
  go_ret
  exact ⟨rfl, qB⟩
end Go.Proofs.Ytghmjdmiaajbnaa
/-
  Layer 2: operations of two values, by the code.
-/
namespace Go.Proofs.Ytghmjdmiaajbnaa
open Go.RowKit
set_option linter.unusedVariables false
set_option linter.unusedSimpArgs false

/-- The result of an operation, before it is brought into the range. -/
def zipRaw (how a b : Int) : Int := if how = 1 then a + b else if how = 2 then a - b else if how = 3 then min a b else if how = 4 then max a b else if how = 5 then a * b else max (a - b) (b - a)
theorem mul_vv {a b : Int} (ha : okV a) (hb : okV b) : -4611686018427387904 ≤ a * b ∧ a * b ≤ 4611686018427387904 := by
  have h := Int.natAbs_mul a b
  have h1 : a.natAbs ≤ 2147483648 := by unfold okV at ha; omega
  have h2 : b.natAbs ≤ 2147483648 := by unfold okV at hb; omega
  have h3 := Nat.mul_le_mul h1 h2
  omega
set_option maxHeartbeats 1000000 in
theorem oper1_any (a b : Int) (ha : okV a) (hb : okV b) (w : World) : Calls Try.prog 97 #[.int .i64 a, .int .i64 b] w fun e w' => e = .returned (.int .i64 (zipRaw 1 a b)) ∧ w = w' := by
  obtain ⟨a1, a2⟩ := ha
  obtain ⟨b1, b2⟩ := hb
  go_enter Try.func97, Try.ntmps97
  go_wp2
  go_ret
  exact ⟨rfl, rfl⟩
set_option maxHeartbeats 1000000 in
theorem oper2_any (a b : Int) (ha : okV a) (hb : okV b) (w : World) : Calls Try.prog 98 #[.int .i64 a, .int .i64 b] w fun e w' => e = .returned (.int .i64 (zipRaw 2 a b)) ∧ w = w' := by
  obtain ⟨a1, a2⟩ := ha
  obtain ⟨b1, b2⟩ := hb
  go_enter Try.func98, Try.ntmps98
  go_wp2
  go_ret
  exact ⟨rfl, rfl⟩
set_option maxHeartbeats 1000000 in
theorem oper3_any (a b : Int) (w : World) : Calls Try.prog 99 #[.int .i64 a, .int .i64 b] w fun e w' => e = .returned (.int .i64 (zipRaw 3 a b)) ∧ w = w' := by
  go_enter Try.func99, Try.ntmps99
  go_wp2
  all_goals
    go_ret
    exact ⟨ret_int (show _ = min a b by omega), rfl⟩
set_option maxHeartbeats 1000000 in
theorem oper4_any (a b : Int) (w : World) : Calls Try.prog 100 #[.int .i64 a, .int .i64 b] w fun e w' => e = .returned (.int .i64 (zipRaw 4 a b)) ∧ w = w' := by
  go_enter Try.func100, Try.ntmps100
  go_wp2
  all_goals
    go_ret
    exact ⟨ret_int (show _ = max a b by omega), rfl⟩
set_option maxHeartbeats 1000000 in
theorem oper5_any (a b : Int) (ha : okV a) (hb : okV b) (w : World) : Calls Try.prog 101 #[.int .i64 a, .int .i64 b] w fun e w' => e = .returned (.int .i64 (zipRaw 5 a b)) ∧ w = w' := by
  have hm := mul_vv ha hb
  have hw : IntKind.i64.wrap (a * b) = a * b := IntWalk.i64_in _ (by omega)
  go_enter Try.func101, Try.ntmps101
  go_wp2
  go_ret
  exact ⟨rfl, rfl⟩
set_option maxHeartbeats 1000000 in
theorem oper6_any (a b : Int) (ha : okV a) (hb : okV b) (w : World) : Calls Try.prog 102 #[.int .i64 a, .int .i64 b] w fun e w' => e = .returned (.int .i64 (zipRaw 6 a b)) ∧ w = w' := by
  obtain ⟨a1, a2⟩ := ha
  obtain ⟨b1, b2⟩ := hb
  go_enter Try.func102, Try.ntmps102
  go_wp2
  all_goals
    go_ret
    exact ⟨ret_int (show _ = max (a - b) (b - a) by omega), rfl⟩

/-- The operations, by their numbers. -/
abbrev opers : Value := .agg #[.nilFunc, .func (.func 97) #[] #[], .func (.func 98) #[] #[], .func (.func 99) #[] #[], .func (.func 100) #[] #[], .func (.func 101) #[] #[], .func (.func 102) #[] #[]]
set_option maxHeartbeats 1000000 in
theorem operations_any (w : World) :
    Calls Try.prog 58 #[] w fun e w' => e = .returned opers ∧ Below w.heap.size w w' := by
  go_enter Try.func58, Try.ntmps58
  go_wp2
  exact bodyPost_ret (v := opers) (by simp only [results, Try.results58]; go_simp) rfl ⟨rfl, by (repeat' (first | (with_reducible exact Below.refl _ _) | (with_reducible assumption) | (with_reducible refine belowThru ?_ (by assumption)) | (with_reducible refine belowAlloc ?_) | (with_reducible refine Below.setCell ?_ (by first | omega | (simp; done) | (simp; omega)) _) | (with_reducible refine Below.drew ?_) | (with_reducible refine below_drewN ?_ _)))⟩

theorem hold4 {w : World} {b0 b1 b2 b3 : Nat} {c0 c1 c2 c3 : Array Value} {t0 t1 t2 t3 : TypeId} {B D F J E G : Prop} (h : (Blk w b0 c0 t0 ∧ B) ∧ (Blk w b1 c1 t1 ∧ D) ∧ (Blk w b2 c2 t2 ∧ F) ∧ (Blk w b3 c3 t3 ∧ J) ∧ E) (g : Blk w b0 c0 t0 → Blk w b1 c1 t1 → Blk w b2 c2 t2 → Blk w b3 c3 t3 → E → G) : G := g h.1.1 h.2.1.1 h.2.2.1.1 h.2.2.2.1.1 h.2.2.2.2
set_option maxRecDepth 100000 in
set_option maxHeartbeats 4000000 in
theorem zip1_any (W H x y r : Int) (F : FuncId) (a a' : Option Addr) (n n' c c' : Nat) (za zb : List Int) (hI : okI W H za) (hJ : okI W H zb) (hp : inP W H x y) (bo ba bb : Nat) (w : World)
    (hR : Row w a n (iv za)) (hS : Row w a' n' (iv zb)) (ko : Blk w bo #[.func (.func F) #[] #[]] 85) (ka : Blk w ba #[.int .i64 W, .int .i64 H, .slice a n c] 24) (kb : Blk w bb #[.int .i64 W, .int .i64 H, .slice a' n' c'] 24)
    (ef : ∀ args w, (callFunc F args).run Try.prog w = .ok (.enter F args) w)
    (HF : Hid (∀ w, Calls Try.prog F #[.int .i64 (pixAt W za x y), .int .i64 (pixAt W zb x y)] w fun e w' => e = .returned (.int .i64 r) ∧ w = w')) :
    Calls Try.prog 59 #[.agg #[.int .i64 x, .int .i64 y], .pointer (some ⟨bo, 0, none⟩), .pointer (some ⟨ba, 0, none⟩), .pointer (some ⟨bb, 0, none⟩)] w fun e w' => e = .returned (.int .i64 r) ∧ Below w.heap.size w w' := by
  have HA := Lib.hid (fun w hR => at_z W H x y a n c za hI hp w hR)
  have HB := Lib.hid (fun w hR => at_z W H x y a' n' c' zb hJ hp w hR)
  have HR := Lib.hid hR
  have HS := Lib.hid hS
  have z1 := ko.lt; have z2 := ka.lt; have z3 := kb.lt
  clear hR hS hI hJ hp
  go_enter Try.func59, Try.ntmps59
  go_wp2
  have k0 : Blk (w.alloc (.cells #[.int .i64 x, .int .i64 y] 83)) w.heap.size #[.int .i64 x, .int .i64 y] 83 := Blk.new rfl
  have k1 := ko.alloc (o := .cells #[.int .i64 x, .int .i64 y] 83)
  have k2 := ka.alloc (o := .cells #[.int .i64 x, .int .i64 y] 83)
  have k3 := kb.alloc (o := .cells #[.int .i64 x, .int .i64 y] 83)
  have hB : Below w.heap.size w (w.alloc (.cells #[.int .i64 x, .int .i64 y] 83)) := by (repeat' (first | (with_reducible exact Below.refl _ _) | (with_reducible assumption) | (with_reducible refine belowThru ?_ (by assumption)) | (with_reducible refine belowAlloc ?_) | (with_reducible refine Below.setCell ?_ (by first | omega | (simp; done) | (simp; omega)) _) | (with_reducible refine Below.drew ?_) | (with_reducible refine below_drewN ?_ _)))
  obtain ⟨W0, hW0⟩ : ∃ W0, w.alloc (.cells #[.int .i64 x, .int .i64 y] 83) = W0 := ⟨_, rfl⟩
  rw [hW0] at k0 k1 k2 k3 hB ⊢
  clear hW0 ko ka kb
  go_region_held3 (fun w' => (Blk w' w.heap.size #[.int .i64 x, .int .i64 y] 83 ∧ (∀ i : Nat, w'.cell? ⟨w.heap.size, i, none⟩ = (#[.int .i64 x, .int .i64 y] : Array Value)[i]?)) ∧ (Blk w' bo #[.func (.func F) #[] #[]] 85 ∧ (∀ i : Nat, w'.cell? ⟨bo, i, none⟩ = (#[.func (.func F) #[] #[]] : Array Value)[i]?)) ∧ (Blk w' ba #[.int .i64 W, .int .i64 H, .slice a n c] 24 ∧ (∀ i : Nat, w'.cell? ⟨ba, i, none⟩ = (#[.int .i64 W, .int .i64 H, .slice a n c] : Array Value)[i]?)) ∧ (Blk w' bb #[.int .i64 W, .int .i64 H, .slice a' n' c'] 24 ∧ (∀ i : Nat, w'.cell? ⟨bb, i, none⟩ = (#[.int .i64 W, .int .i64 H, .slice a' n' c'] : Array Value)[i]?)) ∧ Below w.heap.size w w')
    (((first | (apply hold4; (focus assumption); intro p0 p1 p2 p3 pB) | skip); refine ⟨Blk.full ?_, Blk.full ?_, Blk.full ?_, Blk.full ?_, ?_⟩; all_goals (first | ((repeat' (first | (with_reducible assumption) | ((with_reducible refine Blk.new ?_); first | rfl | (simp; done)) | (with_reducible refine Blk.later (by assumption) ?_) | (with_reducible refine Blk.alloc ?_) | (with_reducible refine Blk.drewN ?_) | (with_reducible refine Blk.drew ?_) | (with_reducible refine Blk.other ?_ (by first | omega | (simp; done) | (simp; omega))))); done) | ((repeat' (first | (with_reducible exact Below.refl _ _) | (with_reducible assumption) | (with_reducible refine belowThru ?_ (by assumption)) | (with_reducible refine belowAlloc ?_) | (with_reducible refine Below.setCell ?_ (by first | omega | (simp; done) | (simp; omega)) _) | (with_reducible refine Below.drew ?_) | (with_reducible refine below_drewN ?_ _))); done))))
    (first
    | (go_at_call 57; (with_reducible refine (HA.out _ (HR.out.later (by (first | (apply hold4; (focus assumption); intro p0 p1 p2 p3 pB) | skip); (repeat' (first | (with_reducible exact Below.refl _ _) | (with_reducible assumption) | (with_reducible refine belowThru ?_ (by assumption)) | (with_reducible refine belowAlloc ?_) | (with_reducible refine Below.setCell ?_ (by first | omega | (simp; done) | (simp; omega)) _) | (with_reducible refine Below.drew ?_) | (with_reducible refine below_drewN ?_ _)))))).mono ?_); rintro e w1 ⟨rfl, hb⟩)
    | (go_at_call 57; (with_reducible refine (HB.out _ (HS.out.later (by (first | (apply hold4; (focus assumption); intro p0 p1 p2 p3 pB) | skip); (repeat' (first | (with_reducible exact Below.refl _ _) | (with_reducible assumption) | (with_reducible refine belowThru ?_ (by assumption)) | (with_reducible refine belowAlloc ?_) | (with_reducible refine Below.setCell ?_ (by first | omega | (simp; done) | (simp; omega)) _) | (with_reducible refine Below.drew ?_) | (with_reducible refine below_drewN ?_ _)))))).mono ?_); rintro e w1 ⟨rfl, hb⟩)
    | (go_at_fn F; (with_reducible refine (HF.out _).mono ?_); rintro e w1 ⟨rfl, rfl⟩))
  all_goals
    apply hold4; (focus assumption); intro p0 p1 p2 p3 pB
    go_wp2_with fail
    go_ret
    exact ⟨rfl, pB⟩
end Go.Proofs.Ytghmjdmiaajbnaa
/-
  Layer 2: images of point operations and of operations of two images, by the code.
-/
namespace Go.Proofs.Ytghmjdmiaajbnaa
open Go.RowKit
set_option linter.unusedVariables false
set_option linter.unusedSimpArgs false

theorem pix_self {W H : Int} {zs : List Int} (hI : okI W H zs) {k : Nat} (hk : k < zs.length) : pixAt W zs ((k : Int) % W) ((k : Int) / W) = zs[k]?.getD 0 := by
  unfold pixAt
  have e : (k : Int) / W * W + (k : Int) % W = (k : Int) := by have := Int.mul_ediv_add_emod (k : Int) W; rw [Int.mul_comm]; exact this
  rw [e, Int.toNat_natCast]

set_option maxRecDepth 100000 in
set_option maxHeartbeats 4000000 in
theorem point_ok (W H pM pA pD pL pH : Int) (a : Option Addr) (n c : Nat) (zs : List Int) (hI : okI W H zs) (hP : okP pM pA pD pL pH) (hn : n ≤ maxLen) (w : World) (hR : Row w a n (iv zs)) :
    Calls Try.prog 15 #[.agg #[.int .i64 W, .int .i64 H, .slice a n c], .agg #[.int .i64 pM, .int .i64 pA, .int .i64 pD, .int .i64 pL, .int .i64 pH]] w (RetI W H (made n fun k => ptV pM pA pD pL pH (zs[k]?.getD 0)) 0 w) := by
  have HK := Lib.hid (icheck_ok hI a n c hn)
  have HR := Lib.hid hR
  have hlen : zs.length = n := by have := hR.1; rwa [iv_length] at this
  have hN : W * H = (n : Int) := by rw [← hlen]; exact hI.2.1.symm
  have hW := hI.1.1
  have hH := hI.1.2
  have hm := okS_mul hW hH
  have dP : decide (okP pM pA pD pL pH) = true := decide_eq_true hP
  have HP : Hid (∀ k, k < n → inP W H ((k : Int) % W) ((k : Int) / W)) := fun k hk => by
    have := place_in hW hH hN hk
    unfold inP; omega
  have hme : ((List.range n).map fun (k : Nat) => inR (ptV pM pA pD pL pH (pixAt W zs ((k : Int) % W) ((k : Int) / W))) (-2147483648) 2147483648) = made n fun k => ptV pM pA pD pL pH (zs[k]?.getD 0) :=
    List.map_congr_left (fun k hk => by rw [inR_ok (ptV_ok hP _), pix_self hI (by rw [hlen]; exact List.mem_range.1 hk)])
  have HM := Lib.hid hme
  have HN := Lib.hid hN
  clear hR hn hlen hme hN
  go_enter Try.func15, Try.ntmps15
  go_upto_region 6 with (first
    | (go_at_call 51; (with_reducible refine (HK.out _ (HR.out.later (by (repeat' (first | (with_reducible exact Below.refl _ _) | (with_reducible assumption) | (with_reducible refine belowThru ?_ (by assumption)) | (with_reducible refine belowAlloc ?_) | (with_reducible refine Below.setCell ?_ (by first | omega | (simp; done) | (simp; omega)) _) | (with_reducible refine Below.drew ?_) | (with_reducible refine below_drewN ?_ _)))))).mono ?_); rintro e w1 ⟨rfl, hb⟩; (first | ((with_reducible have k0 := Blk.later hb (Blk.alloc (Blk.alloc (Blk.new rfl)))); (with_reducible have k1 := Blk.later hb (Blk.alloc (Blk.new rfl))); (with_reducible have k2 := Blk.later hb (Blk.new rfl)); simp only [World.size_alloc] at k1 k2; obtain ⟨a0, b0⟩ := k0.read; have zl := k0.lt; obtain ⟨a1, b1⟩ := k1.read; have zl := k1.lt; obtain ⟨a2, b2⟩ := k2.read; have zl := k2.lt) | ((try (have zk := k0.lt; (first | ((with_reducible refine Blk.keepG hb k0 (fun h => ?_) ?_); (focus ((repeat' (first | (with_reducible assumption) | ((with_reducible refine Blk.new ?_); first | rfl | (simp; done)) | (with_reducible refine Blk.later (by assumption) ?_) | (with_reducible refine Blk.alloc ?_) | (with_reducible refine Blk.drewN ?_) | (with_reducible refine Blk.drew ?_) | (with_reducible refine Blk.other ?_ (by first | omega | (simp; done) | (simp; omega))))); done)); clear k0; intro k0) | (with_reducible replace k0 := Blk.later hb (Blk.set (Blk.set k0))) | (with_reducible replace k0 := Blk.later hb (Blk.set k0))); clear a0 b0; obtain ⟨a0, b0⟩ := k0.read; have zl := k0.lt)); (try (have zk := k1.lt; (first | ((with_reducible refine Blk.keepG hb k1 (fun h => ?_) ?_); (focus ((repeat' (first | (with_reducible assumption) | ((with_reducible refine Blk.new ?_); first | rfl | (simp; done)) | (with_reducible refine Blk.later (by assumption) ?_) | (with_reducible refine Blk.alloc ?_) | (with_reducible refine Blk.drewN ?_) | (with_reducible refine Blk.drew ?_) | (with_reducible refine Blk.other ?_ (by first | omega | (simp; done) | (simp; omega))))); done)); clear k1; intro k1) | (with_reducible replace k1 := Blk.later hb (Blk.set (Blk.set k1))) | (with_reducible replace k1 := Blk.later hb (Blk.set k1))); clear a1 b1; obtain ⟨a1, b1⟩ := k1.read; have zl := k1.lt)); (try (have zk := k2.lt; (first | ((with_reducible refine Blk.keepG hb k2 (fun h => ?_) ?_); (focus ((repeat' (first | (with_reducible assumption) | ((with_reducible refine Blk.new ?_); first | rfl | (simp; done)) | (with_reducible refine Blk.later (by assumption) ?_) | (with_reducible refine Blk.alloc ?_) | (with_reducible refine Blk.drewN ?_) | (with_reducible refine Blk.drew ?_) | (with_reducible refine Blk.other ?_ (by first | omega | (simp; done) | (simp; omega))))); done)); clear k2; intro k2) | (with_reducible replace k2 := Blk.later hb (Blk.set (Blk.set k2))) | (with_reducible replace k2 := Blk.later hb (Blk.set k2))); clear a2 b2; obtain ⟨a2, b2⟩ := k2.read; have zl := k2.lt)))))
    | (go_at_call 52; (with_reducible refine (isPoint_any _ _ _ _ _ _).mono ?_); rintro e w1 ⟨rfl, hb⟩; (try (have zk := k0.lt; (first | ((with_reducible refine Blk.keepG hb k0 (fun h => ?_) ?_); (focus ((repeat' (first | (with_reducible assumption) | ((with_reducible refine Blk.new ?_); first | rfl | (simp; done)) | (with_reducible refine Blk.later (by assumption) ?_) | (with_reducible refine Blk.alloc ?_) | (with_reducible refine Blk.drewN ?_) | (with_reducible refine Blk.drew ?_) | (with_reducible refine Blk.other ?_ (by first | omega | (simp; done) | (simp; omega))))); done)); clear k0; intro k0) | (with_reducible replace k0 := Blk.later hb (Blk.set (Blk.set k0))) | (with_reducible replace k0 := Blk.later hb (Blk.set k0))); clear a0 b0; obtain ⟨a0, b0⟩ := k0.read; have zl := k0.lt)); (try (have zk := k1.lt; (first | ((with_reducible refine Blk.keepG hb k1 (fun h => ?_) ?_); (focus ((repeat' (first | (with_reducible assumption) | ((with_reducible refine Blk.new ?_); first | rfl | (simp; done)) | (with_reducible refine Blk.later (by assumption) ?_) | (with_reducible refine Blk.alloc ?_) | (with_reducible refine Blk.drewN ?_) | (with_reducible refine Blk.drew ?_) | (with_reducible refine Blk.other ?_ (by first | omega | (simp; done) | (simp; omega))))); done)); clear k1; intro k1) | (with_reducible replace k1 := Blk.later hb (Blk.set (Blk.set k1))) | (with_reducible replace k1 := Blk.later hb (Blk.set k1))); clear a1 b1; obtain ⟨a1, b1⟩ := k1.read; have zl := k1.lt)); (try (have zk := k2.lt; (first | ((with_reducible refine Blk.keepG hb k2 (fun h => ?_) ?_); (focus ((repeat' (first | (with_reducible assumption) | ((with_reducible refine Blk.new ?_); first | rfl | (simp; done)) | (with_reducible refine Blk.later (by assumption) ?_) | (with_reducible refine Blk.alloc ?_) | (with_reducible refine Blk.drewN ?_) | (with_reducible refine Blk.drew ?_) | (with_reducible refine Blk.other ?_ (by first | omega | (simp; done) | (simp; omega))))); done)); clear k2; intro k2) | (with_reducible replace k2 := Blk.later hb (Blk.set (Blk.set k2))) | (with_reducible replace k2 := Blk.later hb (Blk.set k2))); clear a2 b2; obtain ⟨a2, b2⟩ := k2.read; have zl := k2.lt))))
  have HV := Lib.hid (fun (k : Nat) (hk : k < n) W1 (hW1 : Below _ _ W1) => point1_any W H pM pA pD pL pH ((k : Int) % W) ((k : Int) / W) a n c zs hI hP (HP.out k hk) (w.heap.size + 1) w.heap.size W1 (HR.out.later (by (repeat' (first | (with_reducible exact Below.refl _ _) | (with_reducible assumption) | (with_reducible refine belowThru ?_ (by assumption)) | (with_reducible refine belowAlloc ?_) | (with_reducible refine Below.setCell ?_ (by first | omega | (simp; done) | (simp; omega)) _) | (with_reducible refine Below.drew ?_) | (with_reducible refine below_drewN ?_ _))))) (Blk.later hW1 k1) (Blk.later hW1 k0))
  have HB := Lib.hid (build_any W H n 54 #[.pointer (some ⟨w.heap.size + 1, 0, none⟩), .pointer (some ⟨w.heap.size, 0, none⟩)] (fun k => ptV pM pA pD pL pH (pixAt W zs ((k : Int) % W) ((k : Int) / W))) HN.out hW.1 hW.2 hH.1 hH.2 (by have := HN.out; omega) (enters_of Try.func54 (by kernel_rfl) rfl) _ HV)
  rw [HM.out] at HB
  clear HV
  go_wp2_with (go_at_call 53; (with_reducible refine (HB.out).mono ?_); rintro e w2 ⟨B, rfl, hB0, kB, hb⟩; (try (have zk := k0.lt; (first | ((with_reducible refine Blk.keepG hb k0 (fun h => ?_) ?_); (focus ((repeat' (first | (with_reducible assumption) | ((with_reducible refine Blk.new ?_); first | rfl | (simp; done)) | (with_reducible refine Blk.later (by assumption) ?_) | (with_reducible refine Blk.alloc ?_) | (with_reducible refine Blk.drewN ?_) | (with_reducible refine Blk.drew ?_) | (with_reducible refine Blk.other ?_ (by first | omega | (simp; done) | (simp; omega))))); done)); clear k0; intro k0) | (with_reducible replace k0 := Blk.later hb (Blk.set (Blk.set k0))) | (with_reducible replace k0 := Blk.later hb (Blk.set k0))); clear a0 b0; obtain ⟨a0, b0⟩ := k0.read; have zl := k0.lt)); (try (have zk := k1.lt; (first | ((with_reducible refine Blk.keepG hb k1 (fun h => ?_) ?_); (focus ((repeat' (first | (with_reducible assumption) | ((with_reducible refine Blk.new ?_); first | rfl | (simp; done)) | (with_reducible refine Blk.later (by assumption) ?_) | (with_reducible refine Blk.alloc ?_) | (with_reducible refine Blk.drewN ?_) | (with_reducible refine Blk.drew ?_) | (with_reducible refine Blk.other ?_ (by first | omega | (simp; done) | (simp; omega))))); done)); clear k1; intro k1) | (with_reducible replace k1 := Blk.later hb (Blk.set (Blk.set k1))) | (with_reducible replace k1 := Blk.later hb (Blk.set k1))); clear a1 b1; obtain ⟨a1, b1⟩ := k1.read; have zl := k1.lt)); (try (have zk := k2.lt; (first | ((with_reducible refine Blk.keepG hb k2 (fun h => ?_) ?_); (focus ((repeat' (first | (with_reducible assumption) | ((with_reducible refine Blk.new ?_); first | rfl | (simp; done)) | (with_reducible refine Blk.later (by assumption) ?_) | (with_reducible refine Blk.alloc ?_) | (with_reducible refine Blk.drewN ?_) | (with_reducible refine Blk.drew ?_) | (with_reducible refine Blk.other ?_ (by first | omega | (simp; done) | (simp; omega))))); done)); clear k2; intro k2) | (with_reducible replace k2 := Blk.later hb (Blk.set (Blk.set k2))) | (with_reducible replace k2 := Blk.later hb (Blk.set k2))); clear a2 b2; obtain ⟨a2, b2⟩ := k2.read; have zl := k2.lt)))
  exact bodyPost_ret (v := .tuple #[.agg #[.int .i64 W, .int .i64 H, .slice (some ⟨B, 0, none⟩) n n], .int .i64 0]) (by simp only [results, Try.results15]; go_simp) rfl (RetI.made (made_length _ _) (by omega) (by (repeat' (first | (with_reducible assumption) | ((with_reducible refine Blk.new ?_); first | rfl | (simp; done)) | (with_reducible refine Blk.later (by assumption) ?_) | (with_reducible refine Blk.alloc ?_) | (with_reducible refine Blk.drewN ?_) | (with_reducible refine Blk.drew ?_) | (with_reducible refine Blk.other ?_ (by first | omega | (simp; done) | (simp; omega)))))) (by (repeat' (first | (with_reducible exact Below.refl _ _) | (with_reducible assumption) | (with_reducible refine belowThru ?_ (by assumption)) | (with_reducible refine belowAlloc ?_) | (with_reducible refine Below.setCell ?_ (by first | omega | (simp; done) | (simp; omega)) _) | (with_reducible refine Below.drew ?_) | (with_reducible refine below_drewN ?_ _)))))
/-! ### Two images -/
/-- What an operation makes of two images of one size. -/
def zipL (how : Int) (n : Nat) (za zb : List Int) : List Int := made n fun k => inR (zipRaw how (za[k]?.getD 0) (zb[k]?.getD 0)) (-2147483648) 2147483648
set_option maxRecDepth 100000 in
set_option maxHeartbeats 4000000 in
theorem zip_walk (W H how : Int) (F : FuncId) (a a' : Option Addr) (n c c' : Nat) (za zb : List Int) (hI : okI W H za) (hJ : okI W H zb) (h1 : ¬ how < 1) (h2 : ¬ 6 < how) (hn : n ≤ maxLen) (w : World) (hR : Row w a n (iv za)) (hS : Row w a' n (iv zb))
    (hidx : ∀ w, (Instr.index 89 opers (.int .u8 how)).run Try.prog w = .ok (.func (.func F) #[] #[]) w)
    (ef : ∀ args w, (callFunc F args).run Try.prog w = .ok (.enter F args) w)
    (HF : Hid (∀ x y, okV x → okV y → ∀ w, Calls Try.prog F #[.int .i64 x, .int .i64 y] w fun e w' => e = .returned (.int .i64 (zipRaw how x y)) ∧ w = w')) :
    Calls Try.prog 17 #[.agg #[.int .i64 W, .int .i64 H, .slice a n c], .agg #[.int .i64 W, .int .i64 H, .slice a' n c'], .int .u8 how] w (RetI W H (zipL how n za zb) 0 w) := by
  have HK := Lib.hid (icheck_ok hI a n c hn)
  have HL := Lib.hid (icheck_ok hJ a' n c' hn)
  have HR := Lib.hid hR
  have HS := Lib.hid hS
  have hlen : za.length = n := by have := hR.1; rwa [iv_length] at this
  have hlen' : zb.length = n := by have := hS.1; rwa [iv_length] at this
  have hN : W * H = (n : Int) := by rw [← hlen]; exact hI.2.1.symm
  have hW := hI.1.1
  have hH := hI.1.2
  have hm := okS_mul hW hH
  have HP : Hid (∀ k, k < n → inP W H ((k : Int) % W) ((k : Int) / W)) := fun k hk => by
    have := place_in hW hH hN hk
    unfold inP; omega
  have hme : ((List.range n).map fun (k : Nat) => inR (zipRaw how (pixAt W za ((k : Int) % W) ((k : Int) / W)) (pixAt W zb ((k : Int) % W) ((k : Int) / W))) (-2147483648) 2147483648) = zipL how n za zb :=
    List.map_congr_left (fun k hk => by rw [pix_self hI (by rw [hlen]; exact List.mem_range.1 hk), pix_self hJ (by rw [hlen']; exact List.mem_range.1 hk)])
  have HM := Lib.hid hme
  have HN := Lib.hid hN
  clear hR hS hn hlen hlen' hme hN
  go_enter Try.func17, Try.ntmps17
  go_upto_region 12 with (first
    | (go_at_call 51; (with_reducible refine (HK.out _ (HR.out.later (by (repeat' (first | (with_reducible exact Below.refl _ _) | (with_reducible assumption) | (with_reducible refine belowThru ?_ (by assumption)) | (with_reducible refine belowAlloc ?_) | (with_reducible refine Below.setCell ?_ (by first | omega | (simp; done) | (simp; omega)) _) | (with_reducible refine Below.drew ?_) | (with_reducible refine below_drewN ?_ _)))))).mono ?_); rintro e w1 ⟨rfl, hb⟩; (first | ((with_reducible have k0 := Blk.later hb (Blk.alloc (Blk.alloc (Blk.new rfl)))); (with_reducible have k1 := Blk.later hb (Blk.alloc (Blk.new rfl))); (with_reducible have k2 := Blk.later hb (Blk.new rfl)); simp only [World.size_alloc] at k1 k2; obtain ⟨a0, b0⟩ := k0.read; have zl := k0.lt; obtain ⟨a1, b1⟩ := k1.read; have zl := k1.lt; obtain ⟨a2, b2⟩ := k2.read; have zl := k2.lt) | ((try (have zk := k0.lt; (first | ((with_reducible refine Blk.keepG hb k0 (fun h => ?_) ?_); (focus ((repeat' (first | (with_reducible assumption) | ((with_reducible refine Blk.new ?_); first | rfl | (simp; done)) | (with_reducible refine Blk.later (by assumption) ?_) | (with_reducible refine Blk.alloc ?_) | (with_reducible refine Blk.drewN ?_) | (with_reducible refine Blk.drew ?_) | (with_reducible refine Blk.other ?_ (by first | omega | (simp; done) | (simp; omega))))); done)); clear k0; intro k0) | (with_reducible replace k0 := Blk.later hb (Blk.set (Blk.set k0))) | (with_reducible replace k0 := Blk.later hb (Blk.set k0))); clear a0 b0; obtain ⟨a0, b0⟩ := k0.read; have zl := k0.lt)); (try (have zk := k1.lt; (first | ((with_reducible refine Blk.keepG hb k1 (fun h => ?_) ?_); (focus ((repeat' (first | (with_reducible assumption) | ((with_reducible refine Blk.new ?_); first | rfl | (simp; done)) | (with_reducible refine Blk.later (by assumption) ?_) | (with_reducible refine Blk.alloc ?_) | (with_reducible refine Blk.drewN ?_) | (with_reducible refine Blk.drew ?_) | (with_reducible refine Blk.other ?_ (by first | omega | (simp; done) | (simp; omega))))); done)); clear k1; intro k1) | (with_reducible replace k1 := Blk.later hb (Blk.set (Blk.set k1))) | (with_reducible replace k1 := Blk.later hb (Blk.set k1))); clear a1 b1; obtain ⟨a1, b1⟩ := k1.read; have zl := k1.lt)); (try (have zk := k2.lt; (first | ((with_reducible refine Blk.keepG hb k2 (fun h => ?_) ?_); (focus ((repeat' (first | (with_reducible assumption) | ((with_reducible refine Blk.new ?_); first | rfl | (simp; done)) | (with_reducible refine Blk.later (by assumption) ?_) | (with_reducible refine Blk.alloc ?_) | (with_reducible refine Blk.drewN ?_) | (with_reducible refine Blk.drew ?_) | (with_reducible refine Blk.other ?_ (by first | omega | (simp; done) | (simp; omega))))); done)); clear k2; intro k2) | (with_reducible replace k2 := Blk.later hb (Blk.set (Blk.set k2))) | (with_reducible replace k2 := Blk.later hb (Blk.set k2))); clear a2 b2; obtain ⟨a2, b2⟩ := k2.read; have zl := k2.lt)); (try (have zk := k3.lt; (first | ((with_reducible refine Blk.keepG hb k3 (fun h => ?_) ?_); (focus ((repeat' (first | (with_reducible assumption) | ((with_reducible refine Blk.new ?_); first | rfl | (simp; done)) | (with_reducible refine Blk.later (by assumption) ?_) | (with_reducible refine Blk.alloc ?_) | (with_reducible refine Blk.drewN ?_) | (with_reducible refine Blk.drew ?_) | (with_reducible refine Blk.other ?_ (by first | omega | (simp; done) | (simp; omega))))); done)); clear k3; intro k3) | (with_reducible replace k3 := Blk.later hb (Blk.set (Blk.set k3))) | (with_reducible replace k3 := Blk.later hb (Blk.set k3))); clear a3 b3; obtain ⟨a3, b3⟩ := k3.read; have zl := k3.lt)))); clear HK)
    | (go_at_call 51; (with_reducible refine (HL.out _ (HS.out.later (by (repeat' (first | (with_reducible exact Below.refl _ _) | (with_reducible assumption) | (with_reducible refine belowThru ?_ (by assumption)) | (with_reducible refine belowAlloc ?_) | (with_reducible refine Below.setCell ?_ (by first | omega | (simp; done) | (simp; omega)) _) | (with_reducible refine Below.drew ?_) | (with_reducible refine below_drewN ?_ _)))))).mono ?_); rintro e w1 ⟨rfl, hb⟩; (try (have zk := k0.lt; (first | ((with_reducible refine Blk.keepG hb k0 (fun h => ?_) ?_); (focus ((repeat' (first | (with_reducible assumption) | ((with_reducible refine Blk.new ?_); first | rfl | (simp; done)) | (with_reducible refine Blk.later (by assumption) ?_) | (with_reducible refine Blk.alloc ?_) | (with_reducible refine Blk.drewN ?_) | (with_reducible refine Blk.drew ?_) | (with_reducible refine Blk.other ?_ (by first | omega | (simp; done) | (simp; omega))))); done)); clear k0; intro k0) | (with_reducible replace k0 := Blk.later hb (Blk.set (Blk.set k0))) | (with_reducible replace k0 := Blk.later hb (Blk.set k0))); clear a0 b0; obtain ⟨a0, b0⟩ := k0.read; have zl := k0.lt)); (try (have zk := k1.lt; (first | ((with_reducible refine Blk.keepG hb k1 (fun h => ?_) ?_); (focus ((repeat' (first | (with_reducible assumption) | ((with_reducible refine Blk.new ?_); first | rfl | (simp; done)) | (with_reducible refine Blk.later (by assumption) ?_) | (with_reducible refine Blk.alloc ?_) | (with_reducible refine Blk.drewN ?_) | (with_reducible refine Blk.drew ?_) | (with_reducible refine Blk.other ?_ (by first | omega | (simp; done) | (simp; omega))))); done)); clear k1; intro k1) | (with_reducible replace k1 := Blk.later hb (Blk.set (Blk.set k1))) | (with_reducible replace k1 := Blk.later hb (Blk.set k1))); clear a1 b1; obtain ⟨a1, b1⟩ := k1.read; have zl := k1.lt)); (try (have zk := k2.lt; (first | ((with_reducible refine Blk.keepG hb k2 (fun h => ?_) ?_); (focus ((repeat' (first | (with_reducible assumption) | ((with_reducible refine Blk.new ?_); first | rfl | (simp; done)) | (with_reducible refine Blk.later (by assumption) ?_) | (with_reducible refine Blk.alloc ?_) | (with_reducible refine Blk.drewN ?_) | (with_reducible refine Blk.drew ?_) | (with_reducible refine Blk.other ?_ (by first | omega | (simp; done) | (simp; omega))))); done)); clear k2; intro k2) | (with_reducible replace k2 := Blk.later hb (Blk.set (Blk.set k2))) | (with_reducible replace k2 := Blk.later hb (Blk.set k2))); clear a2 b2; obtain ⟨a2, b2⟩ := k2.read; have zl := k2.lt)); (try (have zk := k3.lt; (first | ((with_reducible refine Blk.keepG hb k3 (fun h => ?_) ?_); (focus ((repeat' (first | (with_reducible assumption) | ((with_reducible refine Blk.new ?_); first | rfl | (simp; done)) | (with_reducible refine Blk.later (by assumption) ?_) | (with_reducible refine Blk.alloc ?_) | (with_reducible refine Blk.drewN ?_) | (with_reducible refine Blk.drew ?_) | (with_reducible refine Blk.other ?_ (by first | omega | (simp; done) | (simp; omega))))); done)); clear k3; intro k3) | (with_reducible replace k3 := Blk.later hb (Blk.set (Blk.set k3))) | (with_reducible replace k3 := Blk.later hb (Blk.set k3))); clear a3 b3; obtain ⟨a3, b3⟩ := k3.read; have zl := k3.lt)); clear HL)
    | (go_at_call 58; (with_reducible refine (operations_any _).mono ?_); rintro e w1 ⟨rfl, hb⟩; (try (have zk := k0.lt; (first | ((with_reducible refine Blk.keepG hb k0 (fun h => ?_) ?_); (focus ((repeat' (first | (with_reducible assumption) | ((with_reducible refine Blk.new ?_); first | rfl | (simp; done)) | (with_reducible refine Blk.later (by assumption) ?_) | (with_reducible refine Blk.alloc ?_) | (with_reducible refine Blk.drewN ?_) | (with_reducible refine Blk.drew ?_) | (with_reducible refine Blk.other ?_ (by first | omega | (simp; done) | (simp; omega))))); done)); clear k0; intro k0) | (with_reducible replace k0 := Blk.later hb (Blk.set (Blk.set k0))) | (with_reducible replace k0 := Blk.later hb (Blk.set k0))); clear a0 b0; obtain ⟨a0, b0⟩ := k0.read; have zl := k0.lt)); (try (have zk := k1.lt; (first | ((with_reducible refine Blk.keepG hb k1 (fun h => ?_) ?_); (focus ((repeat' (first | (with_reducible assumption) | ((with_reducible refine Blk.new ?_); first | rfl | (simp; done)) | (with_reducible refine Blk.later (by assumption) ?_) | (with_reducible refine Blk.alloc ?_) | (with_reducible refine Blk.drewN ?_) | (with_reducible refine Blk.drew ?_) | (with_reducible refine Blk.other ?_ (by first | omega | (simp; done) | (simp; omega))))); done)); clear k1; intro k1) | (with_reducible replace k1 := Blk.later hb (Blk.set (Blk.set k1))) | (with_reducible replace k1 := Blk.later hb (Blk.set k1))); clear a1 b1; obtain ⟨a1, b1⟩ := k1.read; have zl := k1.lt)); (try (have zk := k2.lt; (first | ((with_reducible refine Blk.keepG hb k2 (fun h => ?_) ?_); (focus ((repeat' (first | (with_reducible assumption) | ((with_reducible refine Blk.new ?_); first | rfl | (simp; done)) | (with_reducible refine Blk.later (by assumption) ?_) | (with_reducible refine Blk.alloc ?_) | (with_reducible refine Blk.drewN ?_) | (with_reducible refine Blk.drew ?_) | (with_reducible refine Blk.other ?_ (by first | omega | (simp; done) | (simp; omega))))); done)); clear k2; intro k2) | (with_reducible replace k2 := Blk.later hb (Blk.set (Blk.set k2))) | (with_reducible replace k2 := Blk.later hb (Blk.set k2))); clear a2 b2; obtain ⟨a2, b2⟩ := k2.read; have zl := k2.lt)); (try (have zk := k3.lt; (first | ((with_reducible refine Blk.keepG hb k3 (fun h => ?_) ?_); (focus ((repeat' (first | (with_reducible assumption) | ((with_reducible refine Blk.new ?_); first | rfl | (simp; done)) | (with_reducible refine Blk.later (by assumption) ?_) | (with_reducible refine Blk.alloc ?_) | (with_reducible refine Blk.drewN ?_) | (with_reducible refine Blk.drew ?_) | (with_reducible refine Blk.other ?_ (by first | omega | (simp; done) | (simp; omega))))); done)); clear k3; intro k3) | (with_reducible replace k3 := Blk.later hb (Blk.set (Blk.set k3))) | (with_reducible replace k3 := Blk.later hb (Blk.set k3))); clear a3 b3; obtain ⟨a3, b3⟩ := k3.read; have zl := k3.lt))))
  obtain ⟨W0, hW0⟩ : ∃ W0, w1.alloc (.cells #[.func (.func F) #[] #[]] 85) = W0 := ⟨_, rfl⟩
  have k3 : Blk W0 w1.heap.size #[.func (.func F) #[] #[]] 85 := by rw [← hW0]; exact Blk.new rfl
  have k0 : Blk W0 w.heap.size #[.int .i64 W, .int .i64 H, .slice a n c] 24 := by rw [← hW0]; exact k0.alloc
  have k1 : Blk W0 (w.heap.size + 1) #[.int .i64 W, .int .i64 H, .slice a' n c'] 24 := by rw [← hW0]; exact k1.alloc
  have k2 : Blk W0 (w.heap.size + 1 + 1) #[.int .i64 0, .int .i64 0, .slice none 0 0] 24 := by rw [← hW0]; exact k2.alloc
  have hB : Below w.heap.size w W0 := by rw [← hW0]; (repeat' (first | (with_reducible exact Below.refl _ _) | (with_reducible assumption) | (with_reducible refine belowThru ?_ (by assumption)) | (with_reducible refine belowAlloc ?_) | (with_reducible refine Below.setCell ?_ (by first | omega | (simp; done) | (simp; omega)) _) | (with_reducible refine Below.drew ?_) | (with_reducible refine below_drewN ?_ _)))
  rw [hW0]
  clear hW0
  obtain ⟨a0, b0⟩ := k0.read; obtain ⟨a1, b1⟩ := k1.read; obtain ⟨a2, b2⟩ := k2.read; obtain ⟨a3, b3⟩ := k3.read
  have HV := Lib.hid (fun (k : Nat) (hk : k < n) W1 (hW1 : Below W0.heap.size W0 W1) => zip1_any W H ((k : Int) % W) ((k : Int) / W) _ F a a' n n c c' za zb hI hJ (HP.out k hk) w1.heap.size w.heap.size (w.heap.size + 1) W1 (HR.out.later (belowThru hB hW1)) (HS.out.later (belowThru hB hW1)) (Blk.later hW1 k3) (Blk.later hW1 k0) (Blk.later hW1 k1) ef (Lib.hid (HF.out _ _ (okI_at hI (HP.out k hk)) (okI_at hJ (HP.out k hk)))))
  have HB := Lib.hid (build_any W H n 59 #[.pointer (some ⟨w1.heap.size, 0, none⟩), .pointer (some ⟨w.heap.size, 0, none⟩), .pointer (some ⟨w.heap.size + 1, 0, none⟩)] (fun k => zipRaw how (pixAt W za ((k : Int) % W) ((k : Int) / W)) (pixAt W zb ((k : Int) % W) ((k : Int) / W))) HN.out hW.1 hW.2 hH.1 hH.2 (by have := HN.out; omega) (enters_of Try.func59 (by kernel_rfl) rfl) W0 HV)
  rw [HM.out] at HB
  clear HV
  have zz := k2.lt
  go_wp2_with (go_at_call 53; (with_reducible refine (HB.out).mono ?_); rintro e w2 ⟨B, rfl, hB0, kB, hb⟩; (try (have zk := k0.lt; (first | ((with_reducible refine Blk.keepG hb k0 (fun h => ?_) ?_); (focus ((repeat' (first | (with_reducible assumption) | ((with_reducible refine Blk.new ?_); first | rfl | (simp; done)) | (with_reducible refine Blk.later (by assumption) ?_) | (with_reducible refine Blk.alloc ?_) | (with_reducible refine Blk.drewN ?_) | (with_reducible refine Blk.drew ?_) | (with_reducible refine Blk.other ?_ (by first | omega | (simp; done) | (simp; omega))))); done)); clear k0; intro k0) | (with_reducible replace k0 := Blk.later hb (Blk.set (Blk.set k0))) | (with_reducible replace k0 := Blk.later hb (Blk.set k0))); clear a0 b0; obtain ⟨a0, b0⟩ := k0.read; have zl := k0.lt)); (try (have zk := k1.lt; (first | ((with_reducible refine Blk.keepG hb k1 (fun h => ?_) ?_); (focus ((repeat' (first | (with_reducible assumption) | ((with_reducible refine Blk.new ?_); first | rfl | (simp; done)) | (with_reducible refine Blk.later (by assumption) ?_) | (with_reducible refine Blk.alloc ?_) | (with_reducible refine Blk.drewN ?_) | (with_reducible refine Blk.drew ?_) | (with_reducible refine Blk.other ?_ (by first | omega | (simp; done) | (simp; omega))))); done)); clear k1; intro k1) | (with_reducible replace k1 := Blk.later hb (Blk.set (Blk.set k1))) | (with_reducible replace k1 := Blk.later hb (Blk.set k1))); clear a1 b1; obtain ⟨a1, b1⟩ := k1.read; have zl := k1.lt)); (try (have zk := k2.lt; (first | ((with_reducible refine Blk.keepG hb k2 (fun h => ?_) ?_); (focus ((repeat' (first | (with_reducible assumption) | ((with_reducible refine Blk.new ?_); first | rfl | (simp; done)) | (with_reducible refine Blk.later (by assumption) ?_) | (with_reducible refine Blk.alloc ?_) | (with_reducible refine Blk.drewN ?_) | (with_reducible refine Blk.drew ?_) | (with_reducible refine Blk.other ?_ (by first | omega | (simp; done) | (simp; omega))))); done)); clear k2; intro k2) | (with_reducible replace k2 := Blk.later hb (Blk.set (Blk.set k2))) | (with_reducible replace k2 := Blk.later hb (Blk.set k2))); clear a2 b2; obtain ⟨a2, b2⟩ := k2.read; have zl := k2.lt)); (try (have zk := k3.lt; (first | ((with_reducible refine Blk.keepG hb k3 (fun h => ?_) ?_); (focus ((repeat' (first | (with_reducible assumption) | ((with_reducible refine Blk.new ?_); first | rfl | (simp; done)) | (with_reducible refine Blk.later (by assumption) ?_) | (with_reducible refine Blk.alloc ?_) | (with_reducible refine Blk.drewN ?_) | (with_reducible refine Blk.drew ?_) | (with_reducible refine Blk.other ?_ (by first | omega | (simp; done) | (simp; omega))))); done)); clear k3; intro k3) | (with_reducible replace k3 := Blk.later hb (Blk.set (Blk.set k3))) | (with_reducible replace k3 := Blk.later hb (Blk.set k3))); clear a3 b3; obtain ⟨a3, b3⟩ := k3.read; have zl := k3.lt)))
  have zy := k3.lt
  exact bodyPost_ret (v := .tuple #[.agg #[.int .i64 W, .int .i64 H, .slice (some ⟨B, 0, none⟩) n n], .int .i64 0]) (by simp only [results, Try.results17]; go_simp) rfl (RetI.made (made_length _ _) (by have := hB.size; omega) (by (repeat' (first | (with_reducible assumption) | ((with_reducible refine Blk.new ?_); first | rfl | (simp; done)) | (with_reducible refine Blk.later (by assumption) ?_) | (with_reducible refine Blk.alloc ?_) | (with_reducible refine Blk.drewN ?_) | (with_reducible refine Blk.drew ?_) | (with_reducible refine Blk.other ?_ (by first | omega | (simp; done) | (simp; omega)))))) (by (repeat' (first | (with_reducible exact Below.refl _ _) | (with_reducible assumption) | (with_reducible refine belowThru ?_ (by assumption)) | (with_reducible refine belowAlloc ?_) | (with_reducible refine Below.setCell ?_ (by first | omega | (simp; done) | (simp; omega)) _) | (with_reducible refine Below.drew ?_) | (with_reducible refine below_drewN ?_ _)))))
end Go.Proofs.Ytghmjdmiaajbnaa
/-
  Layer 2: the document's own dilated and eroded images.
-/
namespace Go.Proofs.Ytghmjdmiaajbnaa
open Go.RowKit
set_option linter.unusedVariables false
set_option linter.unusedSimpArgs false

/-- What the first cells of a shape make of a pixel. -/
def exD (W H : Int) (zs : List Int) (SW SH : Int) (bs : List Bool) (x y : Int) : Nat → Int
  | 0 => -2147483648
  | k + 1 => if bs[k]?.getD false = true ∧ inP W H (x - ((k : Int) % SW - SW / 2)) (y - ((k : Int) / SW - SH / 2)) then (if (exD W H zs SW SH bs x y k) < pixAt W zs (x - ((k : Int) % SW - SW / 2)) (y - ((k : Int) / SW - SH / 2)) then pixAt W zs (x - ((k : Int) % SW - SW / 2)) (y - ((k : Int) / SW - SH / 2)) else (exD W H zs SW SH bs x y k)) else exD W H zs SW SH bs x y k

/-- What the first cells of a shape make of a pixel. -/
def exE (W H : Int) (zs : List Int) (SW SH : Int) (bs : List Bool) (x y : Int) : Nat → Int
  | 0 => 2147483648
  | k + 1 => if bs[k]?.getD false = true ∧ inP W H (x + ((k : Int) % SW - SW / 2)) (y + ((k : Int) / SW - SH / 2)) then (if pixAt W zs (x + ((k : Int) % SW - SW / 2)) (y + ((k : Int) / SW - SH / 2)) < (exE W H zs SW SH bs x y k) then pixAt W zs (x + ((k : Int) % SW - SW / 2)) (y + ((k : Int) / SW - SH / 2)) else (exE W H zs SW SH bs x y k)) else exE W H zs SW SH bs x y k

end Go.Proofs.Ytghmjdmiaajbnaa
