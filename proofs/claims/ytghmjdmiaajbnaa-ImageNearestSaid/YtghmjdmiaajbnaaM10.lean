/-
  The texts that the laws of this seat share, merged: part 10.
-/
import Derived.BigQuiet
import Derived.Deep.CutRange
import Derived.Deep.DeepCutAuto
import Derived.Deep.Draws
import Derived.Deep.OwnRows
import Derived.Deep.QuietTactic
import Derived.Deep.RegionHeld3
import Derived.Laws.AppendOwn
import Derived.Laws.EntriesVeiled
import Derived.Lib.Hide
import Derived.LoopIn
import Derived.LoopNIn
import Derived.Maps.AppendAt
import Derived.OneCell
import Derived.OwnWalkIn
import Derived.RangeFuncBound
import Derived.RangeFuncCalls
import Derived.RangeFuncLeaves
import Derived.RangeFuncNested
import Derived.Shelf.Abstract
import Derived.Shelf.AbstractIn
import Derived.Shelf.RegionOpen
import Derived.StillTailTactics
import Derived.TacticsInMore
import Derived.Test.YtghmjdmiaajbnaaProg
import Derived.WalkKit
import Derived.WalkSmall
import Derived.WalkSpells
import Derived.Test.YtghmjdmiaajbnaaM2
import Derived.Test.YtghmjdmiaajbnaaM3
import Derived.Test.YtghmjdmiaajbnaaM8
import Derived.Test.YtghmjdmiaajbnaaM9
/-
  Layer 2: point operations: which are valid, what they turn a value into.
-/
namespace Go.Proofs.Ytghmjdmiaajbnaa
open Go.RowKit
set_option linter.unusedVariables false
set_option linter.unusedSimpArgs false

/-- A point operation that is valid. -/
def okP (pM pA pD pL pH : Int) : Prop := (okFa pM ∧ okV pA) ∧ (1 ≤ pD ∧ pD ≤ 65536) ∧ okV pL ∧ okV pH ∧ pL ≤ pH
instance (pM pA pD pL pH : Int) : Decidable (okP pM pA pD pL pH) := inferInstanceAs (Decidable (_ ∧ _))
/-- What it turns a value into. -/
def ptV (pM pA pD pL pH v : Int) : Int := inR ((pM * v + pA) / pD) pL pH
theorem ptV_ok {pM pA pD pL pH : Int} (h : okP pM pA pD pL pH) (v : Int) : okV (ptV pM pA pD pL pH v) := by
  obtain ⟨-, -, ⟨l0, l1⟩, ⟨h0, h1⟩, hl⟩ := h
  unfold ptV inR okV; omega
theorem mul_fv {m v : Int} (hm : okFa m) (hv : okV v) : -140737488355328 ≤ m * v ∧ m * v ≤ 140737488355328 := by
  have h := Int.natAbs_mul m v
  have h1 : m.natAbs ≤ 65536 := by unfold okFa at hm; omega
  have h2 : v.natAbs ≤ 2147483648 := by unfold okV at hv; omega
  have h3 := Nat.mul_le_mul h1 h2
  omega
set_option maxRecDepth 100000 in
set_option maxHeartbeats 4000000 in
theorem isPoint_any (pM pA pD pL pH : Int) (w : World) :
    Calls Try.prog 52 #[.agg #[.int .i64 pM, .int .i64 pA, .int .i64 pD, .int .i64 pL, .int .i64 pH]] w fun e w' => e = .returned (.bool (decide (okP pM pA pD pL pH))) ∧ Below w.heap.size w w' := by
  have hc : (decide (okFa pM) = false ∧ decide (okP pM pA pD pL pH) = false) ∨
      (decide (okFa pM) = true ∧ decide (okV pA) = false ∧ decide (okP pM pA pD pL pH) = false) ∨
      (decide (okFa pM) = true ∧ decide (okV pA) = true ∧ pD < 1 ∧ decide (okP pM pA pD pL pH) = false) ∨
      (decide (okFa pM) = true ∧ decide (okV pA) = true ∧ 1 ≤ pD ∧ 65536 < pD ∧ decide (okP pM pA pD pL pH) = false) ∨
      (decide (okFa pM) = true ∧ decide (okV pA) = true ∧ 1 ≤ pD ∧ pD ≤ 65536 ∧ decide (okV pL) = false ∧ decide (okP pM pA pD pL pH) = false) ∨
      (decide (okFa pM) = true ∧ decide (okV pA) = true ∧ 1 ≤ pD ∧ pD ≤ 65536 ∧ decide (okV pL) = true ∧ decide (okV pH) = false ∧ decide (okP pM pA pD pL pH) = false) ∨
      (decide (okFa pM) = true ∧ decide (okV pA) = true ∧ 1 ≤ pD ∧ pD ≤ 65536 ∧ decide (okV pL) = true ∧ decide (okV pH) = true ∧ ¬ pL ≤ pH ∧ decide (okP pM pA pD pL pH) = false) ∨
      (decide (okFa pM) = true ∧ decide (okV pA) = true ∧ 1 ≤ pD ∧ pD ≤ 65536 ∧ decide (okV pL) = true ∧ decide (okV pH) = true ∧ pL ≤ pH ∧ decide (okP pM pA pD pL pH) = true) := by
    by_cases q0 : okFa pM
    · skip
      by_cases q1 : okV pA
      · skip
        by_cases q2 : 1 ≤ pD
        · skip
          by_cases q3 : pD ≤ 65536
          · skip
            by_cases q4 : okV pL
            · skip
              by_cases q5 : okV pH
              · skip
                by_cases q6 : pL ≤ pH
                · skip
                  exact .inr (.inr (.inr (.inr (.inr (.inr (.inr (⟨decide_eq_true q0, decide_eq_true q1, q2, q3, decide_eq_true q4, decide_eq_true q5, q6, decide_eq_true ⟨⟨q0, q1⟩, ⟨q2, q3⟩, q4, q5, q6⟩⟩)))))))
                · exact .inr (.inr (.inr (.inr (.inr (.inr (.inl ⟨decide_eq_true q0, decide_eq_true q1, q2, q3, decide_eq_true q4, decide_eq_true q5, q6, decide_eq_false (fun h => q6 h.2.2.2.2)⟩))))))
              · exact .inr (.inr (.inr (.inr (.inr (.inl ⟨decide_eq_true q0, decide_eq_true q1, q2, q3, decide_eq_true q4, decide_eq_false q5, decide_eq_false (fun h => q5 h.2.2.2.1)⟩)))))
            · exact .inr (.inr (.inr (.inr (.inl ⟨decide_eq_true q0, decide_eq_true q1, q2, q3, decide_eq_false q4, decide_eq_false (fun h => q4 h.2.2.1)⟩))))
          · exact .inr (.inr (.inr (.inl ⟨decide_eq_true q0, decide_eq_true q1, q2, (by omega), decide_eq_false (fun h => q3 h.2.1.2)⟩)))
        · exact .inr (.inr (.inl ⟨decide_eq_true q0, decide_eq_true q1, (by omega), decide_eq_false (fun h => q2 h.2.1.1)⟩))
      · exact .inr (.inl ⟨decide_eq_true q0, decide_eq_false q1, decide_eq_false (fun h => q1 h.1.2)⟩)
    · exact .inl ⟨decide_eq_false q0, decide_eq_false (fun h => q0 h.1.1)⟩
  rcases hc with ⟨d1, he⟩ | ⟨d1, d2, he⟩ | ⟨d1, d2, d3, he⟩ | ⟨d1, d2, d3, d4, he⟩ | ⟨d1, d2, d3, d4, d5, he⟩ | ⟨d1, d2, d3, d4, d5, d6, he⟩ | ⟨d1, d2, d3, d4, d5, d6, d7, he⟩ | ⟨d1, d2, d3, d4, d5, d6, d7, he⟩
  all_goals
    have HE := Lib.hid he
    clear he
    go_enter Try.func52, Try.ntmps52
    go_wp2_with (first
      | (go_at_call 95; (with_reducible refine (within_fa _ _).mono ?_); rintro e w1 ⟨rfl, rfl⟩)
      | (go_at_call 80; (with_reducible refine (isValue_any _ _).mono ?_); rintro e w1 ⟨rfl, rfl⟩))
    go_ret
    exact ⟨by rw [HE.out]; first | rfl | simp_all, by (repeat' (first | (with_reducible exact Below.refl _ _) | (with_reducible assumption) | (with_reducible refine belowThru ?_ (by assumption)) | (with_reducible refine belowAlloc ?_) | (with_reducible refine Below.setCell ?_ (by first | omega | (simp; done) | (simp; omega)) _) | (with_reducible refine Below.drew ?_) | (with_reducible refine below_drewN ?_ _)))⟩

set_option maxRecDepth 100000 in
set_option maxHeartbeats 4000000 in
theorem point1_any (W H pM pA pD pL pH x y : Int) (a : Option Addr) (n c : Nat) (zs : List Int) (hI : okI W H zs) (hP : okP pM pA pD pL pH) (hp : inP W H x y) (bp bm : Nat) (w : World)
    (hR : Row w a n (iv zs)) (kp : Blk w bp #[.int .i64 pM, .int .i64 pA, .int .i64 pD, .int .i64 pL, .int .i64 pH] 30) (km : Blk w bm #[.int .i64 W, .int .i64 H, .slice a n c] 24) :
    Calls Try.prog 54 #[.agg #[.int .i64 x, .int .i64 y], .pointer (some ⟨bp, 0, none⟩), .pointer (some ⟨bm, 0, none⟩)] w fun e w' => e = .returned (.int .i64 (ptV pM pA pD pL pH (pixAt W zs x y))) ∧ Below w.heap.size w w' := by
  have hv := okI_at hI hp
  have HA := Lib.hid (fun w hR => at_z W H x y a n c zs hI hp w hR)
  obtain ⟨v, hve⟩ : ∃ v, v = pixAt W zs x y := ⟨_, rfl⟩
  rw [← hve] at hv HA ⊢
  clear hve
  obtain ⟨⟨hM, hA1⟩, ⟨d0, d1⟩, -⟩ := hP
  have m1 := mul_fv hM hv
  obtain ⟨A0, A1⟩ := hA1
  have v1 : IntKind.i64.wrap (pM * v) = pM * v := IntWalk.i64_in _ (by omega)
  have v2 : IntKind.i64.wrap (pM * v + pA) = pM * v + pA := IntWalk.i64_in _ (by omega)
  have HQ := Lib.hid (quotient_any (pM * v + pA) pD d0 (by omega) (by omega) (by omega))
  have HR := Lib.hid hR
  have hmx : Try.prog.follows .mixedOrders = true := by kernel_rfl
  have z1 := kp.lt; have z2 := km.lt
  unfold ptV
  clear hR hI hp hM hv d0 d1 A0 A1 m1
  go_enter Try.func54, Try.ntmps54
  go_wp2
  have k0 : Blk (w.alloc (.cells #[.int .i64 x, .int .i64 y] 83)) w.heap.size #[.int .i64 x, .int .i64 y] 83 := Blk.new rfl
  have k1 := kp.alloc (o := .cells #[.int .i64 x, .int .i64 y] 83)
  have k2 := km.alloc (o := .cells #[.int .i64 x, .int .i64 y] 83)
  have hB : Below w.heap.size w (w.alloc (.cells #[.int .i64 x, .int .i64 y] 83)) := by (repeat' (first | (with_reducible exact Below.refl _ _) | (with_reducible assumption) | (with_reducible refine belowThru ?_ (by assumption)) | (with_reducible refine belowAlloc ?_) | (with_reducible refine Below.setCell ?_ (by first | omega | (simp; done) | (simp; omega)) _) | (with_reducible refine Below.drew ?_) | (with_reducible refine below_drewN ?_ _)))
  obtain ⟨W0, hW0⟩ : ∃ W0, w.alloc (.cells #[.int .i64 x, .int .i64 y] 83) = W0 := ⟨_, rfl⟩
  rw [hW0] at k0 k1 k2 hB ⊢
  clear hW0 kp km
  refine wp_region_held_drew (S := fun w' => (Blk w' w.heap.size #[.int .i64 x, .int .i64 y] 83 ∧ (∀ i : Nat, w'.cell? ⟨w.heap.size, i, none⟩ = (#[.int .i64 x, .int .i64 y] : Array Value)[i]?)) ∧ (Blk w' bp #[.int .i64 pM, .int .i64 pA, .int .i64 pD, .int .i64 pL, .int .i64 pH] 30 ∧ (∀ i : Nat, w'.cell? ⟨bp, i, none⟩ = (#[.int .i64 pM, .int .i64 pA, .int .i64 pD, .int .i64 pL, .int .i64 pH] : Array Value)[i]?)) ∧ (Blk w' bm #[.int .i64 W, .int .i64 H, .slice a n c] 24 ∧ (∀ i : Nat, w'.cell? ⟨bm, i, none⟩ = (#[.int .i64 W, .int .i64 H, .slice a n c] : Array Value)[i]?)) ∧ Below w.heap.size w w') hmx ⟨k0.drew.full, k1.drew.full, k2.drew.full, hB.drew⟩ (fun hHeld => ?_)
  refine wpAnyH_take (i := 0) (v := ?_) rfl (by kernel_rfl) (by kernel_rfl) (by kernel_rfl) (fun _ _ _ h => h) (Or.inl ⟨by rfl, ?hT0⟩) (by assumption) ?_
  case hT0 => ((intro w hSw; (try dsimp only at hSw); go_simp); try (with_reducible rfl))
  try simp only [Act.put, List.setIfInBounds_toArray, List.set_cons_zero, List.set_cons_succ]
  refine wpAnyH_take (i := 1) (v := ?_) rfl (by kernel_rfl) (by kernel_rfl) (by kernel_rfl) (fun _ _ _ h => h) (Or.inl ⟨by rfl, ?hT1⟩) (by assumption) ?_
  case hT1 => ((intro w hSw; (try dsimp only at hSw); go_simp); try (with_reducible rfl))
  try simp only [Act.put, List.setIfInBounds_toArray, List.set_cons_zero, List.set_cons_succ]
  refine wpAnyH_take (i := 2) (v := ?_) rfl (by kernel_rfl) (by kernel_rfl) (by kernel_rfl) (fun _ _ _ h => h) (Or.inl ⟨by rfl, ?hT2⟩) (by assumption) ?_
  case hT2 => ((intro w hSw; (try dsimp only at hSw); go_simp); try (with_reducible rfl))
  try simp only [Act.put, List.setIfInBounds_toArray, List.set_cons_zero, List.set_cons_succ]
  refine wpAnyH_take (i := 3) (v := ?_) rfl (by kernel_rfl) (by kernel_rfl) (by kernel_rfl) (fun _ _ _ h => h) (Or.inl ⟨by rfl, ?hT3⟩) (by assumption) ?_
  case hT3 => ((intro w hSw; (try dsimp only at hSw); go_simp); try (with_reducible rfl))
  try simp only [Act.put, List.setIfInBounds_toArray, List.set_cons_zero, List.set_cons_succ]
  refine wpAnyH_take (i := 6) (v := ?_) rfl (by kernel_rfl) (by kernel_rfl) (by kernel_rfl) (fun _ _ _ h => h) (Or.inl ⟨by rfl, ?hT4⟩) (by assumption) ?_
  case hT4 => ((intro w hSw; (try dsimp only at hSw); go_simp); try (with_reducible rfl))
  try simp only [Act.put, List.setIfInBounds_toArray, List.set_cons_zero, List.set_cons_succ]
  refine wpAnyH_take (i := 7) (v := ?_) rfl (by kernel_rfl) (by kernel_rfl) (by kernel_rfl) (fun _ _ _ h => h) (Or.inl ⟨by rfl, ?hT5⟩) (by assumption) ?_
  case hT5 => ((intro w hSw; (try dsimp only at hSw); go_simp); try (with_reducible rfl))
  try simp only [Act.put, List.setIfInBounds_toArray, List.set_cons_zero, List.set_cons_succ]
  refine wpAnyH_take (i := 9) (v := ?_) rfl (by kernel_rfl) (by kernel_rfl) (by kernel_rfl) (fun _ _ _ h => h) (Or.inl ⟨by rfl, ?hT6⟩) (by assumption) ?_
  case hT6 => ((intro w hSw; (try dsimp only at hSw); go_simp); try (with_reducible rfl))
  try simp only [Act.put, List.setIfInBounds_toArray, List.set_cons_zero, List.set_cons_succ]
  refine wpAnyH_take (i := 10) (v := ?_) rfl (by kernel_rfl) (by kernel_rfl) (by kernel_rfl) (fun _ _ _ h => h) (Or.inl ⟨by rfl, ?hT7⟩) (by assumption) ?_
  case hT7 => ((intro w hSw; (try dsimp only at hSw); go_simp); try (with_reducible rfl))
  try simp only [Act.put, List.setIfInBounds_toArray, List.set_cons_zero, List.set_cons_succ]
  refine wpAnyH_take (i := 12) (v := ?_) rfl (by kernel_rfl) (by kernel_rfl) (by kernel_rfl) (fun _ _ _ h => h) (Or.inl ⟨by rfl, ?hT8⟩) (by assumption) ?_
  case hT8 => ((intro w hSw; (try dsimp only at hSw); go_simp); try (with_reducible rfl))
  try simp only [Act.put, List.setIfInBounds_toArray, List.set_cons_zero, List.set_cons_succ]
  refine wpAnyH_take (i := 13) (v := ?_) rfl (by kernel_rfl) (by kernel_rfl) (by kernel_rfl) (fun _ _ _ h => h) (Or.inl ⟨by rfl, ?hT9⟩) (by assumption) ?_
  case hT9 => ((intro w hSw; (try dsimp only at hSw); go_simp); try (with_reducible rfl))
  try simp only [Act.put, List.setIfInBounds_toArray, List.set_cons_zero, List.set_cons_succ]
  refine wpAnyH_take (i := 14) (v := ?_) rfl (by kernel_rfl) (by kernel_rfl) (by kernel_rfl) (fun _ _ _ h => h) (Or.inl ⟨by rfl, ?hT10⟩) (by assumption) ?_
  case hT10 => ((intro w hSw; (try dsimp only at hSw); go_simp); try (with_reducible rfl))
  try simp only [Act.put, List.setIfInBounds_toArray, List.set_cons_zero, List.set_cons_succ]
  refine wpAnyH_take (i := 15) (v := ?_) rfl (by kernel_rfl) (by kernel_rfl) (by kernel_rfl) (fun _ _ _ h => h) (Or.inl ⟨by rfl, ?hT11⟩) (by assumption) ?_
  case hT11 => ((intro w hSw; (try dsimp only at hSw); go_simp); try (with_reducible rfl))
  try simp only [Act.put, List.setIfInBounds_toArray, List.set_cons_zero, List.set_cons_succ]
  refine wpAnyH_ready (rs := [4]) (by kernel_rfl) (by simp) ?_
  refine AllReadyH.cons rfl (fun K hK => ?_) AllReadyH.nil
  go_simp
  (go_at_call 57; (with_reducible refine (HA.out _ (HR.out.later hB.drew)).mono ?_); rintro e wA ⟨rfl, hb⟩)
  refine hK.out _ _ ?_ (fun hHeldN => ?_)
  · (try dsimp only); (((first | (apply hold3; (focus assumption); intro p0 p1 p2 pB) | skip); refine ⟨Blk.full ?_, Blk.full ?_, Blk.full ?_, ?_⟩; all_goals (first | ((repeat' (first | (with_reducible assumption) | ((with_reducible refine Blk.new ?_); first | rfl | (simp; done)) | (with_reducible refine Blk.later (by assumption) ?_) | (with_reducible refine Blk.alloc ?_) | (with_reducible refine Blk.drewN ?_) | (with_reducible refine Blk.drew ?_) | (with_reducible refine Blk.other ?_ (by first | omega | (simp; done) | (simp; omega))))); done) | ((repeat' (first | (with_reducible exact Below.refl _ _) | (with_reducible assumption) | (with_reducible refine belowThru ?_ (by assumption)) | (with_reducible refine belowAlloc ?_) | (with_reducible refine Below.setCell ?_ (by first | omega | (simp; done) | (simp; omega)) _) | (with_reducible refine Below.drew ?_) | (with_reducible refine below_drewN ?_ _))); done))))
  clear hK K hHeld
  have hHeld := hHeldN
  clear hHeldN
  try simp only [Act.put, List.setIfInBounds_toArray, List.set_cons_zero, List.set_cons_succ]
  clear hb
  refine wpAnyH_take (i := 5) (v := ?_) rfl (by kernel_rfl) (by kernel_rfl) (by kernel_rfl) (fun _ _ _ h => h) (Or.inl ⟨by rfl, ?hT12⟩) (by assumption) ?_
  case hT12 => ((intro w hSw; (try dsimp only at hSw); go_simp); try (with_reducible rfl))
  try simp only [Act.put, List.setIfInBounds_toArray, List.set_cons_zero, List.set_cons_succ]
  refine wpAnyH_take (i := 8) (v := ?_) rfl (by kernel_rfl) (by kernel_rfl) (by kernel_rfl) (fun _ _ _ h => h) (Or.inl ⟨by rfl, ?hT13⟩) (by assumption) ?_
  case hT13 => ((intro w hSw; (try dsimp only at hSw); go_simp); try (with_reducible rfl))
  try simp only [Act.put, List.setIfInBounds_toArray, List.set_cons_zero, List.set_cons_succ]
  refine wpAnyH_ready (rs := [11]) (by kernel_rfl) (by simp) ?_
  refine AllReadyH.cons rfl (fun K hK => ?_) AllReadyH.nil
  go_simp
  (go_at_call 56; (with_reducible refine (HQ.out _).mono ?_); rintro e wB ⟨rfl, rfl⟩)
  refine hK.out _ _ ?_ (fun hHeldN => ?_)
  · (try dsimp only); (((first | (apply hold3; (focus assumption); intro p0 p1 p2 pB) | skip); refine ⟨Blk.full ?_, Blk.full ?_, Blk.full ?_, ?_⟩; all_goals (first | ((repeat' (first | (with_reducible assumption) | ((with_reducible refine Blk.new ?_); first | rfl | (simp; done)) | (with_reducible refine Blk.later (by assumption) ?_) | (with_reducible refine Blk.alloc ?_) | (with_reducible refine Blk.drewN ?_) | (with_reducible refine Blk.drew ?_) | (with_reducible refine Blk.other ?_ (by first | omega | (simp; done) | (simp; omega))))); done) | ((repeat' (first | (with_reducible exact Below.refl _ _) | (with_reducible assumption) | (with_reducible refine belowThru ?_ (by assumption)) | (with_reducible refine belowAlloc ?_) | (with_reducible refine Below.setCell ?_ (by first | omega | (simp; done) | (simp; omega)) _) | (with_reducible refine Below.drew ?_) | (with_reducible refine below_drewN ?_ _))); done))))
  clear hK K hHeld
  have hHeld := hHeldN
  clear hHeldN
  try simp only [Act.put, List.setIfInBounds_toArray, List.set_cons_zero, List.set_cons_succ]
  refine wpAnyH_ready (rs := [16]) (by kernel_rfl) (by simp) ?_
  refine AllReadyH.cons rfl (fun K hK => ?_) AllReadyH.nil
  go_simp
  (go_at_call 55; (with_reducible refine (bring_any _ _ _ _).mono ?_); rintro e wC ⟨rfl, rfl⟩)
  refine hK.out _ _ ?_ (fun hHeldN => ?_)
  · (try dsimp only); (((first | (apply hold3; (focus assumption); intro p0 p1 p2 pB) | skip); refine ⟨Blk.full ?_, Blk.full ?_, Blk.full ?_, ?_⟩; all_goals (first | ((repeat' (first | (with_reducible assumption) | ((with_reducible refine Blk.new ?_); first | rfl | (simp; done)) | (with_reducible refine Blk.later (by assumption) ?_) | (with_reducible refine Blk.alloc ?_) | (with_reducible refine Blk.drewN ?_) | (with_reducible refine Blk.drew ?_) | (with_reducible refine Blk.other ?_ (by first | omega | (simp; done) | (simp; omega))))); done) | ((repeat' (first | (with_reducible exact Below.refl _ _) | (with_reducible assumption) | (with_reducible refine belowThru ?_ (by assumption)) | (with_reducible refine belowAlloc ?_) | (with_reducible refine Below.setCell ?_ (by first | omega | (simp; done) | (simp; omega)) _) | (with_reducible refine Below.drew ?_) | (with_reducible refine below_drewN ?_ _))); done))))
  clear hK K hHeld
  have hHeld := hHeldN
  clear hHeldN
  try simp only [Act.put, List.setIfInBounds_toArray, List.set_cons_zero, List.set_cons_succ]
  refine wpAnyH_ready (rs := [17]) (by kernel_rfl) (by simp) ?_
  refine AllReadyH.cons rfl (fun K hK => ?_) AllReadyH.nil
  go_simp
  refine hK.out _ _ ?_ (fun hHeldN => ?_)
  · (try dsimp only); (((first | (apply hold3; (focus assumption); intro p0 p1 p2 pB) | skip); refine ⟨Blk.full ?_, Blk.full ?_, Blk.full ?_, ?_⟩; all_goals (first | ((repeat' (first | (with_reducible assumption) | ((with_reducible refine Blk.new ?_); first | rfl | (simp; done)) | (with_reducible refine Blk.later (by assumption) ?_) | (with_reducible refine Blk.alloc ?_) | (with_reducible refine Blk.drewN ?_) | (with_reducible refine Blk.drew ?_) | (with_reducible refine Blk.other ?_ (by first | omega | (simp; done) | (simp; omega))))); done) | ((repeat' (first | (with_reducible exact Below.refl _ _) | (with_reducible assumption) | (with_reducible refine belowThru ?_ (by assumption)) | (with_reducible refine belowAlloc ?_) | (with_reducible refine Below.setCell ?_ (by first | omega | (simp; done) | (simp; omega)) _) | (with_reducible refine Below.drew ?_) | (with_reducible refine below_drewN ?_ _))); done))))
  clear hK K hHeld
  have hHeld := hHeldN
  clear hHeldN
  try simp only [Act.put, List.setIfInBounds_toArray, List.set_cons_zero, List.set_cons_succ]
  refine wpAnyH_done (by kernel_rfl) ?_ _
  obtain ⟨-, -, -, qB⟩ := hHeld
  go_wp2
  go_ret
  exact ⟨rfl, qB⟩
end Go.Proofs.Ytghmjdmiaajbnaa
/-
  Layer 2: images of point operations and of operations of two images, by the code.
-/
namespace Go.Proofs.Ytghmjdmiaajbnaa
open Go.RowKit
set_option linter.unusedVariables false
set_option linter.unusedSimpArgs false

theorem pix_self {W H : Int} {zs : List Int} (hI : okI W H zs) {k : Nat} (hk : k < zs.length) : pixAt W zs ((k : Int) % W) ((k : Int) / W) = zs[k]?.getD 0 := by
  unfold pixAt
  have e : (k : Int) / W * W + (k : Int) % W = (k : Int) := by have := Int.mul_ediv_add_emod (k : Int) W; rw [Int.mul_comm]; exact this
  rw [e, Int.toNat_natCast]

set_option maxRecDepth 100000 in
set_option maxHeartbeats 4000000 in
theorem point_ok (W H pM pA pD pL pH : Int) (a : Option Addr) (n c : Nat) (zs : List Int) (hI : okI W H zs) (hP : okP pM pA pD pL pH) (hn : n ≤ maxLen) (w : World) (hR : Row w a n (iv zs)) :
    Calls Try.prog 15 #[.agg #[.int .i64 W, .int .i64 H, .slice a n c], .agg #[.int .i64 pM, .int .i64 pA, .int .i64 pD, .int .i64 pL, .int .i64 pH]] w (RetI W H (made n fun k => ptV pM pA pD pL pH (zs[k]?.getD 0)) 0 w) := by
  have HK := Lib.hid (icheck_ok hI a n c hn)
  have HR := Lib.hid hR
  have hlen : zs.length = n := by have := hR.1; rwa [iv_length] at this
  have hN : W * H = (n : Int) := by rw [← hlen]; exact hI.2.1.symm
  have hW := hI.1.1
  have hH := hI.1.2
  have hm := okS_mul hW hH
  have dP : decide (okP pM pA pD pL pH) = true := decide_eq_true hP
  have HP : Hid (∀ k, k < n → inP W H ((k : Int) % W) ((k : Int) / W)) := fun k hk => by
    have := place_in hW hH hN hk
    unfold inP; omega
  have hme : ((List.range n).map fun (k : Nat) => inR (ptV pM pA pD pL pH (pixAt W zs ((k : Int) % W) ((k : Int) / W))) (-2147483648) 2147483648) = made n fun k => ptV pM pA pD pL pH (zs[k]?.getD 0) :=
    List.map_congr_left (fun k hk => by rw [inR_ok (ptV_ok hP _), pix_self hI (by rw [hlen]; exact List.mem_range.1 hk)])
  have HM := Lib.hid hme
  have HN := Lib.hid hN
  clear hR hn hlen hme hN
  go_enter Try.func15, Try.ntmps15
  go_upto_region 6 with (first
    | (go_at_call 51; (with_reducible refine (HK.out _ (HR.out.later (by (repeat' (first | (with_reducible exact Below.refl _ _) | (with_reducible assumption) | (with_reducible refine belowThru ?_ (by assumption)) | (with_reducible refine belowAlloc ?_) | (with_reducible refine Below.setCell ?_ (by first | omega | (simp; done) | (simp; omega)) _) | (with_reducible refine Below.drew ?_) | (with_reducible refine below_drewN ?_ _)))))).mono ?_); rintro e w1 ⟨rfl, hb⟩; (first | ((with_reducible have k0 := Blk.later hb (Blk.alloc (Blk.alloc (Blk.new rfl)))); (with_reducible have k1 := Blk.later hb (Blk.alloc (Blk.new rfl))); (with_reducible have k2 := Blk.later hb (Blk.new rfl)); simp only [World.size_alloc] at k1 k2; obtain ⟨a0, b0⟩ := k0.read; have zl := k0.lt; obtain ⟨a1, b1⟩ := k1.read; have zl := k1.lt; obtain ⟨a2, b2⟩ := k2.read; have zl := k2.lt) | ((try (have zk := k0.lt; (first | ((with_reducible refine Blk.keepG hb k0 (fun h => ?_) ?_); (focus ((repeat' (first | (with_reducible assumption) | ((with_reducible refine Blk.new ?_); first | rfl | (simp; done)) | (with_reducible refine Blk.later (by assumption) ?_) | (with_reducible refine Blk.alloc ?_) | (with_reducible refine Blk.drewN ?_) | (with_reducible refine Blk.drew ?_) | (with_reducible refine Blk.other ?_ (by first | omega | (simp; done) | (simp; omega))))); done)); clear k0; intro k0) | (with_reducible replace k0 := Blk.later hb (Blk.set (Blk.set k0))) | (with_reducible replace k0 := Blk.later hb (Blk.set k0))); clear a0 b0; obtain ⟨a0, b0⟩ := k0.read; have zl := k0.lt)); (try (have zk := k1.lt; (first | ((with_reducible refine Blk.keepG hb k1 (fun h => ?_) ?_); (focus ((repeat' (first | (with_reducible assumption) | ((with_reducible refine Blk.new ?_); first | rfl | (simp; done)) | (with_reducible refine Blk.later (by assumption) ?_) | (with_reducible refine Blk.alloc ?_) | (with_reducible refine Blk.drewN ?_) | (with_reducible refine Blk.drew ?_) | (with_reducible refine Blk.other ?_ (by first | omega | (simp; done) | (simp; omega))))); done)); clear k1; intro k1) | (with_reducible replace k1 := Blk.later hb (Blk.set (Blk.set k1))) | (with_reducible replace k1 := Blk.later hb (Blk.set k1))); clear a1 b1; obtain ⟨a1, b1⟩ := k1.read; have zl := k1.lt)); (try (have zk := k2.lt; (first | ((with_reducible refine Blk.keepG hb k2 (fun h => ?_) ?_); (focus ((repeat' (first | (with_reducible assumption) | ((with_reducible refine Blk.new ?_); first | rfl | (simp; done)) | (with_reducible refine Blk.later (by assumption) ?_) | (with_reducible refine Blk.alloc ?_) | (with_reducible refine Blk.drewN ?_) | (with_reducible refine Blk.drew ?_) | (with_reducible refine Blk.other ?_ (by first | omega | (simp; done) | (simp; omega))))); done)); clear k2; intro k2) | (with_reducible replace k2 := Blk.later hb (Blk.set (Blk.set k2))) | (with_reducible replace k2 := Blk.later hb (Blk.set k2))); clear a2 b2; obtain ⟨a2, b2⟩ := k2.read; have zl := k2.lt)))))
    | (go_at_call 52; (with_reducible refine (isPoint_any _ _ _ _ _ _).mono ?_); rintro e w1 ⟨rfl, hb⟩; (try (have zk := k0.lt; (first | ((with_reducible refine Blk.keepG hb k0 (fun h => ?_) ?_); (focus ((repeat' (first | (with_reducible assumption) | ((with_reducible refine Blk.new ?_); first | rfl | (simp; done)) | (with_reducible refine Blk.later (by assumption) ?_) | (with_reducible refine Blk.alloc ?_) | (with_reducible refine Blk.drewN ?_) | (with_reducible refine Blk.drew ?_) | (with_reducible refine Blk.other ?_ (by first | omega | (simp; done) | (simp; omega))))); done)); clear k0; intro k0) | (with_reducible replace k0 := Blk.later hb (Blk.set (Blk.set k0))) | (with_reducible replace k0 := Blk.later hb (Blk.set k0))); clear a0 b0; obtain ⟨a0, b0⟩ := k0.read; have zl := k0.lt)); (try (have zk := k1.lt; (first | ((with_reducible refine Blk.keepG hb k1 (fun h => ?_) ?_); (focus ((repeat' (first | (with_reducible assumption) | ((with_reducible refine Blk.new ?_); first | rfl | (simp; done)) | (with_reducible refine Blk.later (by assumption) ?_) | (with_reducible refine Blk.alloc ?_) | (with_reducible refine Blk.drewN ?_) | (with_reducible refine Blk.drew ?_) | (with_reducible refine Blk.other ?_ (by first | omega | (simp; done) | (simp; omega))))); done)); clear k1; intro k1) | (with_reducible replace k1 := Blk.later hb (Blk.set (Blk.set k1))) | (with_reducible replace k1 := Blk.later hb (Blk.set k1))); clear a1 b1; obtain ⟨a1, b1⟩ := k1.read; have zl := k1.lt)); (try (have zk := k2.lt; (first | ((with_reducible refine Blk.keepG hb k2 (fun h => ?_) ?_); (focus ((repeat' (first | (with_reducible assumption) | ((with_reducible refine Blk.new ?_); first | rfl | (simp; done)) | (with_reducible refine Blk.later (by assumption) ?_) | (with_reducible refine Blk.alloc ?_) | (with_reducible refine Blk.drewN ?_) | (with_reducible refine Blk.drew ?_) | (with_reducible refine Blk.other ?_ (by first | omega | (simp; done) | (simp; omega))))); done)); clear k2; intro k2) | (with_reducible replace k2 := Blk.later hb (Blk.set (Blk.set k2))) | (with_reducible replace k2 := Blk.later hb (Blk.set k2))); clear a2 b2; obtain ⟨a2, b2⟩ := k2.read; have zl := k2.lt))))
  have HV := Lib.hid (fun (k : Nat) (hk : k < n) W1 (hW1 : Below _ _ W1) => point1_any W H pM pA pD pL pH ((k : Int) % W) ((k : Int) / W) a n c zs hI hP (HP.out k hk) (w.heap.size + 1) w.heap.size W1 (HR.out.later (by (repeat' (first | (with_reducible exact Below.refl _ _) | (with_reducible assumption) | (with_reducible refine belowThru ?_ (by assumption)) | (with_reducible refine belowAlloc ?_) | (with_reducible refine Below.setCell ?_ (by first | omega | (simp; done) | (simp; omega)) _) | (with_reducible refine Below.drew ?_) | (with_reducible refine below_drewN ?_ _))))) (Blk.later hW1 k1) (Blk.later hW1 k0))
  have HB := Lib.hid (build_any W H n 54 #[.pointer (some ⟨w.heap.size + 1, 0, none⟩), .pointer (some ⟨w.heap.size, 0, none⟩)] (fun k => ptV pM pA pD pL pH (pixAt W zs ((k : Int) % W) ((k : Int) / W))) HN.out hW.1 hW.2 hH.1 hH.2 (by have := HN.out; omega) (enters_of Try.func54 (by kernel_rfl) rfl) _ HV)
  rw [HM.out] at HB
  clear HV
  go_wp2_with (go_at_call 53; (with_reducible refine (HB.out).mono ?_); rintro e w2 ⟨B, rfl, hB0, kB, hb⟩; (try (have zk := k0.lt; (first | ((with_reducible refine Blk.keepG hb k0 (fun h => ?_) ?_); (focus ((repeat' (first | (with_reducible assumption) | ((with_reducible refine Blk.new ?_); first | rfl | (simp; done)) | (with_reducible refine Blk.later (by assumption) ?_) | (with_reducible refine Blk.alloc ?_) | (with_reducible refine Blk.drewN ?_) | (with_reducible refine Blk.drew ?_) | (with_reducible refine Blk.other ?_ (by first | omega | (simp; done) | (simp; omega))))); done)); clear k0; intro k0) | (with_reducible replace k0 := Blk.later hb (Blk.set (Blk.set k0))) | (with_reducible replace k0 := Blk.later hb (Blk.set k0))); clear a0 b0; obtain ⟨a0, b0⟩ := k0.read; have zl := k0.lt)); (try (have zk := k1.lt; (first | ((with_reducible refine Blk.keepG hb k1 (fun h => ?_) ?_); (focus ((repeat' (first | (with_reducible assumption) | ((with_reducible refine Blk.new ?_); first | rfl | (simp; done)) | (with_reducible refine Blk.later (by assumption) ?_) | (with_reducible refine Blk.alloc ?_) | (with_reducible refine Blk.drewN ?_) | (with_reducible refine Blk.drew ?_) | (with_reducible refine Blk.other ?_ (by first | omega | (simp; done) | (simp; omega))))); done)); clear k1; intro k1) | (with_reducible replace k1 := Blk.later hb (Blk.set (Blk.set k1))) | (with_reducible replace k1 := Blk.later hb (Blk.set k1))); clear a1 b1; obtain ⟨a1, b1⟩ := k1.read; have zl := k1.lt)); (try (have zk := k2.lt; (first | ((with_reducible refine Blk.keepG hb k2 (fun h => ?_) ?_); (focus ((repeat' (first | (with_reducible assumption) | ((with_reducible refine Blk.new ?_); first | rfl | (simp; done)) | (with_reducible refine Blk.later (by assumption) ?_) | (with_reducible refine Blk.alloc ?_) | (with_reducible refine Blk.drewN ?_) | (with_reducible refine Blk.drew ?_) | (with_reducible refine Blk.other ?_ (by first | omega | (simp; done) | (simp; omega))))); done)); clear k2; intro k2) | (with_reducible replace k2 := Blk.later hb (Blk.set (Blk.set k2))) | (with_reducible replace k2 := Blk.later hb (Blk.set k2))); clear a2 b2; obtain ⟨a2, b2⟩ := k2.read; have zl := k2.lt)))
  exact bodyPost_ret (v := .tuple #[.agg #[.int .i64 W, .int .i64 H, .slice (some ⟨B, 0, none⟩) n n], .int .i64 0]) (by simp only [results, Try.results15]; go_simp) rfl (RetI.made (made_length _ _) (by omega) (by (repeat' (first | (with_reducible assumption) | ((with_reducible refine Blk.new ?_); first | rfl | (simp; done)) | (with_reducible refine Blk.later (by assumption) ?_) | (with_reducible refine Blk.alloc ?_) | (with_reducible refine Blk.drewN ?_) | (with_reducible refine Blk.drew ?_) | (with_reducible refine Blk.other ?_ (by first | omega | (simp; done) | (simp; omega)))))) (by (repeat' (first | (with_reducible exact Below.refl _ _) | (with_reducible assumption) | (with_reducible refine belowThru ?_ (by assumption)) | (with_reducible refine belowAlloc ?_) | (with_reducible refine Below.setCell ?_ (by first | omega | (simp; done) | (simp; omega)) _) | (with_reducible refine Below.drew ?_) | (with_reducible refine below_drewN ?_ _)))))
/-! ### Two images -/
end Go.Proofs.Ytghmjdmiaajbnaa
/-
  Layer 2: the document's own dilated and eroded images.
-/
namespace Go.Proofs.Ytghmjdmiaajbnaa
open Go.RowKit
set_option linter.unusedVariables false
set_option linter.unusedSimpArgs false

/-- What the first cells of a shape make of a pixel. -/
def exD (W H : Int) (zs : List Int) (SW SH : Int) (bs : List Bool) (x y : Int) : Nat → Int
  | 0 => -2147483648
  | k + 1 => if bs[k]?.getD false = true ∧ inP W H (x - ((k : Int) % SW - SW / 2)) (y - ((k : Int) / SW - SH / 2)) then (if (exD W H zs SW SH bs x y k) < pixAt W zs (x - ((k : Int) % SW - SW / 2)) (y - ((k : Int) / SW - SH / 2)) then pixAt W zs (x - ((k : Int) % SW - SW / 2)) (y - ((k : Int) / SW - SH / 2)) else (exD W H zs SW SH bs x y k)) else exD W H zs SW SH bs x y k

/-- What the first cells of a shape make of a pixel. -/
def exE (W H : Int) (zs : List Int) (SW SH : Int) (bs : List Bool) (x y : Int) : Nat → Int
  | 0 => 2147483648
  | k + 1 => if bs[k]?.getD false = true ∧ inP W H (x + ((k : Int) % SW - SW / 2)) (y + ((k : Int) / SW - SH / 2)) then (if pixAt W zs (x + ((k : Int) % SW - SW / 2)) (y + ((k : Int) / SW - SH / 2)) < (exE W H zs SW SH bs x y k) then pixAt W zs (x + ((k : Int) % SW - SW / 2)) (y + ((k : Int) / SW - SH / 2)) else (exE W H zs SW SH bs x y k)) else exE W H zs SW SH bs x y k

end Go.Proofs.Ytghmjdmiaajbnaa
/-
  Layer 2: dilated and eroded images, by the code.
-/
namespace Go.Proofs.Ytghmjdmiaajbnaa
open Go.RowKit
set_option linter.unusedVariables false
set_option linter.unusedSimpArgs false

theorem ish_ok {SW SH : Int} {bs : List Bool} (h : okSh SW SH bs) (a' : Option Addr) (m c' : Nat) (hn : m ≤ maxLen) (w : World) (hR : Row w a' m (bv bs)) :
    Calls Try.prog 108 #[.agg #[.int .i64 SW, .int .i64 SH, .slice a' m c']] w fun e w' => e = .returned (.bool true) ∧ Below w.heap.size w w' := by
  have := isShape_any SW SH a' m c' bs hn w hR; rw [decide_eq_true h] at this; exact this
set_option maxRecDepth 100000 in
set_option maxHeartbeats 4000000 in
theorem extremes_ok (W H SW SH init : Int) (FA FC : FuncId) (mx : Int → Int → Int) (U V : Int → Int → Nat → Int) (E : Nat → Int) (a a' : Option Addr) (n c m c' : Nat) (zs : List Int) (bs : List Bool) (stp : Nat → Int → Nat → Int) (hI : okI W H zs) (hS : okSh SW SH bs) (hn : n ≤ maxLen) (hm : m ≤ maxLen) (w : World) (hR : Row w a n (iv zs)) (hT : Row w a' m (bv bs))
    (ea : ∀ args w, (callFunc FA args).run Try.prog w = .ok (.enter FA args) w) (ec : ∀ args w, (callFunc FC args).run Try.prog w = .ok (.enter FC args) w)
    (HA : Hid (∀ j : Nat, j < n → ∀ k : Nat, k < m → ∀ w, Calls Try.prog FA #[.agg #[.int .i64 ((j : Int) % W), .int .i64 ((j : Int) / W)], .agg #[.int .i64 ((k : Int) % SW - SW / 2), .int .i64 ((k : Int) / SW - SH / 2)]] w fun e w' => e = .returned (.agg #[.int .i64 (U ((j : Int) % W) ((j : Int) / W) k), .int .i64 (V ((j : Int) % W) ((j : Int) / W) k)]) ∧ Below w.heap.size w w'))
    (HC : Hid (∀ p q w, Calls Try.prog FC #[.int .i64 p, .int .i64 q] w fun e w' => e = .returned (.int .i64 (mx p q)) ∧ Below w.heap.size w w'))
    (HY : Hid (∀ (j : Nat) p k, bs[k]? = some true → inP W H (U ((j : Int) % W) ((j : Int) / W) k) (V ((j : Int) % W) ((j : Int) / W) k) → stp j p k = mx p (pixAt W zs (U ((j : Int) % W) ((j : Int) / W) k) (V ((j : Int) % W) ((j : Int) / W) k))))
    (HN : Hid (∀ (j : Nat) p k, (bs[k]? = some false ∨ ¬ inP W H (U ((j : Int) % W) ((j : Int) / W) k) (V ((j : Int) % W) ((j : Int) / W) k)) → stp j p k = p))
    (HE : Hid (∀ j, j < n → (List.range m).foldl (stp j) init = E j ∧ okV (E j))) :
    Calls Try.prog 65 #[.agg #[.int .i64 W, .int .i64 H, .slice a n c], .agg #[.int .i64 SW, .int .i64 SH, .slice a' m c'], .func (.func FA) #[] #[], .int .i64 init, .func (.func FC) #[] #[]] w (RetI W H (made n E) 0 w) := by
  have HK := Lib.hid (icheck_ok hI a n c hn)
  have HL := Lib.hid (ish_ok hS a' m c' hm)
  have HR := Lib.hid hR
  have HT := Lib.hid hT
  have hlen : zs.length = n := by have := hR.1; rwa [iv_length] at this
  have hN : W * H = (n : Int) := by rw [← hlen]; exact hI.2.1.symm
  have hW := hI.1.1
  have hH := hI.1.2
  have hmm := okS_mul hW hH
  have HI := Lib.hid hI
  have HS := Lib.hid hS
  have hme : ((List.range n).map fun (k : Nat) => inR ((List.range m).foldl (stp k) init) (-2147483648) 2147483648) = made n E :=
    List.map_congr_left (fun k hk => by obtain ⟨e, o⟩ := HE.out k (List.mem_range.1 hk); rw [e, inR_ok o])
  have HM := Lib.hid hme
  have HN' := Lib.hid hN
  clear hR hT hn hm hlen hme hN hI hS
  go_enter Try.func65, Try.ntmps65
  go_upto_region 6 with (first
    | (go_at_call 51; (with_reducible refine (HK.out _ (HR.out.later (by (repeat' (first | (with_reducible exact Below.refl _ _) | (with_reducible assumption) | (with_reducible refine belowThru ?_ (by assumption)) | (with_reducible refine belowAlloc ?_) | (with_reducible refine Below.setCell ?_ (by first | omega | (simp; done) | (simp; omega)) _) | (with_reducible refine Below.drew ?_) | (with_reducible refine below_drewN ?_ _)))))).mono ?_); rintro e w1 ⟨rfl, hb⟩; (first | ((with_reducible have k0 := Blk.later hb (Blk.alloc (Blk.alloc (Blk.alloc (Blk.alloc (Blk.alloc (Blk.new rfl))))))); (with_reducible have k1 := Blk.later hb (Blk.alloc (Blk.alloc (Blk.alloc (Blk.alloc (Blk.new rfl)))))); (with_reducible have k2 := Blk.later hb (Blk.alloc (Blk.alloc (Blk.alloc (Blk.new rfl))))); (with_reducible have k3 := Blk.later hb (Blk.alloc (Blk.alloc (Blk.new rfl)))); (with_reducible have k4 := Blk.later hb (Blk.alloc (Blk.new rfl))); (with_reducible have k5 := Blk.later hb (Blk.new rfl)); simp only [World.size_alloc] at k1 k2 k3 k4 k5; obtain ⟨a0, b0⟩ := k0.read; have zl := k0.lt; obtain ⟨a1, b1⟩ := k1.read; have zl := k1.lt; obtain ⟨a2, b2⟩ := k2.read; have zl := k2.lt; obtain ⟨a3, b3⟩ := k3.read; have zl := k3.lt; obtain ⟨a4, b4⟩ := k4.read; have zl := k4.lt; obtain ⟨a5, b5⟩ := k5.read; have zl := k5.lt) | ((try (have zk := k0.lt; (first | ((with_reducible refine Blk.keepG hb k0 (fun h => ?_) ?_); (focus ((repeat' (first | (with_reducible assumption) | ((with_reducible refine Blk.new ?_); first | rfl | (simp; done)) | (with_reducible refine Blk.later (by assumption) ?_) | (with_reducible refine Blk.alloc ?_) | (with_reducible refine Blk.drewN ?_) | (with_reducible refine Blk.drew ?_) | (with_reducible refine Blk.other ?_ (by first | omega | (simp; done) | (simp; omega))))); done)); clear k0; intro k0) | (with_reducible replace k0 := Blk.later hb (Blk.set (Blk.set k0))) | (with_reducible replace k0 := Blk.later hb (Blk.set k0))); clear a0 b0; obtain ⟨a0, b0⟩ := k0.read; have zl := k0.lt)); (try (have zk := k1.lt; (first | ((with_reducible refine Blk.keepG hb k1 (fun h => ?_) ?_); (focus ((repeat' (first | (with_reducible assumption) | ((with_reducible refine Blk.new ?_); first | rfl | (simp; done)) | (with_reducible refine Blk.later (by assumption) ?_) | (with_reducible refine Blk.alloc ?_) | (with_reducible refine Blk.drewN ?_) | (with_reducible refine Blk.drew ?_) | (with_reducible refine Blk.other ?_ (by first | omega | (simp; done) | (simp; omega))))); done)); clear k1; intro k1) | (with_reducible replace k1 := Blk.later hb (Blk.set (Blk.set k1))) | (with_reducible replace k1 := Blk.later hb (Blk.set k1))); clear a1 b1; obtain ⟨a1, b1⟩ := k1.read; have zl := k1.lt)); (try (have zk := k2.lt; (first | ((with_reducible refine Blk.keepG hb k2 (fun h => ?_) ?_); (focus ((repeat' (first | (with_reducible assumption) | ((with_reducible refine Blk.new ?_); first | rfl | (simp; done)) | (with_reducible refine Blk.later (by assumption) ?_) | (with_reducible refine Blk.alloc ?_) | (with_reducible refine Blk.drewN ?_) | (with_reducible refine Blk.drew ?_) | (with_reducible refine Blk.other ?_ (by first | omega | (simp; done) | (simp; omega))))); done)); clear k2; intro k2) | (with_reducible replace k2 := Blk.later hb (Blk.set (Blk.set k2))) | (with_reducible replace k2 := Blk.later hb (Blk.set k2))); clear a2 b2; obtain ⟨a2, b2⟩ := k2.read; have zl := k2.lt)); (try (have zk := k3.lt; (first | ((with_reducible refine Blk.keepG hb k3 (fun h => ?_) ?_); (focus ((repeat' (first | (with_reducible assumption) | ((with_reducible refine Blk.new ?_); first | rfl | (simp; done)) | (with_reducible refine Blk.later (by assumption) ?_) | (with_reducible refine Blk.alloc ?_) | (with_reducible refine Blk.drewN ?_) | (with_reducible refine Blk.drew ?_) | (with_reducible refine Blk.other ?_ (by first | omega | (simp; done) | (simp; omega))))); done)); clear k3; intro k3) | (with_reducible replace k3 := Blk.later hb (Blk.set (Blk.set k3))) | (with_reducible replace k3 := Blk.later hb (Blk.set k3))); clear a3 b3; obtain ⟨a3, b3⟩ := k3.read; have zl := k3.lt)); (try (have zk := k4.lt; (first | ((with_reducible refine Blk.keepG hb k4 (fun h => ?_) ?_); (focus ((repeat' (first | (with_reducible assumption) | ((with_reducible refine Blk.new ?_); first | rfl | (simp; done)) | (with_reducible refine Blk.later (by assumption) ?_) | (with_reducible refine Blk.alloc ?_) | (with_reducible refine Blk.drewN ?_) | (with_reducible refine Blk.drew ?_) | (with_reducible refine Blk.other ?_ (by first | omega | (simp; done) | (simp; omega))))); done)); clear k4; intro k4) | (with_reducible replace k4 := Blk.later hb (Blk.set (Blk.set k4))) | (with_reducible replace k4 := Blk.later hb (Blk.set k4))); clear a4 b4; obtain ⟨a4, b4⟩ := k4.read; have zl := k4.lt)); (try (have zk := k5.lt; (first | ((with_reducible refine Blk.keepG hb k5 (fun h => ?_) ?_); (focus ((repeat' (first | (with_reducible assumption) | ((with_reducible refine Blk.new ?_); first | rfl | (simp; done)) | (with_reducible refine Blk.later (by assumption) ?_) | (with_reducible refine Blk.alloc ?_) | (with_reducible refine Blk.drewN ?_) | (with_reducible refine Blk.drew ?_) | (with_reducible refine Blk.other ?_ (by first | omega | (simp; done) | (simp; omega))))); done)); clear k5; intro k5) | (with_reducible replace k5 := Blk.later hb (Blk.set (Blk.set k5))) | (with_reducible replace k5 := Blk.later hb (Blk.set k5))); clear a5 b5; obtain ⟨a5, b5⟩ := k5.read; have zl := k5.lt)))))
    | (go_at_call 108; (with_reducible refine (HL.out _ (HT.out.later (by (repeat' (first | (with_reducible exact Below.refl _ _) | (with_reducible assumption) | (with_reducible refine belowThru ?_ (by assumption)) | (with_reducible refine belowAlloc ?_) | (with_reducible refine Below.setCell ?_ (by first | omega | (simp; done) | (simp; omega)) _) | (with_reducible refine Below.drew ?_) | (with_reducible refine below_drewN ?_ _)))))).mono ?_); rintro e w1 ⟨rfl, hb⟩; (try (have zk := k0.lt; (first | ((with_reducible refine Blk.keepG hb k0 (fun h => ?_) ?_); (focus ((repeat' (first | (with_reducible assumption) | ((with_reducible refine Blk.new ?_); first | rfl | (simp; done)) | (with_reducible refine Blk.later (by assumption) ?_) | (with_reducible refine Blk.alloc ?_) | (with_reducible refine Blk.drewN ?_) | (with_reducible refine Blk.drew ?_) | (with_reducible refine Blk.other ?_ (by first | omega | (simp; done) | (simp; omega))))); done)); clear k0; intro k0) | (with_reducible replace k0 := Blk.later hb (Blk.set (Blk.set k0))) | (with_reducible replace k0 := Blk.later hb (Blk.set k0))); clear a0 b0; obtain ⟨a0, b0⟩ := k0.read; have zl := k0.lt)); (try (have zk := k1.lt; (first | ((with_reducible refine Blk.keepG hb k1 (fun h => ?_) ?_); (focus ((repeat' (first | (with_reducible assumption) | ((with_reducible refine Blk.new ?_); first | rfl | (simp; done)) | (with_reducible refine Blk.later (by assumption) ?_) | (with_reducible refine Blk.alloc ?_) | (with_reducible refine Blk.drewN ?_) | (with_reducible refine Blk.drew ?_) | (with_reducible refine Blk.other ?_ (by first | omega | (simp; done) | (simp; omega))))); done)); clear k1; intro k1) | (with_reducible replace k1 := Blk.later hb (Blk.set (Blk.set k1))) | (with_reducible replace k1 := Blk.later hb (Blk.set k1))); clear a1 b1; obtain ⟨a1, b1⟩ := k1.read; have zl := k1.lt)); (try (have zk := k2.lt; (first | ((with_reducible refine Blk.keepG hb k2 (fun h => ?_) ?_); (focus ((repeat' (first | (with_reducible assumption) | ((with_reducible refine Blk.new ?_); first | rfl | (simp; done)) | (with_reducible refine Blk.later (by assumption) ?_) | (with_reducible refine Blk.alloc ?_) | (with_reducible refine Blk.drewN ?_) | (with_reducible refine Blk.drew ?_) | (with_reducible refine Blk.other ?_ (by first | omega | (simp; done) | (simp; omega))))); done)); clear k2; intro k2) | (with_reducible replace k2 := Blk.later hb (Blk.set (Blk.set k2))) | (with_reducible replace k2 := Blk.later hb (Blk.set k2))); clear a2 b2; obtain ⟨a2, b2⟩ := k2.read; have zl := k2.lt)); (try (have zk := k3.lt; (first | ((with_reducible refine Blk.keepG hb k3 (fun h => ?_) ?_); (focus ((repeat' (first | (with_reducible assumption) | ((with_reducible refine Blk.new ?_); first | rfl | (simp; done)) | (with_reducible refine Blk.later (by assumption) ?_) | (with_reducible refine Blk.alloc ?_) | (with_reducible refine Blk.drewN ?_) | (with_reducible refine Blk.drew ?_) | (with_reducible refine Blk.other ?_ (by first | omega | (simp; done) | (simp; omega))))); done)); clear k3; intro k3) | (with_reducible replace k3 := Blk.later hb (Blk.set (Blk.set k3))) | (with_reducible replace k3 := Blk.later hb (Blk.set k3))); clear a3 b3; obtain ⟨a3, b3⟩ := k3.read; have zl := k3.lt)); (try (have zk := k4.lt; (first | ((with_reducible refine Blk.keepG hb k4 (fun h => ?_) ?_); (focus ((repeat' (first | (with_reducible assumption) | ((with_reducible refine Blk.new ?_); first | rfl | (simp; done)) | (with_reducible refine Blk.later (by assumption) ?_) | (with_reducible refine Blk.alloc ?_) | (with_reducible refine Blk.drewN ?_) | (with_reducible refine Blk.drew ?_) | (with_reducible refine Blk.other ?_ (by first | omega | (simp; done) | (simp; omega))))); done)); clear k4; intro k4) | (with_reducible replace k4 := Blk.later hb (Blk.set (Blk.set k4))) | (with_reducible replace k4 := Blk.later hb (Blk.set k4))); clear a4 b4; obtain ⟨a4, b4⟩ := k4.read; have zl := k4.lt)); (try (have zk := k5.lt; (first | ((with_reducible refine Blk.keepG hb k5 (fun h => ?_) ?_); (focus ((repeat' (first | (with_reducible assumption) | ((with_reducible refine Blk.new ?_); first | rfl | (simp; done)) | (with_reducible refine Blk.later (by assumption) ?_) | (with_reducible refine Blk.alloc ?_) | (with_reducible refine Blk.drewN ?_) | (with_reducible refine Blk.drew ?_) | (with_reducible refine Blk.other ?_ (by first | omega | (simp; done) | (simp; omega))))); done)); clear k5; intro k5) | (with_reducible replace k5 := Blk.later hb (Blk.set (Blk.set k5))) | (with_reducible replace k5 := Blk.later hb (Blk.set k5))); clear a5 b5; obtain ⟨a5, b5⟩ := k5.read; have zl := k5.lt))))
  have HV := Lib.hid (fun (k : Nat) (hk : k < n) W1 (hW1 : Below _ _ W1) => (callsIn_wide (n := 9)).1 (ext_in 9 (by omega) W H SW SH ((k : Int) % W) ((k : Int) / W) init FA FC mx (U ((k : Int) % W) ((k : Int) / W)) (V ((k : Int) % W) ((k : Int) / W)) a a' n c m c' zs bs (stp k) HI.out HS.out (w.heap.size + 1 + 1 + 1) (w.heap.size + 1) (w.heap.size + 1 + 1) w.heap.size (w.heap.size + 1 + 1 + 1 + 1) W1 (HR.out.later (by (repeat' (first | (with_reducible exact Below.refl _ _) | (with_reducible assumption) | (with_reducible refine belowThru ?_ (by assumption)) | (with_reducible refine belowAlloc ?_) | (with_reducible refine Below.setCell ?_ (by first | omega | (simp; done) | (simp; omega)) _) | (with_reducible refine Below.drew ?_) | (with_reducible refine below_drewN ?_ _))))) (HT.out.later (by (repeat' (first | (with_reducible exact Below.refl _ _) | (with_reducible assumption) | (with_reducible refine belowThru ?_ (by assumption)) | (with_reducible refine belowAlloc ?_) | (with_reducible refine Below.setCell ?_ (by first | omega | (simp; done) | (simp; omega)) _) | (with_reducible refine Below.drew ?_) | (with_reducible refine below_drewN ?_ _))))) (Blk.later hW1 k3) (Blk.later hW1 k1) (Blk.later hW1 k2) (Blk.later hW1 k0) (Blk.later hW1 k4) ea ec (Lib.hid (HA.out k hk)) HC (Lib.hid (HY.out k)) (Lib.hid (HN.out k))))
  have HB := Lib.hid (build_any W H n 109 #[.pointer (some ⟨w.heap.size + 1 + 1 + 1, 0, none⟩), .pointer (some ⟨w.heap.size + 1, 0, none⟩), .pointer (some ⟨w.heap.size + 1 + 1, 0, none⟩), .pointer (some ⟨w.heap.size, 0, none⟩), .pointer (some ⟨w.heap.size + 1 + 1 + 1 + 1, 0, none⟩)] (fun k => (List.range m).foldl (stp k) init) HN'.out hW.1 hW.2 hH.1 hH.2 (by have := HN'.out; omega) (enters_of Try.func109 (by kernel_rfl) rfl) _ HV)
  rw [HM.out] at HB
  clear HV
  go_wp2_with (go_at_call 53; (with_reducible refine (HB.out).mono ?_); rintro e w2 ⟨B, rfl, hB0, kB, hb⟩; (try (have zk := k0.lt; (first | ((with_reducible refine Blk.keepG hb k0 (fun h => ?_) ?_); (focus ((repeat' (first | (with_reducible assumption) | ((with_reducible refine Blk.new ?_); first | rfl | (simp; done)) | (with_reducible refine Blk.later (by assumption) ?_) | (with_reducible refine Blk.alloc ?_) | (with_reducible refine Blk.drewN ?_) | (with_reducible refine Blk.drew ?_) | (with_reducible refine Blk.other ?_ (by first | omega | (simp; done) | (simp; omega))))); done)); clear k0; intro k0) | (with_reducible replace k0 := Blk.later hb (Blk.set (Blk.set k0))) | (with_reducible replace k0 := Blk.later hb (Blk.set k0))); clear a0 b0; obtain ⟨a0, b0⟩ := k0.read; have zl := k0.lt)); (try (have zk := k1.lt; (first | ((with_reducible refine Blk.keepG hb k1 (fun h => ?_) ?_); (focus ((repeat' (first | (with_reducible assumption) | ((with_reducible refine Blk.new ?_); first | rfl | (simp; done)) | (with_reducible refine Blk.later (by assumption) ?_) | (with_reducible refine Blk.alloc ?_) | (with_reducible refine Blk.drewN ?_) | (with_reducible refine Blk.drew ?_) | (with_reducible refine Blk.other ?_ (by first | omega | (simp; done) | (simp; omega))))); done)); clear k1; intro k1) | (with_reducible replace k1 := Blk.later hb (Blk.set (Blk.set k1))) | (with_reducible replace k1 := Blk.later hb (Blk.set k1))); clear a1 b1; obtain ⟨a1, b1⟩ := k1.read; have zl := k1.lt)); (try (have zk := k2.lt; (first | ((with_reducible refine Blk.keepG hb k2 (fun h => ?_) ?_); (focus ((repeat' (first | (with_reducible assumption) | ((with_reducible refine Blk.new ?_); first | rfl | (simp; done)) | (with_reducible refine Blk.later (by assumption) ?_) | (with_reducible refine Blk.alloc ?_) | (with_reducible refine Blk.drewN ?_) | (with_reducible refine Blk.drew ?_) | (with_reducible refine Blk.other ?_ (by first | omega | (simp; done) | (simp; omega))))); done)); clear k2; intro k2) | (with_reducible replace k2 := Blk.later hb (Blk.set (Blk.set k2))) | (with_reducible replace k2 := Blk.later hb (Blk.set k2))); clear a2 b2; obtain ⟨a2, b2⟩ := k2.read; have zl := k2.lt)); (try (have zk := k3.lt; (first | ((with_reducible refine Blk.keepG hb k3 (fun h => ?_) ?_); (focus ((repeat' (first | (with_reducible assumption) | ((with_reducible refine Blk.new ?_); first | rfl | (simp; done)) | (with_reducible refine Blk.later (by assumption) ?_) | (with_reducible refine Blk.alloc ?_) | (with_reducible refine Blk.drewN ?_) | (with_reducible refine Blk.drew ?_) | (with_reducible refine Blk.other ?_ (by first | omega | (simp; done) | (simp; omega))))); done)); clear k3; intro k3) | (with_reducible replace k3 := Blk.later hb (Blk.set (Blk.set k3))) | (with_reducible replace k3 := Blk.later hb (Blk.set k3))); clear a3 b3; obtain ⟨a3, b3⟩ := k3.read; have zl := k3.lt)); (try (have zk := k4.lt; (first | ((with_reducible refine Blk.keepG hb k4 (fun h => ?_) ?_); (focus ((repeat' (first | (with_reducible assumption) | ((with_reducible refine Blk.new ?_); first | rfl | (simp; done)) | (with_reducible refine Blk.later (by assumption) ?_) | (with_reducible refine Blk.alloc ?_) | (with_reducible refine Blk.drewN ?_) | (with_reducible refine Blk.drew ?_) | (with_reducible refine Blk.other ?_ (by first | omega | (simp; done) | (simp; omega))))); done)); clear k4; intro k4) | (with_reducible replace k4 := Blk.later hb (Blk.set (Blk.set k4))) | (with_reducible replace k4 := Blk.later hb (Blk.set k4))); clear a4 b4; obtain ⟨a4, b4⟩ := k4.read; have zl := k4.lt)); (try (have zk := k5.lt; (first | ((with_reducible refine Blk.keepG hb k5 (fun h => ?_) ?_); (focus ((repeat' (first | (with_reducible assumption) | ((with_reducible refine Blk.new ?_); first | rfl | (simp; done)) | (with_reducible refine Blk.later (by assumption) ?_) | (with_reducible refine Blk.alloc ?_) | (with_reducible refine Blk.drewN ?_) | (with_reducible refine Blk.drew ?_) | (with_reducible refine Blk.other ?_ (by first | omega | (simp; done) | (simp; omega))))); done)); clear k5; intro k5) | (with_reducible replace k5 := Blk.later hb (Blk.set (Blk.set k5))) | (with_reducible replace k5 := Blk.later hb (Blk.set k5))); clear a5 b5; obtain ⟨a5, b5⟩ := k5.read; have zl := k5.lt)))
  exact bodyPost_ret (v := .tuple #[.agg #[.int .i64 W, .int .i64 H, .slice (some ⟨B, 0, none⟩) n n], .int .i64 0]) (by simp only [results, Try.results65]; go_simp) rfl (RetI.made (made_length _ _) (by omega) (by (repeat' (first | (with_reducible assumption) | ((with_reducible refine Blk.new ?_); first | rfl | (simp; done)) | (with_reducible refine Blk.later (by assumption) ?_) | (with_reducible refine Blk.alloc ?_) | (with_reducible refine Blk.drewN ?_) | (with_reducible refine Blk.drew ?_) | (with_reducible refine Blk.other ?_ (by first | omega | (simp; done) | (simp; omega)))))) (by (repeat' (first | (with_reducible exact Below.refl _ _) | (with_reducible assumption) | (with_reducible refine belowThru ?_ (by assumption)) | (with_reducible refine belowAlloc ?_) | (with_reducible refine Below.setCell ?_ (by first | omega | (simp; done) | (simp; omega)) _) | (with_reducible refine Below.drew ?_) | (with_reducible refine below_drewN ?_ _)))))
end Go.Proofs.Ytghmjdmiaajbnaa
/-
  Layer 2: Dilate and Erode, by the code; both sides.
-/
namespace Go.Proofs.Ytghmjdmiaajbnaa
open Go.RowKit
set_option linter.unusedVariables false
set_option linter.unusedSimpArgs false

theorem pixAt_ok {W H : Int} {zs : List Int} (hI : okI W H zs) (x y : Int) : okV (pixAt W zs x y) := by
  unfold pixAt
  cases h : zs[(y * W + x).toNat]? with
  | none => exact ⟨by decide, by decide⟩
  | some z => exact hI.2.2 z (List.mem_of_getElem? h)

def stpD (W H : Int) (zs : List Int) (SW SH : Int) (bs : List Bool) (x y : Int) (p : Int) (k : Nat) : Int :=
  if bs[k]?.getD false = true ∧ inP W H (x - ((k : Int) % SW - SW / 2)) (y - ((k : Int) / SW - SH / 2)) then (if p < pixAt W zs (x - ((k : Int) % SW - SW / 2)) (y - ((k : Int) / SW - SH / 2)) then pixAt W zs (x - ((k : Int) % SW - SW / 2)) (y - ((k : Int) / SW - SH / 2)) else p) else p
theorem exD_fold (W H : Int) (zs : List Int) (SW SH : Int) (bs : List Bool) (x y : Int) (m : Nat) : (List.range m).foldl (stpD W H zs SW SH bs x y) (-2147483648) = exD W H zs SW SH bs x y m := by
  induction m with
  | zero => rfl
  | succ m ih => rw [List.range_succ, List.foldl_append, ih]; rfl
theorem exD_ok {W H : Int} {zs : List Int} (hI : okI W H zs) (SW SH : Int) (bs : List Bool) (x y : Int) (m : Nat) : okV (exD W H zs SW SH bs x y m) := by
  induction m with
  | zero => show okV (-2147483648); exact ⟨by decide, by decide⟩
  | succ k ih =>
    have hp := pixAt_ok hI (x - ((k : Int) % SW - SW / 2)) (y - ((k : Int) / SW - SH / 2))
    unfold exD
    split
    · split
      · exact hp
      · exact ih
    · exact ih
set_option maxHeartbeats 400000 in
theorem dilate1_any (p q : Int) (w : World) : Calls Try.prog 68 #[.int .i64 p, .int .i64 q] w fun e w' => e = .returned (.int .i64 (if p < q then q else p)) ∧ Below w.heap.size w w' := by
  go_enter Try.func68, Try.ntmps68
  go_wp2
  all_goals
    go_ret
    exact ⟨rfl, by (repeat' (first | (with_reducible exact Below.refl _ _) | (with_reducible assumption) | (with_reducible refine belowThru ?_ (by assumption)) | (with_reducible refine belowAlloc ?_) | (with_reducible refine Below.setCell ?_ (by first | omega | (simp; done) | (simp; omega)) _) | (with_reducible refine Below.drew ?_) | (with_reducible refine below_drewN ?_ _)))⟩
set_option maxHeartbeats 2000000 in
theorem dilate_of (W H SW SH W2 H2 E2 : Int) (Z2 : List Int) (a a' : Option Addr) (n c m c' : Nat) (zs : List Int) (bs : List Bool) (w : World) (hR : Row w a n (iv zs)) (hT : Row w a' m (bv bs))
    (HX : Hid (∀ w, Row w a n (iv zs) → Row w a' m (bv bs) → Calls Try.prog 65 #[.agg #[.int .i64 W, .int .i64 H, .slice a n c], .agg #[.int .i64 SW, .int .i64 SH, .slice a' m c'], .func (.func 64) #[] #[], .int .i64 (-2147483648), .func (.func 68) #[] #[]] w (RetI W2 H2 Z2 E2 w))) :
    Calls Try.prog 25 #[.agg #[.int .i64 W, .int .i64 H, .slice a n c], .agg #[.int .i64 SW, .int .i64 SH, .slice a' m c']] w (RetI W2 H2 Z2 E2 w) := by
  have HR := Lib.hid hR
  have HT := Lib.hid hT
  clear hR hT
  go_enter Try.func25, Try.ntmps25
  go_wp2_with fail
  refine (HX.out _ (HR.out.later (by (repeat' (first | (with_reducible exact Below.refl _ _) | (with_reducible assumption) | (with_reducible refine belowThru ?_ (by assumption)) | (with_reducible refine belowAlloc ?_) | (with_reducible refine Below.setCell ?_ (by first | omega | (simp; done) | (simp; omega)) _) | (with_reducible refine Below.drew ?_) | (with_reducible refine below_drewN ?_ _))))) (HT.out.later (by (repeat' (first | (with_reducible exact Below.refl _ _) | (with_reducible assumption) | (with_reducible refine belowThru ?_ (by assumption)) | (with_reducible refine belowAlloc ?_) | (with_reducible refine Below.setCell ?_ (by first | omega | (simp; done) | (simp; omega)) _) | (with_reducible refine Below.drew ?_) | (with_reducible refine below_drewN ?_ _)))))).mono ?_
  rintro e w2 ⟨ax, nx, cx, rfl, hNx, hb⟩
  (first | ((with_reducible have k0 := Blk.later hb (Blk.alloc (Blk.alloc (Blk.new rfl)))); (with_reducible have k1 := Blk.later hb (Blk.alloc (Blk.new rfl))); (with_reducible have k2 := Blk.later hb (Blk.new rfl)); simp only [World.size_alloc] at k1 k2; obtain ⟨a0, b0⟩ := k0.read; have zl := k0.lt; obtain ⟨a1, b1⟩ := k1.read; have zl := k1.lt; obtain ⟨a2, b2⟩ := k2.read; have zl := k2.lt) | ((try (have zk := k0.lt; (first | ((with_reducible refine Blk.keepG hb k0 (fun h => ?_) ?_); (focus ((repeat' (first | (with_reducible assumption) | ((with_reducible refine Blk.new ?_); first | rfl | (simp; done)) | (with_reducible refine Blk.later (by assumption) ?_) | (with_reducible refine Blk.alloc ?_) | (with_reducible refine Blk.drewN ?_) | (with_reducible refine Blk.drew ?_) | (with_reducible refine Blk.other ?_ (by first | omega | (simp; done) | (simp; omega))))); done)); clear k0; intro k0) | (with_reducible replace k0 := Blk.later hb (Blk.set (Blk.set k0))) | (with_reducible replace k0 := Blk.later hb (Blk.set k0))); clear a0 b0; obtain ⟨a0, b0⟩ := k0.read; have zl := k0.lt)); (try (have zk := k1.lt; (first | ((with_reducible refine Blk.keepG hb k1 (fun h => ?_) ?_); (focus ((repeat' (first | (with_reducible assumption) | ((with_reducible refine Blk.new ?_); first | rfl | (simp; done)) | (with_reducible refine Blk.later (by assumption) ?_) | (with_reducible refine Blk.alloc ?_) | (with_reducible refine Blk.drewN ?_) | (with_reducible refine Blk.drew ?_) | (with_reducible refine Blk.other ?_ (by first | omega | (simp; done) | (simp; omega))))); done)); clear k1; intro k1) | (with_reducible replace k1 := Blk.later hb (Blk.set (Blk.set k1))) | (with_reducible replace k1 := Blk.later hb (Blk.set k1))); clear a1 b1; obtain ⟨a1, b1⟩ := k1.read; have zl := k1.lt)); (try (have zk := k2.lt; (first | ((with_reducible refine Blk.keepG hb k2 (fun h => ?_) ?_); (focus ((repeat' (first | (with_reducible assumption) | ((with_reducible refine Blk.new ?_); first | rfl | (simp; done)) | (with_reducible refine Blk.later (by assumption) ?_) | (with_reducible refine Blk.alloc ?_) | (with_reducible refine Blk.drewN ?_) | (with_reducible refine Blk.drew ?_) | (with_reducible refine Blk.other ?_ (by first | omega | (simp; done) | (simp; omega))))); done)); clear k2; intro k2) | (with_reducible replace k2 := Blk.later hb (Blk.set (Blk.set k2))) | (with_reducible replace k2 := Blk.later hb (Blk.set k2))); clear a2 b2; obtain ⟨a2, b2⟩ := k2.read; have zl := k2.lt))))
  have HX2 := Lib.hid (New.mono (B' := w.heap.size) (by first | omega | (simp; omega)) hNx)
  have HBw : Hid (Below w.heap.size w w2) := by show Below _ _ _; (repeat' (first | (with_reducible exact Below.refl _ _) | (with_reducible assumption) | (with_reducible refine belowThru ?_ (by assumption)) | (with_reducible refine belowAlloc ?_) | (with_reducible refine Below.setCell ?_ (by first | omega | (simp; done) | (simp; omega)) _) | (with_reducible refine Below.drew ?_) | (with_reducible refine below_drewN ?_ _)))
  clear hb hNx HX
  go_wp2_with fail
  have hBw := HBw.out
  exact bodyPost_ret (v := .tuple #[.agg #[.int .i64 W2, .int .i64 H2, .slice ax nx cx], .int .i64 E2]) (by simp only [results, Try.results25]; go_simp) rfl ⟨ax, nx, cx, rfl, New.set3 HX2.out k2 (by decide) _ _ _, by (repeat' (first | (with_reducible exact Below.refl _ _) | (with_reducible assumption) | (with_reducible refine belowThru ?_ (by assumption)) | (with_reducible refine belowAlloc ?_) | (with_reducible refine Below.setCell ?_ (by first | omega | (simp; done) | (simp; omega)) _) | (with_reducible refine Below.drew ?_) | (with_reducible refine below_drewN ?_ _)))⟩
end Go.Proofs.Ytghmjdmiaajbnaa
