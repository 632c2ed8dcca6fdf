/-
  Layer 2: point operations: which are valid, what they turn a value into.
-/
import Derived.Test.YtefphhhmibnjiaaIWarps
namespace Go.Proofs.Ytefphhhmibnjiaa
open Go.RowKit
set_option linter.unusedVariables false
set_option linter.unusedSimpArgs false

/-- A point operation that is valid. -/
def okP (pM pA pD pL pH : Int) : Prop := (okFa pM ∧ okV pA) ∧ (1 ≤ pD ∧ pD ≤ 65536) ∧ okV pL ∧ okV pH ∧ pL ≤ pH
instance (pM pA pD pL pH : Int) : Decidable (okP pM pA pD pL pH) := inferInstanceAs (Decidable (_ ∧ _))
/-- What it turns a value into. -/
def ptV (pM pA pD pL pH v : Int) : Int := inR ((pM * v + pA) / pD) pL pH
theorem ptV_ok {pM pA pD pL pH : Int} (h : okP pM pA pD pL pH) (v : Int) : okV (ptV pM pA pD pL pH v) := by
  obtain ⟨-, -, ⟨l0, l1⟩, ⟨h0, h1⟩, hl⟩ := h
  unfold ptV inR okV; omega
theorem mul_fv {m v : Int} (hm : okFa m) (hv : okV v) : -140737488355328 ≤ m * v ∧ m * v ≤ 140737488355328 := by
  have h := Int.natAbs_mul m v
  have h1 : m.natAbs ≤ 65536 := by unfold okFa at hm; omega
  have h2 : v.natAbs ≤ 2147483648 := by unfold okV at hv; omega
  have h3 := Nat.mul_le_mul h1 h2
  omega
set_option maxRecDepth 100000 in
set_option maxHeartbeats 4000000 in
theorem isPoint_any (pM pA pD pL pH : Int) (w : World) :
    Calls Try.prog 64 #[.agg #[.int .i64 pM, .int .i64 pA, .int .i64 pD, .int .i64 pL, .int .i64 pH]] w fun e w' => e = .returned (.bool (decide (okP pM pA pD pL pH))) ∧ Below w.heap.size w w' := by
  have hc : (decide (okFa pM) = false ∧ decide (okP pM pA pD pL pH) = false) ∨
      (decide (okFa pM) = true ∧ decide (okV pA) = false ∧ decide (okP pM pA pD pL pH) = false) ∨
      (decide (okFa pM) = true ∧ decide (okV pA) = true ∧ pD < 1 ∧ decide (okP pM pA pD pL pH) = false) ∨
      (decide (okFa pM) = true ∧ decide (okV pA) = true ∧ 1 ≤ pD ∧ 65536 < pD ∧ decide (okP pM pA pD pL pH) = false) ∨
      (decide (okFa pM) = true ∧ decide (okV pA) = true ∧ 1 ≤ pD ∧ pD ≤ 65536 ∧ decide (okV pL) = false ∧ decide (okP pM pA pD pL pH) = false) ∨
      (decide (okFa pM) = true ∧ decide (okV pA) = true ∧ 1 ≤ pD ∧ pD ≤ 65536 ∧ decide (okV pL) = true ∧ decide (okV pH) = false ∧ decide (okP pM pA pD pL pH) = false) ∨
      (decide (okFa pM) = true ∧ decide (okV pA) = true ∧ 1 ≤ pD ∧ pD ≤ 65536 ∧ decide (okV pL) = true ∧ decide (okV pH) = true ∧ ¬ pL ≤ pH ∧ decide (okP pM pA pD pL pH) = false) ∨
      (decide (okFa pM) = true ∧ decide (okV pA) = true ∧ 1 ≤ pD ∧ pD ≤ 65536 ∧ decide (okV pL) = true ∧ decide (okV pH) = true ∧ pL ≤ pH ∧ decide (okP pM pA pD pL pH) = true) := by
    by_cases q0 : okFa pM
    · skip
      by_cases q1 : okV pA
      · skip
        by_cases q2 : 1 ≤ pD
        · skip
          by_cases q3 : pD ≤ 65536
          · skip
            by_cases q4 : okV pL
            · skip
              by_cases q5 : okV pH
              · skip
                by_cases q6 : pL ≤ pH
                · skip
                  exact .inr (.inr (.inr (.inr (.inr (.inr (.inr (⟨decide_eq_true q0, decide_eq_true q1, q2, q3, decide_eq_true q4, decide_eq_true q5, q6, decide_eq_true ⟨⟨q0, q1⟩, ⟨q2, q3⟩, q4, q5, q6⟩⟩)))))))
                · exact .inr (.inr (.inr (.inr (.inr (.inr (.inl ⟨decide_eq_true q0, decide_eq_true q1, q2, q3, decide_eq_true q4, decide_eq_true q5, q6, decide_eq_false (fun h => q6 h.2.2.2.2)⟩))))))
              · exact .inr (.inr (.inr (.inr (.inr (.inl ⟨decide_eq_true q0, decide_eq_true q1, q2, q3, decide_eq_true q4, decide_eq_false q5, decide_eq_false (fun h => q5 h.2.2.2.1)⟩)))))
            · exact .inr (.inr (.inr (.inr (.inl ⟨decide_eq_true q0, decide_eq_true q1, q2, q3, decide_eq_false q4, decide_eq_false (fun h => q4 h.2.2.1)⟩))))
          · exact .inr (.inr (.inr (.inl ⟨decide_eq_true q0, decide_eq_true q1, q2, (by omega), decide_eq_false (fun h => q3 h.2.1.2)⟩)))
        · exact .inr (.inr (.inl ⟨decide_eq_true q0, decide_eq_true q1, (by omega), decide_eq_false (fun h => q2 h.2.1.1)⟩))
      · exact .inr (.inl ⟨decide_eq_true q0, decide_eq_false q1, decide_eq_false (fun h => q1 h.1.2)⟩)
    · exact .inl ⟨decide_eq_false q0, decide_eq_false (fun h => q0 h.1.1)⟩
  rcases hc with ⟨d1, he⟩ | ⟨d1, d2, he⟩ | ⟨d1, d2, d3, he⟩ | ⟨d1, d2, d3, d4, he⟩ | ⟨d1, d2, d3, d4, d5, he⟩ | ⟨d1, d2, d3, d4, d5, d6, he⟩ | ⟨d1, d2, d3, d4, d5, d6, d7, he⟩ | ⟨d1, d2, d3, d4, d5, d6, d7, he⟩
  all_goals
    have HE := Lib.hid he
    clear he
    go_enter Try.func64, Try.ntmps64
    go_wp2_with (first
      | (go_at_call 121; (with_reducible refine (within_fa _ _).mono ?_); rintro e w1 ⟨rfl, rfl⟩)
      | (go_at_call 92; (with_reducible refine (isValue_any _ _).mono ?_); rintro e w1 ⟨rfl, rfl⟩))
    go_ret
    exact ⟨by rw [HE.out]; first | rfl | simp_all, by (repeat' (first | (with_reducible exact Below.refl _ _) | (with_reducible assumption) | (with_reducible refine belowThru ?_ (by assumption)) | (with_reducible refine belowAlloc ?_) | (with_reducible refine Below.setCell ?_ (by first | omega | (simp; done) | (simp; omega)) _) | (with_reducible refine Below.drew ?_) | (with_reducible refine below_drewN ?_ _)))⟩

set_option maxRecDepth 100000 in
set_option maxHeartbeats 4000000 in
theorem rvalidPoint_any (pM pA pD pL pH : Int) (w : World) :
    Calls Try.prog 96 #[.agg #[.int .i64 pM, .int .i64 pA, .int .i64 pD, .int .i64 pL, .int .i64 pH]] w fun e w' => e = .returned (.bool (decide (okP pM pA pD pL pH))) ∧ Below w.heap.size w w' := by
  have hc : (decide (okFa pM) = false ∧ decide (okP pM pA pD pL pH) = false) ∨
      (decide (okFa pM) = true ∧ decide (okV pA) = false ∧ decide (okP pM pA pD pL pH) = false) ∨
      (decide (okFa pM) = true ∧ decide (okV pA) = true ∧ decide (1 ≤ pD ∧ pD ≤ 65536) = false ∧ decide (okP pM pA pD pL pH) = false) ∨
      (decide (okFa pM) = true ∧ decide (okV pA) = true ∧ decide (1 ≤ pD ∧ pD ≤ 65536) = true ∧ ¬ -2147483648 ≤ pL ∧ decide (okP pM pA pD pL pH) = false) ∨
      (decide (okFa pM) = true ∧ decide (okV pA) = true ∧ decide (1 ≤ pD ∧ pD ≤ 65536) = true ∧ -2147483648 ≤ pL ∧ ¬ pL ≤ pH ∧ decide (okP pM pA pD pL pH) = false) ∨
      (decide (okFa pM) = true ∧ decide (okV pA) = true ∧ decide (1 ≤ pD ∧ pD ≤ 65536) = true ∧ -2147483648 ≤ pL ∧ pL ≤ pH ∧ ¬ pH ≤ 2147483648 ∧ decide (okP pM pA pD pL pH) = false) ∨
      (decide (okFa pM) = true ∧ decide (okV pA) = true ∧ decide (1 ≤ pD ∧ pD ≤ 65536) = true ∧ -2147483648 ≤ pL ∧ pL ≤ pH ∧ pH ≤ 2147483648 ∧ decide (okP pM pA pD pL pH) = true) := by
    by_cases q0 : okFa pM
    · skip
      by_cases q1 : okV pA
      · skip
        by_cases q2 : 1 ≤ pD ∧ pD ≤ 65536
        · skip
          by_cases q3 : -2147483648 ≤ pL
          · skip
            by_cases q4 : pL ≤ pH
            · skip
              by_cases q5 : pH ≤ 2147483648
              · skip
                exact .inr (.inr (.inr (.inr (.inr (.inr (⟨decide_eq_true q0, decide_eq_true q1, decide_eq_true q2, q3, q4, q5, decide_eq_true ⟨⟨q0, q1⟩, q2, ⟨by omega, by omega⟩, ⟨by omega, by omega⟩, q4⟩⟩))))))
              · exact .inr (.inr (.inr (.inr (.inr (.inl ⟨decide_eq_true q0, decide_eq_true q1, decide_eq_true q2, q3, q4, q5, decide_eq_false (fun h => q5 h.2.2.2.1.2)⟩)))))
            · exact .inr (.inr (.inr (.inr (.inl ⟨decide_eq_true q0, decide_eq_true q1, decide_eq_true q2, q3, q4, decide_eq_false (fun h => q4 h.2.2.2.2)⟩))))
          · exact .inr (.inr (.inr (.inl ⟨decide_eq_true q0, decide_eq_true q1, decide_eq_true q2, q3, decide_eq_false (fun h => q3 h.2.2.1.1)⟩)))
        · exact .inr (.inr (.inl ⟨decide_eq_true q0, decide_eq_true q1, decide_eq_false q2, decide_eq_false (fun h => q2 h.2.1)⟩))
      · exact .inr (.inl ⟨decide_eq_true q0, decide_eq_false q1, decide_eq_false (fun h => q1 h.1.2)⟩)
    · exact .inl ⟨decide_eq_false q0, decide_eq_false (fun h => q0 h.1.1)⟩
  have HD : Hid (∀ b, decide (1 ≤ pD ∧ pD ≤ 65536) = b → ∀ w, Calls Try.prog 115 #[.int .i64 pD, .int .i64 1, .int .i64 65536] w fun e w' => e = .returned (.bool b) ∧ w = w') :=
    fun b hb w => rwithin_any pD 1 65536 b (by rw [← hb]; exact decide_eq_true_iff) w
  rcases hc with ⟨d1, he⟩ | ⟨d1, d2, he⟩ | ⟨d1, d2, d3, he⟩ | ⟨d1, d2, d3, d4, he⟩ | ⟨d1, d2, d3, d4, d5, he⟩ | ⟨d1, d2, d3, d4, d5, d6, he⟩ | ⟨d1, d2, d3, d4, d5, d6, he⟩
  all_goals
    have HE := Lib.hid he
    clear he
    try have HD' := Lib.hid (HD.out _ d3)
    clear HD
    try clear d3
    go_enter Try.func96, Try.ntmps96
    go_wp2_with (first
      | (go_at_call 115; (with_reducible refine (rwithin_fa _ _).mono ?_); rintro e w1 ⟨rfl, rfl⟩)
      | (go_at_call 115; (with_reducible refine (rvalue_any _ _).mono ?_); rintro e w1 ⟨rfl, rfl⟩)
      | (go_at_call 115; (with_reducible refine (HD'.out _).mono ?_); rintro e w1 ⟨rfl, rfl⟩))
    go_ret
    exact ⟨by rw [HE.out]; first | rfl | simp_all, by (repeat' (first | (with_reducible exact Below.refl _ _) | (with_reducible assumption) | (with_reducible refine belowThru ?_ (by assumption)) | (with_reducible refine belowAlloc ?_) | (with_reducible refine Below.setCell ?_ (by first | omega | (simp; done) | (simp; omega)) _) | (with_reducible refine Below.drew ?_) | (with_reducible refine below_drewN ?_ _)))⟩

set_option maxRecDepth 100000 in
set_option maxHeartbeats 4000000 in
theorem point1_any (W H pM pA pD pL pH x y : Int) (a : Option Addr) (n c : Nat) (zs : List Int) (hI : okI W H zs) (hP : okP pM pA pD pL pH) (hp : inP W H x y) (bp bm : Nat) (w : World)
    (hR : Row w a n (iv zs)) (kp : Blk w bp #[.int .i64 pM, .int .i64 pA, .int .i64 pD, .int .i64 pL, .int .i64 pH] 30) (km : Blk w bm #[.int .i64 W, .int .i64 H, .slice a n c] 24) :
    Calls Try.prog 66 #[.agg #[.int .i64 x, .int .i64 y], .pointer (some ⟨bp, 0, none⟩), .pointer (some ⟨bm, 0, none⟩)] w fun e w' => e = .returned (.int .i64 (ptV pM pA pD pL pH (pixAt W zs x y))) ∧ Below w.heap.size w w' := by
  have hv := okI_at hI hp
  have HA := Lib.hid (fun w hR => at_z W H x y a n c zs hI hp w hR)
  obtain ⟨v, hve⟩ : ∃ v, v = pixAt W zs x y := ⟨_, rfl⟩
  rw [← hve] at hv HA ⊢
  clear hve
  obtain ⟨⟨hM, hA1⟩, ⟨d0, d1⟩, -⟩ := hP
  have m1 := mul_fv hM hv
  obtain ⟨A0, A1⟩ := hA1
  have v1 : IntKind.i64.wrap (pM * v) = pM * v := IntWalk.i64_in _ (by omega)
  have v2 : IntKind.i64.wrap (pM * v + pA) = pM * v + pA := IntWalk.i64_in _ (by omega)
  have HQ := Lib.hid (quotient_any (pM * v + pA) pD d0 (by omega) (by omega) (by omega))
  have HR := Lib.hid hR
  have hmx : Try.prog.follows .mixedOrders = true := by kernel_rfl
  have z1 := kp.lt; have z2 := km.lt
  unfold ptV
  clear hR hI hp hM hv d0 d1 A0 A1 m1
  go_enter Try.func66, Try.ntmps66
  go_wp2
  have k0 : Blk (w.alloc (.cells #[.int .i64 x, .int .i64 y] 94)) w.heap.size #[.int .i64 x, .int .i64 y] 94 := Blk.new rfl
  have k1 := kp.alloc (o := .cells #[.int .i64 x, .int .i64 y] 94)
  have k2 := km.alloc (o := .cells #[.int .i64 x, .int .i64 y] 94)
  have hB : Below w.heap.size w (w.alloc (.cells #[.int .i64 x, .int .i64 y] 94)) := by (repeat' (first | (with_reducible exact Below.refl _ _) | (with_reducible assumption) | (with_reducible refine belowThru ?_ (by assumption)) | (with_reducible refine belowAlloc ?_) | (with_reducible refine Below.setCell ?_ (by first | omega | (simp; done) | (simp; omega)) _) | (with_reducible refine Below.drew ?_) | (with_reducible refine below_drewN ?_ _)))
  obtain ⟨W0, hW0⟩ : ∃ W0, w.alloc (.cells #[.int .i64 x, .int .i64 y] 94) = W0 := ⟨_, rfl⟩
  rw [hW0] at k0 k1 k2 hB ⊢
  clear hW0 kp km
  refine wp_region_held_drew (S := fun w' => (Blk w' w.heap.size #[.int .i64 x, .int .i64 y] 94 ∧ (∀ i : Nat, w'.cell? ⟨w.heap.size, i, none⟩ = (#[.int .i64 x, .int .i64 y] : Array Value)[i]?)) ∧ (Blk w' bp #[.int .i64 pM, .int .i64 pA, .int .i64 pD, .int .i64 pL, .int .i64 pH] 30 ∧ (∀ i : Nat, w'.cell? ⟨bp, i, none⟩ = (#[.int .i64 pM, .int .i64 pA, .int .i64 pD, .int .i64 pL, .int .i64 pH] : Array Value)[i]?)) ∧ (Blk w' bm #[.int .i64 W, .int .i64 H, .slice a n c] 24 ∧ (∀ i : Nat, w'.cell? ⟨bm, i, none⟩ = (#[.int .i64 W, .int .i64 H, .slice a n c] : Array Value)[i]?)) ∧ Below w.heap.size w w') hmx ⟨k0.drew.full, k1.drew.full, k2.drew.full, hB.drew⟩ (fun hHeld => ?_)
  refine wpAnyH_take (i := 0) (v := ?_) rfl (by kernel_rfl) (by kernel_rfl) (by kernel_rfl) (fun _ _ _ h => h) (Or.inl ⟨by rfl, ?hT0⟩) (by assumption) ?_
  case hT0 => ((intro w hSw; (try dsimp only at hSw); go_simp); try (with_reducible rfl))
  try simp only [Act.put, List.setIfInBounds_toArray, List.set_cons_zero, List.set_cons_succ]
  refine wpAnyH_take (i := 1) (v := ?_) rfl (by kernel_rfl) (by kernel_rfl) (by kernel_rfl) (fun _ _ _ h => h) (Or.inl ⟨by rfl, ?hT1⟩) (by assumption) ?_
  case hT1 => ((intro w hSw; (try dsimp only at hSw); go_simp); try (with_reducible rfl))
  try simp only [Act.put, List.setIfInBounds_toArray, List.set_cons_zero, List.set_cons_succ]
  refine wpAnyH_take (i := 2) (v := ?_) rfl (by kernel_rfl) (by kernel_rfl) (by kernel_rfl) (fun _ _ _ h => h) (Or.inl ⟨by rfl, ?hT2⟩) (by assumption) ?_
  case hT2 => ((intro w hSw; (try dsimp only at hSw); go_simp); try (with_reducible rfl))
  try simp only [Act.put, List.setIfInBounds_toArray, List.set_cons_zero, List.set_cons_succ]
  refine wpAnyH_take (i := 3) (v := ?_) rfl (by kernel_rfl) (by kernel_rfl) (by kernel_rfl) (fun _ _ _ h => h) (Or.inl ⟨by rfl, ?hT3⟩) (by assumption) ?_
  case hT3 => ((intro w hSw; (try dsimp only at hSw); go_simp); try (with_reducible rfl))
  try simp only [Act.put, List.setIfInBounds_toArray, List.set_cons_zero, List.set_cons_succ]
  refine wpAnyH_take (i := 6) (v := ?_) rfl (by kernel_rfl) (by kernel_rfl) (by kernel_rfl) (fun _ _ _ h => h) (Or.inl ⟨by rfl, ?hT4⟩) (by assumption) ?_
  case hT4 => ((intro w hSw; (try dsimp only at hSw); go_simp); try (with_reducible rfl))
  try simp only [Act.put, List.setIfInBounds_toArray, List.set_cons_zero, List.set_cons_succ]
  refine wpAnyH_take (i := 7) (v := ?_) rfl (by kernel_rfl) (by kernel_rfl) (by kernel_rfl) (fun _ _ _ h => h) (Or.inl ⟨by rfl, ?hT5⟩) (by assumption) ?_
  case hT5 => ((intro w hSw; (try dsimp only at hSw); go_simp); try (with_reducible rfl))
  try simp only [Act.put, List.setIfInBounds_toArray, List.set_cons_zero, List.set_cons_succ]
  refine wpAnyH_take (i := 9) (v := ?_) rfl (by kernel_rfl) (by kernel_rfl) (by kernel_rfl) (fun _ _ _ h => h) (Or.inl ⟨by rfl, ?hT6⟩) (by assumption) ?_
  case hT6 => ((intro w hSw; (try dsimp only at hSw); go_simp); try (with_reducible rfl))
  try simp only [Act.put, List.setIfInBounds_toArray, List.set_cons_zero, List.set_cons_succ]
  refine wpAnyH_take (i := 10) (v := ?_) rfl (by kernel_rfl) (by kernel_rfl) (by kernel_rfl) (fun _ _ _ h => h) (Or.inl ⟨by rfl, ?hT7⟩) (by assumption) ?_
  case hT7 => ((intro w hSw; (try dsimp only at hSw); go_simp); try (with_reducible rfl))
  try simp only [Act.put, List.setIfInBounds_toArray, List.set_cons_zero, List.set_cons_succ]
  refine wpAnyH_take (i := 12) (v := ?_) rfl (by kernel_rfl) (by kernel_rfl) (by kernel_rfl) (fun _ _ _ h => h) (Or.inl ⟨by rfl, ?hT8⟩) (by assumption) ?_
  case hT8 => ((intro w hSw; (try dsimp only at hSw); go_simp); try (with_reducible rfl))
  try simp only [Act.put, List.setIfInBounds_toArray, List.set_cons_zero, List.set_cons_succ]
  refine wpAnyH_take (i := 13) (v := ?_) rfl (by kernel_rfl) (by kernel_rfl) (by kernel_rfl) (fun _ _ _ h => h) (Or.inl ⟨by rfl, ?hT9⟩) (by assumption) ?_
  case hT9 => ((intro w hSw; (try dsimp only at hSw); go_simp); try (with_reducible rfl))
  try simp only [Act.put, List.setIfInBounds_toArray, List.set_cons_zero, List.set_cons_succ]
  refine wpAnyH_take (i := 14) (v := ?_) rfl (by kernel_rfl) (by kernel_rfl) (by kernel_rfl) (fun _ _ _ h => h) (Or.inl ⟨by rfl, ?hT10⟩) (by assumption) ?_
  case hT10 => ((intro w hSw; (try dsimp only at hSw); go_simp); try (with_reducible rfl))
  try simp only [Act.put, List.setIfInBounds_toArray, List.set_cons_zero, List.set_cons_succ]
  refine wpAnyH_take (i := 15) (v := ?_) rfl (by kernel_rfl) (by kernel_rfl) (by kernel_rfl) (fun _ _ _ h => h) (Or.inl ⟨by rfl, ?hT11⟩) (by assumption) ?_
  case hT11 => ((intro w hSw; (try dsimp only at hSw); go_simp); try (with_reducible rfl))
  try simp only [Act.put, List.setIfInBounds_toArray, List.set_cons_zero, List.set_cons_succ]
  refine wpAnyH_ready (rs := [4]) (by kernel_rfl) (by simp) ?_
  refine AllReadyH.cons rfl (fun K hK => ?_) AllReadyH.nil
  go_simp
  (go_at_call 69; (with_reducible refine (HA.out _ (HR.out.later hB.drew)).mono ?_); rintro e wA ⟨rfl, hb⟩)
  refine hK.out _ _ ?_ (fun hHeldN => ?_)
  · (try dsimp only); (((first | (apply hold3; (focus assumption); intro p0 p1 p2 pB) | skip); refine ⟨Blk.full ?_, Blk.full ?_, Blk.full ?_, ?_⟩; all_goals (first | ((repeat' (first | (with_reducible assumption) | ((with_reducible refine Blk.new ?_); first | rfl | (simp; done)) | (with_reducible refine Blk.later (by assumption) ?_) | (with_reducible refine Blk.alloc ?_) | (with_reducible refine Blk.drewN ?_) | (with_reducible refine Blk.drew ?_) | (with_reducible refine Blk.other ?_ (by first | omega | (simp; done) | (simp; omega))))); done) | ((repeat' (first | (with_reducible exact Below.refl _ _) | (with_reducible assumption) | (with_reducible refine belowThru ?_ (by assumption)) | (with_reducible refine belowAlloc ?_) | (with_reducible refine Below.setCell ?_ (by first | omega | (simp; done) | (simp; omega)) _) | (with_reducible refine Below.drew ?_) | (with_reducible refine below_drewN ?_ _))); done))))
  clear hK K hHeld
  have hHeld := hHeldN
  clear hHeldN
  try simp only [Act.put, List.setIfInBounds_toArray, List.set_cons_zero, List.set_cons_succ]
  clear hb
  refine wpAnyH_take (i := 5) (v := ?_) rfl (by kernel_rfl) (by kernel_rfl) (by kernel_rfl) (fun _ _ _ h => h) (Or.inl ⟨by rfl, ?hT12⟩) (by assumption) ?_
  case hT12 => ((intro w hSw; (try dsimp only at hSw); go_simp); try (with_reducible rfl))
  try simp only [Act.put, List.setIfInBounds_toArray, List.set_cons_zero, List.set_cons_succ]
  refine wpAnyH_take (i := 8) (v := ?_) rfl (by kernel_rfl) (by kernel_rfl) (by kernel_rfl) (fun _ _ _ h => h) (Or.inl ⟨by rfl, ?hT13⟩) (by assumption) ?_
  case hT13 => ((intro w hSw; (try dsimp only at hSw); go_simp); try (with_reducible rfl))
  try simp only [Act.put, List.setIfInBounds_toArray, List.set_cons_zero, List.set_cons_succ]
  refine wpAnyH_ready (rs := [11]) (by kernel_rfl) (by simp) ?_
  refine AllReadyH.cons rfl (fun K hK => ?_) AllReadyH.nil
  go_simp
  (go_at_call 68; (with_reducible refine (HQ.out _).mono ?_); rintro e wB ⟨rfl, rfl⟩)
  refine hK.out _ _ ?_ (fun hHeldN => ?_)
  · (try dsimp only); (((first | (apply hold3; (focus assumption); intro p0 p1 p2 pB) | skip); refine ⟨Blk.full ?_, Blk.full ?_, Blk.full ?_, ?_⟩; all_goals (first | ((repeat' (first | (with_reducible assumption) | ((with_reducible refine Blk.new ?_); first | rfl | (simp; done)) | (with_reducible refine Blk.later (by assumption) ?_) | (with_reducible refine Blk.alloc ?_) | (with_reducible refine Blk.drewN ?_) | (with_reducible refine Blk.drew ?_) | (with_reducible refine Blk.other ?_ (by first | omega | (simp; done) | (simp; omega))))); done) | ((repeat' (first | (with_reducible exact Below.refl _ _) | (with_reducible assumption) | (with_reducible refine belowThru ?_ (by assumption)) | (with_reducible refine belowAlloc ?_) | (with_reducible refine Below.setCell ?_ (by first | omega | (simp; done) | (simp; omega)) _) | (with_reducible refine Below.drew ?_) | (with_reducible refine below_drewN ?_ _))); done))))
  clear hK K hHeld
  have hHeld := hHeldN
  clear hHeldN
  try simp only [Act.put, List.setIfInBounds_toArray, List.set_cons_zero, List.set_cons_succ]
  refine wpAnyH_ready (rs := [16]) (by kernel_rfl) (by simp) ?_
  refine AllReadyH.cons rfl (fun K hK => ?_) AllReadyH.nil
  go_simp
  (go_at_call 67; (with_reducible refine (bring_any _ _ _ _).mono ?_); rintro e wC ⟨rfl, rfl⟩)
  refine hK.out _ _ ?_ (fun hHeldN => ?_)
  · (try dsimp only); (((first | (apply hold3; (focus assumption); intro p0 p1 p2 pB) | skip); refine ⟨Blk.full ?_, Blk.full ?_, Blk.full ?_, ?_⟩; all_goals (first | ((repeat' (first | (with_reducible assumption) | ((with_reducible refine Blk.new ?_); first | rfl | (simp; done)) | (with_reducible refine Blk.later (by assumption) ?_) | (with_reducible refine Blk.alloc ?_) | (with_reducible refine Blk.drewN ?_) | (with_reducible refine Blk.drew ?_) | (with_reducible refine Blk.other ?_ (by first | omega | (simp; done) | (simp; omega))))); done) | ((repeat' (first | (with_reducible exact Below.refl _ _) | (with_reducible assumption) | (with_reducible refine belowThru ?_ (by assumption)) | (with_reducible refine belowAlloc ?_) | (with_reducible refine Below.setCell ?_ (by first | omega | (simp; done) | (simp; omega)) _) | (with_reducible refine Below.drew ?_) | (with_reducible refine below_drewN ?_ _))); done))))
  clear hK K hHeld
  have hHeld := hHeldN
  clear hHeldN
  try simp only [Act.put, List.setIfInBounds_toArray, List.set_cons_zero, List.set_cons_succ]
  refine wpAnyH_ready (rs := [17]) (by kernel_rfl) (by simp) ?_
  refine AllReadyH.cons rfl (fun K hK => ?_) AllReadyH.nil
  go_simp
  refine hK.out _ _ ?_ (fun hHeldN => ?_)
  · (try dsimp only); (((first | (apply hold3; (focus assumption); intro p0 p1 p2 pB) | skip); refine ⟨Blk.full ?_, Blk.full ?_, Blk.full ?_, ?_⟩; all_goals (first | ((repeat' (first | (with_reducible assumption) | ((with_reducible refine Blk.new ?_); first | rfl | (simp; done)) | (with_reducible refine Blk.later (by assumption) ?_) | (with_reducible refine Blk.alloc ?_) | (with_reducible refine Blk.drewN ?_) | (with_reducible refine Blk.drew ?_) | (with_reducible refine Blk.other ?_ (by first | omega | (simp; done) | (simp; omega))))); done) | ((repeat' (first | (with_reducible exact Below.refl _ _) | (with_reducible assumption) | (with_reducible refine belowThru ?_ (by assumption)) | (with_reducible refine belowAlloc ?_) | (with_reducible refine Below.setCell ?_ (by first | omega | (simp; done) | (simp; omega)) _) | (with_reducible refine Below.drew ?_) | (with_reducible refine below_drewN ?_ _))); done))))
  clear hK K hHeld
  have hHeld := hHeldN
  clear hHeldN
  try simp only [Act.put, List.setIfInBounds_toArray, List.set_cons_zero, List.set_cons_succ]
  refine wpAnyH_done (by kernel_rfl) ?_ _
  obtain ⟨-, -, -, qB⟩ := hHeld
  go_wp2
  go_ret
  exact ⟨rfl, qB⟩
end Go.Proofs.Ytefphhhmibnjiaa
