/-
  Layer 9: the reference's Agree; before.
-/
import Derived.Test.YtnkpejinnbiocaaVSam
import Derived.Test.YtnkpejinnbiocaaVMdM
namespace Go.Proofs.Ytnkpejinnbiocaa
open Go.RowKit Go.Shelf
set_option linter.unusedVariables false
set_option linter.unusedSimpArgs false


set_option maxRecDepth 100000 in
set_option maxHeartbeats 16000000 in
theorem ragree_any (s p g l x y : Int) (hs : 1 ≤ s ∧ s ≤ 1000) (hp : 0 ≤ p ∧ p ≤ s - 1) (hx : -1099511627776 ≤ x ∧ x ≤ 1099511627776) (hy : -1099511627776 ≤ y ∧ y ≤ 1099511627776) (w : World) :
    Calls Try.prog 63 #[.agg #[.int .i64 s, .int .i64 p, .int .i64 g, .int .i64 l], .int .i64 x, .int .i64 y] w fun e w' => e = .returned (.bool (agrB s p x y)) ∧ Below w.heap.size w w' := by
  obtain ⟨s1, s2⟩ := hs; obtain ⟨p1, p2⟩ := hp
  obtain ⟨F, hF⟩ : ∃ F, s - p = F := ⟨_, rfl⟩
  obtain ⟨T, hT⟩ : ∃ T, s + p = T := ⟨_, rfl⟩
  have bF : 0 ≤ F ∧ F ≤ 2000 := by omega
  have bT : 0 ≤ T ∧ T ≤ 2000 := by omega
  have bX : ∀ a b : Int, -1099511627776 ≤ a ∧ a ≤ 1099511627776 → 0 ≤ b ∧ b ≤ 2000 → -2199023255552000 ≤ a * b ∧ a * b ≤ 2199023255552000 := fun a b h1 h2 => by
    have q1 := Int.mul_le_mul_of_nonneg_right h1.2 h2.1
    have q2 := Int.mul_le_mul_of_nonneg_right h1.1 h2.1
    omega
  obtain ⟨A, hA⟩ : ∃ A, x * F = A := ⟨_, rfl⟩
  obtain ⟨B, hB⟩ : ∃ B, y * T = B := ⟨_, rfl⟩
  obtain ⟨C, hC⟩ : ∃ C, y * F = C := ⟨_, rfl⟩
  obtain ⟨D, hD⟩ : ∃ D, x * T = D := ⟨_, rfl⟩
  have bA := bX x F hx bF; have bB := bX y T hy bT; have bC := bX y F hy bF; have bD := bX x T hx bT
  rw [hA] at bA; rw [hB] at bB; rw [hC] at bC; rw [hD] at bD
  obtain ⟨R, hR⟩ : ∃ R, agrB s p x y = R := ⟨_, rfl⟩
  have hRe : (decide (A ≤ B) && decide (C ≤ D)) = R := by
    rw [← hR, ← hA, ← hB, ← hC, ← hD, ← hF, ← hT]
    unfold agrB
    rw [Bool.decide_and]
  rw [hR]
  have z1 : IntKind.i64.wrap (s - p) = F := by rw [hF]; exact IntWalk.i64_in _ (by omega)
  have z2 : IntKind.i64.wrap (s + p) = T := by rw [hT]; exact IntWalk.i64_in _ (by omega)
  have z3 : IntKind.i64.wrap (x * F) = A := by rw [hA]; exact IntWalk.i64_in _ (by omega)
  have z4 : IntKind.i64.wrap (y * T) = B := by rw [hB]; exact IntWalk.i64_in _ (by omega)
  have z5 : IntKind.i64.wrap (y * F) = C := by rw [hC]; exact IntWalk.i64_in _ (by omega)
  have z6 : IntKind.i64.wrap (x * T) = D := by rw [hD]; exact IntWalk.i64_in _ (by omega)
  clear hF hT hA hB hC hD bF bT bX bA bB bC bD hR hx hy s1 s2 p1 p2
  by_cases q1 : A ≤ B
  · have d1 : decide (A ≤ B) = true := decide_eq_true q1
    rw [d1, Bool.true_and] at hRe
    clear q1
    go_enter Try.func63, Try.ntmps63
    go_wp2_with fail
    have k0 : Blk (w.alloc (.cells #[.int .i64 s, .int .i64 p, .int .i64 g, .int .i64 l] 23)) w.heap.size #[.int .i64 s, .int .i64 p, .int .i64 g, .int .i64 l] 23 := Blk.new rfl
    obtain ⟨a0, b0⟩ := k0.read
    have y0 := k0.lt
    go_quiet (fail)
    go_wp2_with fail
    go_ret
    exact ⟨rfl, by (repeat' (first | (with_reducible exact Below.refl _ _) | (with_reducible assumption) | (with_reducible refine belowThru ?_ (by assumption)) | (with_reducible refine belowAlloc ?_) | (with_reducible refine Below.setCell ?_ (by first | omega | (simp; done) | (simp; omega)) _) | (with_reducible refine Below.drew ?_) | (with_reducible refine below_drewN ?_ _)))⟩
  · have d1 : decide (A ≤ B) = false := decide_eq_false q1
    rw [d1, Bool.false_and] at hRe
    subst hRe
    clear q1
    go_enter Try.func63, Try.ntmps63
    go_wp2_with fail
    have k0 : Blk (w.alloc (.cells #[.int .i64 s, .int .i64 p, .int .i64 g, .int .i64 l] 23)) w.heap.size #[.int .i64 s, .int .i64 p, .int .i64 g, .int .i64 l] 23 := Blk.new rfl
    obtain ⟨a0, b0⟩ := k0.read
    have y0 := k0.lt
    go_quiet (fail)
    go_wp2_with fail
    go_ret
    exact ⟨rfl, by (repeat' (first | (with_reducible exact Below.refl _ _) | (with_reducible assumption) | (with_reducible refine belowThru ?_ (by assumption)) | (with_reducible refine belowAlloc ?_) | (with_reducible refine Below.setCell ?_ (by first | omega | (simp; done) | (simp; omega)) _) | (with_reducible refine Below.drew ?_) | (with_reducible refine below_drewN ?_ _)))⟩
theorem lexB_at : ∀ (i : Nat) (y z : List Int) (u v : Int), lexB y z → (∀ j, j < i → y[j]? = z[j]?) → y[i]? = some u → z[i]? = some v → u ≠ v → u < v := by
  intro i
  induction i with
  | zero =>
    intro y z u v h _ hu hv hne
    match y, z, h with
    | a :: ys, b :: zs, h =>
      cases hu; cases hv
      rcases h with h | ⟨h, -⟩
      · exact h
      · exact absurd h hne
  | succ i ih =>
    intro y z u v h hj hu hv hne
    match y, z, h with
    | a :: ys, b :: zs, h =>
      have h0 := hj 0 (by omega)
      simp only [List.getElem?_cons_zero, Option.some.injEq] at h0
      rcases h with h | ⟨-, h⟩
      · omega
      · exact ih ys zs u v h (fun j hj' => by have := hj (j + 1) (by omega); simpa using this) (by simpa using hu) (by simpa using hv) hne
theorem lexB_ne : ∀ (y z : List Int), lexB y z → ¬ ∀ j, j < y.length → y[j]? = z[j]? := by
  intro y
  induction y with
  | nil => intro z h; cases h
  | cons a ys ih =>
    intro z h
    match z, h with
    | b :: zs, h =>
      intro hj
      have h0 := hj 0 (by simp)
      simp only [List.getElem?_cons_zero, Option.some.injEq] at h0
      rcases h with h | ⟨-, h⟩
      · omega
      · exact ih zs h (fun j hj' => by have := hj (j + 1) (by simp; omega); simpa using this)
end Go.Proofs.Ytnkpejinnbiocaa
