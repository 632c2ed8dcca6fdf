/-
  Layer 9: a count of the true belt.
-/
import Derived.Test.YtbcnoklaaigclaaVCaC
import Derived.Test.YtbcnoklaaigclaaVCaE
namespace Go.Proofs.Ytbcnoklaaigclaa
open Go.RowKit Go.Shelf
set_option linter.unusedVariables false
set_option linter.unusedSimpArgs false


theorem drop1_take {α : Type} (x : α) (xs : List α) (i : Nat) : ((x :: xs).take (i + 1)).drop 1 = xs.take i := by simp
theorem front_bd {s p g l c nx : Int} {xs : List Sn} {ys : List Th} (ho : okT s p g l c nx xs) (hr : relL s p l c xs ys) (hc : c ≤ 100000) (i : Nat) (y : Th) (hy : ys[i]? = some y) : (-100000000000 ≤ y.2.1 ∧ y.2.1 ≤ 100000000000) ∧ (0 ≤ y.2.2.1 ∧ y.2.2.1 ≤ 1000000) := by
  obtain ⟨hl, hr⟩ := hr
  have hj : i < xs.length := by rw [hl]; exact (List.getElem?_eq_some_iff.1 hy).1
  have ex : xs[i]? = some xs[i] := List.getElem?_eq_getElem hj
  obtain ⟨r1, r2, r3, r4, r6, r7⟩ := hr i _ y ex hy
  have q := okPs_lt ho.2.2.2.2 _ (List.mem_of_getElem? ex)
  obtain ⟨⟨s1, s2⟩, ⟨p1, p2⟩, -, l1, l2⟩ := ho.1
  have h0 : 0 ≤ (c - xs[i].2.1) * (s - p) := Int.mul_nonneg (by omega) (by omega)
  have h1 : (c - xs[i].2.1) * (s + p) ≤ 100001 * 2000 := Int.mul_le_mul (by omega) (by omega) (by omega) (by omega)
  omega
/-- A count of the true belt. -/
theorem count_any (s p g l c nx : Int) (am : Option Addr) (nm cm BW : Nat) (w0 : World) (us : List Int) (xs : List Sn) (ys : List Th) (ho : okT s p g l c nx xs) (hr : relL s p l c xs ys) (hc : c ≤ 100000) (hnm : nm ≤ maxLen) (hu : ∀ u ∈ us, 0 ≤ u ∧ u ≤ 255) (hR : RowK 1 u81 w0 am nm us) (w : World) (hS : StW s p g l am nm cm BW w0 c nx xs ys w) :
    Calls Try.prog 77 #[.pointer (some ⟨BW, 0, none⟩)] w fun e w' => e = .returned (.bool true) ∧ ∃ xs' ys', okT s p g l (c + 1) nx xs' ∧ relL s p l (c + 1) xs' ys' ∧ StW s p g l am nm cm BW w0 (c + 1) nx xs' ys' w' := by
  obtain ⟨ax, cx, ay, cy, kW, hX, hY, hB, hle⟩ := hS
  obtain ⟨U, hU⟩ : ∃ U, mvB s p (if c < (nm : Int) then us.getD c.toNat 0 else 0) = U := ⟨_, rfl⟩
  have hc0 := ho.2.1.1
  have hp0 := ho.1.2.1.1
  have hUb : s - p ≤ U ∧ U ≤ s + p := by rw [← hU]; exact mvB_bd hp0
  obtain ⟨⟨s1, s2⟩, ⟨p1, p2⟩, hg, l1, l2⟩ := ho.1
  have hx32 := ho.2.2.2.1
  obtain ⟨o, ho1, hin, hK⟩ := count_rel ho hr hUb
  have hop : Hid (∀ (a : Option Addr) (cap : Nat) (w : World), RowK 4 sn1 w a xs.length xs → Calls Try.prog 41 #[.agg #[.int .i64 s, .int .i64 p, .int .i64 g, .int .i64 l, .int .i64 c, .int .i64 nx, .slice a xs.length cap]] w fun e w' => e = .returned (.tuple #[.bool o, .int .i64 0]) ∧ Below w.heap.size w w') := fun a cap w hR => by
    have q := open_ok (cap := cap) ho w hR
    rw [ho1] at q
    exact q
  have had : ∀ (a : Option Addr) (cap : Nat) (w : World), RowK 4 sn1 w a xs.length xs → Calls Try.prog 24 #[.agg #[.int .i64 s, .int .i64 p, .int .i64 g, .int .i64 l, .int .i64 c, .int .i64 nx, .slice a xs.length cap], .int .i64 1] w fun e w' => (∃ v uf, e = .returned (.tuple #[.agg #[.int .i64 s, .int .i64 p, .int .i64 g, .int .i64 l, .int .i64 (c + 1), .int .i64 nx, v], uf, .int .i64 0]) ∧ OwnK 68 4 sn1 w.heap.size w' v (leftB (fiB s p g) (laB s p l g) (c + 1) xs) ∧ OwnK 46 3 ft1 w.heap.size w' uf (fatesB (fiB s p g) (laB s p l g) (c + 1) xs)) ∧ Below w.heap.size w w' := fun a cap w hR => by
    have q := adv_ok 1 (cap := cap) ho ⟨by omega, by omega⟩ (by omega) w hR
    have e1 : adB (fiB s p g) (laB s p l g) 1 c xs = (leftB (fiB s p g) (laB s p l g) (c + 1) xs, fatesB (fiB s p g) (laB s p l g) (c + 1) xs) := by simp [adB]
    rw [e1] at q
    exact q
  have hmv : Hid (∀ u, 0 ≤ u ∧ u ≤ 255 → ∀ w, Calls Try.prog 47 #[.agg #[.int .i64 s, .int .i64 p, .int .i64 g, .int .i64 l], .int .u8 u] w fun e w' => e = .returned (.int .i64 (mvB s p u)) ∧ Below w.heap.size w w') := fun u hu w => moved_any s p g l u ho.1 hu w
  have hyF := front_bd ho hr hc
  have hlen := leftB_length (fiB s p g) (laB s p l g) (c + 1) xs
  have hok : okT s p g l (c + 1) nx (leftB (fiB s p g) (laB s p l g) (c + 1) xs) := ⟨ho.1, by omega, ho.2.2.1, by omega, okPs_left ho.2.2.2.2⟩
  rcases hK with ⟨hK, hR2⟩ | ⟨y, t, b, rfl, hK, q1, q2, q3, q4, hR2⟩
  · rw [hK] at had hlen
    have hZ : (leftB (fiB s p g) (laB s p l g) (c + 1) xs).length = ys.length := by rw [hR2.1]; simp
    refine (count_none s p g l c nx U am nm cm BW xs.length ys.length (leftB (fiB s p g) (laB s p l g) (c + 1) xs).length ax ay cx cy w0 us xs _ ys (ys.map (movT g U o)) (fun i => (ys.take i).map (movT g U o)) o ⟨hc0, hc⟩ hnm hu hR hU.symm (by omega) hg rfl rfl rfl (by have := hr.1; omega) hZ.symm hyF hin rfl (by simp) (by simp [hZ]) (fun i => by have := hr.1; simp; omega) (fun i y hy => by simp [List.take_add_one, hy]) hop had hmv w kW hX hY hB hle).mono ?_
    rintro e w' ⟨rfl, ax', cx', ay', cy', k1, k2, k3, k4⟩
    exact ⟨rfl, _, _, hok, hR2, ax', cx', ay', cy', k1, k2, k3, k4, hle⟩
  · rw [hK] at had hlen
    have hZ : (leftB (fiB s p g) (laB s p l g) (c + 1) xs).length = t.length := by rw [hR2.1]; simp
    have h32 : t.length + 1 ≤ 32 := by have := hr.1; simp at this; omega
    refine (count_one s p g l c nx U am nm cm BW xs.length (y :: t).length (leftB (fiB s p g) (laB s p l g) (c + 1) xs).length ax ay cx cy w0 us xs _ (y :: t) (t.map (movT g U o)) (fun i => ((y :: t).take i).tail.map (movT g U o)) o y.1 y.2.2.2.1 b ⟨hc0, hc⟩ hnm hu hR hU.symm (by omega) hg rfl rfl rfl (by simpa using h32) (by simp [hZ]) hyF hin rfl (by simp) (by simp [hZ]) (fun i => by simp; omega) (fun i z hi hy => ?_) (by simp) (fun z hz => ?_) (fun i z hi hz => ?_) hop had hmv w kW hX hY hB hle).mono ?_
    · obtain ⟨j, rfl⟩ : ∃ j, i = j + 1 := ⟨i - 1, by omega⟩
      rw [List.getElem?_cons_succ] at hy
      show ((y :: t).take (j + 1 + 1)).tail.map (movT g U o) = ((y :: t).take (j + 1)).tail.map (movT g U o) ++ [movT g U o z]
      rw [List.take_succ_cons, List.take_succ_cons, List.tail_cons, List.tail_cons, List.take_add_one, hy]
      simp
    · cases hz
      exact ⟨rfl, rfl, q1, q2, q3⟩
    · obtain ⟨j, rfl⟩ : ∃ j, i = j + 1 := ⟨i - 1, by omega⟩
      rw [List.getElem?_cons_succ] at hz
      exact q4 z (List.mem_of_getElem? hz)
    · rintro e w' ⟨rfl, ax', cx', ay', cy', k1, k2, k3, k4⟩
      exact ⟨rfl, _, _, hok, hR2, ax', cx', ay', cy', k1, k2, k3, k4, hle⟩
end Go.Proofs.Ytbcnoklaaigclaa
