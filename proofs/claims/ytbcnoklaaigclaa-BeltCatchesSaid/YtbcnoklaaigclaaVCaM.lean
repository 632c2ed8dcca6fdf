/-
  Layer 9: parts as they truly are, and the parts of a track.
-/
import Derived.Test.YtbcnoklaaigclaaVKeM
namespace Go.Proofs.Ytbcnoklaaigclaa
set_option linter.unusedVariables false
set_option linter.unusedSimpArgs false

/-- A part as it truly is: its number, its front, its length, its verdict, whether it was hit. -/
abbrev Th := Int × Int × Int × Int × Bool
/-- What a track says of a part. -/
def relT (s p l c : Int) (x : Sn) (y : Th) : Prop := y.1 = x.1 ∧ y.2.2.2.1 = x.2.2.1 ∧ (y.2.2.2.2 = true → x.2.2.2 = true) ∧ (0 ≤ y.2.2.1 ∧ y.2.2.1 ≤ l) ∧ (c - x.2.1) * (s - p) ≤ y.2.1 ∧ y.2.1 ≤ (c - x.2.1) * (s + p)
def relL (s p l c : Int) (xs : List Sn) (ys : List Th) : Prop := xs.length = ys.length ∧ ∀ (i : Nat) (x : Sn) (y : Th), xs[i]? = some x → ys[i]? = some y → relT s p l c x y
/-- A part may be at the gate, as it truly is. -/
def inG (g u : Int) (y : Th) : Bool := decide (g ≤ y.2.1 + u) && decide (y.2.1 - y.2.2.1 ≤ g)
/-- A count passes. -/
def movT (g u : Int) (o : Bool) (y : Th) : Th := (y.1, y.2.1 + u, y.2.2.1, y.2.2.2.1, y.2.2.2.2 || (inG g u y && o))
theorem inG_may {s p g l c u : Int} {x : Sn} {y : Th} (ho : okB s p g l) (hr : relT s p l c x y) (hu : s - p ≤ u ∧ u ≤ s + p) (h : inG g u y = true) : mayB (fiB s p g) (laB s p l g) (c + 1) x = true := by
  obtain ⟨⟨s1, s2⟩, ⟨p1, p2⟩, ⟨g1, g2⟩, l1, l2⟩ := ho
  obtain ⟨r1, r2, r3, ⟨r4, r5⟩, r6, r7⟩ := hr
  unfold inG at h
  rw [Bool.and_eq_true, decide_eq_true_eq, decide_eq_true_eq] at h
  unfold mayB
  rw [decide_eq_true_eq]
  have e1 : (c + 1 - x.2.1) * (s + p) = (c - x.2.1) * (s + p) + (s + p) := by
    rw [show c + 1 - x.2.1 = (c - x.2.1) + 1 by omega, Int.add_mul, Int.one_mul]
  have k1 : fiB s p g ≤ c + 1 - x.2.1 := (fiB_le s1 p1).2 (by omega)
  have k2 : c + 1 - x.2.1 ≤ laB s p l g := (le_laB p2).2 (by rw [show c + 1 - x.2.1 - 1 = c - x.2.1 by omega]; omega)
  omega
theorem mov_rel {s p g l c u : Int} {x : Sn} {y : Th} {o : Bool} (ho : okB s p g l) (hr : relT s p l c x y) (hu : s - p ≤ u ∧ u ≤ s + p) : relT s p l (c + 1) (hitI o (fiB s p g) (laB s p l g) (c + 1) x) (movT g u o y) := by
  have hm := inG_may (g := g) (u := u) ho hr hu
  obtain ⟨e1, e2, e3⟩ := hitI_fst o (fiB s p g) (laB s p l g) (c + 1) x
  obtain ⟨r1, r2, r3, r4, r6, r7⟩ := hr
  unfold relT
  rw [e1, e2, e3]
  refine ⟨r1, r2, fun h => ?_, r4, ?_, ?_⟩
  · unfold hitI
    by_cases hb : (o && mayB (fiB s p g) (laB s p l g) (c + 1) x) = true
    · rw [if_pos hb]; rfl
    · rw [if_neg hb]
      have h' : (y.2.2.2.2 || (inG g u y && o)) = true := h
      rw [Bool.or_eq_true, Bool.and_eq_true] at h'
      rcases h' with h' | ⟨h1, h2⟩
      · exact r3 h'
      · rw [h2, hm h1] at hb; exact absurd rfl hb
  · have e1 : (c + 1 - x.2.1) * (s - p) = (c - x.2.1) * (s - p) + (s - p) := by
      rw [show c + 1 - x.2.1 = (c - x.2.1) + 1 by omega, Int.add_mul, Int.one_mul]
    show (c + 1 - x.2.1) * (s - p) ≤ y.2.1 + u
    omega
  · have e1 : (c + 1 - x.2.1) * (s + p) = (c - x.2.1) * (s + p) + (s + p) := by
      rw [show c + 1 - x.2.1 = (c - x.2.1) + 1 by omega, Int.add_mul, Int.one_mul]
    show y.2.1 + u ≤ (c + 1 - x.2.1) * (s + p)
    omega
/-- A part that may be at the gate, without Pass, opens it. -/
theorem in_open {s p g l c u : Int} {xs : List Sn} {i : Nat} {x : Sn} {y : Th} (ho : okB s p g l) (hx : xs[i]? = some x) (hr : relT s p l c x y) (hu : s - p ≤ u ∧ u ≤ s + p) (h : inG g u y = true) (hv : y.2.2.2.1 ≠ 1) : opB (fiB s p g) (laB s p l g) (c + 1) xs = true := by
  have hm := inG_may (g := g) (u := u) ho hr hu h
  unfold opB
  rw [List.any_eq_true]
  refine ⟨x, List.mem_of_getElem? hx, ?_⟩
  rw [hm, Bool.and_true]
  have := hr.2.1
  simp
  omega
/-- What a part that leaves says. -/
theorem leave_ok {s p g l c u : Int} {xs : List Sn} {i : Nat} {x : Sn} {y : Th} (ho : okB s p g l) (hx : xs[i]? = some x) (hr : relT s p l c x y) (hu : s - p ≤ u ∧ u ≤ s + p) (hg : x.2.1 + laB s p l g = c + 1) :
    (hitI (opB (fiB s p g) (laB s p l g) (c + 1) xs) (fiB s p g) (laB s p l g) (c + 1) x).2.2.1 = y.2.2.2.1 ∧ g < y.2.1 + u - y.2.2.1 ∧ ((movT g u (opB (fiB s p g) (laB s p l g) (c + 1) xs) y).2.2.2.2 = true → (hitI (opB (fiB s p g) (laB s p l g) (c + 1) xs) (fiB s p g) (laB s p l g) (c + 1) x).2.2.2 = true) ∧ (y.2.2.2.1 ≠ 1 → (hitI (opB (fiB s p g) (laB s p l g) (c + 1) xs) (fiB s p g) (laB s p l g) (c + 1) x).2.2.2 = true) := by
  have hm := mov_rel (g := g) (o := opB (fiB s p g) (laB s p l g) (c + 1) xs) ho hr hu
  have hfl := fi_la ho ho.2.2.1.1
  obtain ⟨⟨s1, s2⟩, ⟨p1, p2⟩, ⟨g1, g2⟩, l1, l2⟩ := ho
  refine ⟨?_, ?_, hm.2.2.1, fun hv => ?_⟩
  · rw [(hitI_fst _ _ _ _ x).2.2]; exact hr.2.1.symm
  · obtain ⟨r1, r2, r3, ⟨r4, r5⟩, r6, r7⟩ := hr
    have e1 : (c + 1 - x.2.1) * (s - p) = (c - x.2.1) * (s - p) + (s - p) := by
      rw [show c + 1 - x.2.1 = (c - x.2.1) + 1 by omega, Int.add_mul, Int.one_mul]
    have k : ¬ (c + 1 - x.2.1) + 1 ≤ laB s p l g := by omega
    rw [le_laB p2, show c + 1 - x.2.1 + 1 - 1 = c + 1 - x.2.1 by omega] at k
    omega
  · have h1 : mayB (fiB s p g) (laB s p l g) (c + 1) x = true := by
      unfold mayB
      rw [decide_eq_true_eq]
      omega
    have h2 : opB (fiB s p g) (laB s p l g) (c + 1) xs = true := by
      unfold opB
      rw [List.any_eq_true]
      refine ⟨x, List.mem_of_getElem? hx, ?_⟩
      rw [h1, Bool.and_true]
      have := hr.2.1
      simp
      omega
    unfold hitI
    rw [h1, h2]
    rfl
/-- A count, for all parts: no part leaves, or the first one alone. -/
theorem count_rel {s p g l c nx u : Int} {xs : List Sn} {ys : List Th} (ho : okT s p g l c nx xs) (hr : relL s p l c xs ys) (hu : s - p ≤ u ∧ u ≤ s + p) :
    ∃ o : Bool, opB (fiB s p g) (laB s p l g) (c + 1) xs = o ∧ (∀ (i : Nat) (y : Th), ys[i]? = some y → inG g u y = true → y.2.2.2.1 ≠ 1 → o = true) ∧
    ((fatesB (fiB s p g) (laB s p l g) (c + 1) xs = [] ∧ relL s p l (c + 1) (leftB (fiB s p g) (laB s p l g) (c + 1) xs) (ys.map (movT g u o))) ∨
     ∃ y t b, ys = y :: t ∧ fatesB (fiB s p g) (laB s p l g) (c + 1) xs = [(y.1, y.2.2.2.1, b)] ∧ g < y.2.1 + u - y.2.2.1 ∧ ((movT g u o y).2.2.2.2 = true → b = true) ∧ (y.2.2.2.1 ≠ 1 → b = true) ∧ (∀ z ∈ t, z.1 ≠ y.1) ∧ relL s p l (c + 1) (leftB (fiB s p g) (laB s p l g) (c + 1) xs) (t.map (movT g u o))) := by
  obtain ⟨hl, hr⟩ := hr
  refine ⟨_, rfl, fun i y hy hi hv => ?_, ?_⟩
  · have hj : i < xs.length := by rw [hl]; exact (List.getElem?_eq_some_iff.1 hy).1
    have ex : xs[i]? = some xs[i] := List.getElem?_eq_getElem hj
    exact in_open ho.1 ex (hr i _ y ex hy) hu hi hv
  · unfold leftB fatesB hitB
    rcases one_count (b := opB (fiB s p g) (laB s p l g) (c + 1) xs) ho.2.2.2.2 with ⟨⟨e1, e2⟩, -⟩ | ⟨x, t, rfl, hg, e1, e2⟩
    · rw [e1, e2]
      refine .inl ⟨rfl, by simp [hl], fun i x y hx hy => ?_⟩
      rw [List.getElem?_map] at hx hy
      rw [Option.map_eq_some_iff] at hx hy
      obtain ⟨x0, hx, rfl⟩ := hx
      obtain ⟨y0, hy, rfl⟩ := hy
      exact mov_rel ho.1 (hr i x0 y0 hx hy) hu
    · rw [e1, e2]
      obtain ⟨y, ts, rfl⟩ : ∃ y ts, ys = y :: ts := by
        cases ys with
        | nil => simp at hl
        | cons y ts => exact ⟨y, ts, rfl⟩
      have h0 := hr 0 x y rfl rfl
      obtain ⟨q1, q2, q3, q4⟩ := leave_ok ho.1 (xs := x :: t) (i := 0) rfl h0 hu hg
      refine .inr ⟨y, ts, (hitI (opB (fiB s p g) (laB s p l g) (c + 1) (x :: t)) (fiB s p g) (laB s p l g) (c + 1) x).2.2.2, rfl, ?_, q2, q3, q4, fun z hz => ?_, by simpa using hl, fun i x' y' hx hy => ?_⟩
      · simp only [List.map_cons, List.map_nil, fateB, q1, (hitI_fst (opB (fiB s p g) (laB s p l g) (c + 1) (x :: t)) (fiB s p g) (laB s p l g) (c + 1) x).1, h0.1]
      · obtain ⟨i, hi⟩ := List.mem_iff_getElem?.1 hz
        have hj : i < t.length := by
          have := (List.getElem?_eq_some_iff.1 hi).1
          simp at hl; omega
        have ex : t[i]? = some t[i] := List.getElem?_eq_getElem hj
        have h1 := hr (i + 1) _ z (by rw [List.getElem?_cons_succ]; exact ex) (by rw [List.getElem?_cons_succ]; exact hi)
        have h2 := okPs_lt ho.2.2.2.2.2 _ (List.mem_of_getElem? ex)
        rw [h1.1, h0.1]
        omega
      · rw [List.getElem?_map] at hx hy
        rw [Option.map_eq_some_iff] at hx hy
        obtain ⟨x0, hx, rfl⟩ := hx
        obtain ⟨y0, hy, rfl⟩ := hy
        exact mov_rel ho.1 (hr (i + 1) x0 y0 (by rw [List.getElem?_cons_succ]; exact hx) (by rw [List.getElem?_cons_succ]; exact hy)) hu
/-- A part at the sensor. -/
theorem sense_rel {s p l c nx m : Int} {xs : List Sn} {ys : List Th} (hm : 0 ≤ m ∧ m ≤ l) (hr : relL s p l c xs ys) : relL s p l c (xs ++ [(nx, c, 0, false)]) (ys ++ [(nx, 0, m, 0, false)]) := by
  obtain ⟨hl, hr⟩ := hr
  refine ⟨by simp [hl], fun i x y hx hy => ?_⟩
  by_cases hi : i < xs.length
  · rw [List.getElem?_append_left hi] at hx
    rw [List.getElem?_append_left (by omega)] at hy
    exact hr i x y hx hy
  · rw [List.getElem?_append_right (by omega)] at hx hy
    have h1 : i - xs.length = 0 := by
      have := (List.getElem?_eq_some_iff.1 hx).1
      simp at this; omega
    rw [h1] at hx
    rw [show i - ys.length = 0 by omega] at hy
    cases hx; cases hy
    exact ⟨rfl, rfl, (fun h => by cases h), hm, by simp, by simp⟩
/-- A verdict is told. -/
theorem tell_rel {s p l c vd : Int} {xs : List Sn} {ys : List Th} {k : Nat} {q1 q2 q3 : Int} {q4 : Bool} {y : Th} (hx : xs[k]? = some (q1, q2, q3, q4)) (hy : ys[k]? = some y) (hr : relL s p l c xs ys) : relL s p l c (xs.set k (q1, q2, vd, q4)) (ys.set k (y.1, y.2.1, y.2.2.1, vd, y.2.2.2.2)) := by
  obtain ⟨hl, hr⟩ := hr
  have h0 := hr k _ y hx hy
  refine ⟨by simp [hl], fun i x' y' hx' hy' => ?_⟩
  by_cases hi : k = i
  · subst hi
    have k1 := (List.getElem?_eq_some_iff.1 hx).1
    have k2 := (List.getElem?_eq_some_iff.1 hy).1
    rw [List.getElem?_set_self k1] at hx'
    rw [List.getElem?_set_self k2] at hy'
    cases hx'; cases hy'
    exact ⟨h0.1, rfl, h0.2.2⟩
  · rw [List.getElem?_set_ne hi] at hx' hy'
    exact hr i x' y' hx' hy'
/-- The number of a part is found at its place. -/
theorem find_at {f z nx c : Int} {xs : List Sn} {k : Nat} {x : Sn} (h : okPs f z nx c (-1) (-1) xs) (hx : xs[k]? = some x) : xs.findIdx? (fun y => y.1 == x.1) = some k := by
  rw [List.findIdx?_eq_some_iff_getElem]
  obtain ⟨hk, hx'⟩ := List.getElem?_eq_some_iff.1 hx
  refine ⟨hk, by rw [hx']; simp, fun j hj => ?_⟩
  have ej : xs[j]? = some xs[j] := List.getElem?_eq_getElem (by omega)
  have := okPs_apart h ej hx hj
  simp
  omega
end Go.Proofs.Ytbcnoklaaigclaa
