/-
  Layer 9: what counts do to the parts of a valid track, part by part.
-/
import Derived.Test.YtnkpejinnbiocaaVMath
namespace Go.Proofs.Ytnkpejinnbiocaa
set_option linter.unusedVariables false
set_option linter.unusedSimpArgs false

/-- The parts behind a part passed the sensor later. -/
theorem okPs_lt {f z nx c i a : Int} {xs : List Sn} (h : okPs f z nx c i a xs) : ∀ x ∈ xs, i < x.1 ∧ a < x.2.1 ∧ x.2.1 ≤ c ∧ c < x.2.1 + z ∧ x.1 < nx ∧ x.2.2.1 ≤ 3 := by
  induction xs generalizing i a with
  | nil => intro x hx; cases hx
  | cons y ys ih =>
    intro x hx
    obtain ⟨⟨h1, h2, h3, h4, h5⟩, h6⟩ := h
    rcases List.mem_cons.1 hx with rfl | hx
    · exact ⟨by omega, by omega, by omega, by omega, by omega, h4⟩
    · have := ih h6 x hx
      exact ⟨by omega, by omega, by omega, by omega, by omega, this.2.2.2.2.2⟩
/-- At the end of a count no part leaves, or the first one alone. -/
theorem one_count {f z nx c i a : Int} {b : Bool} {xs : List Sn} (h : okPs f z nx c i a xs) :
    (((xs.map (hitI b f z (c + 1))).filter (goB z (c + 1)) = [] ∧ ((xs.map (hitI b f z (c + 1))).filter fun x => !goB z (c + 1) x) = xs.map (hitI b f z (c + 1))) ∧ ∀ x ∈ xs, c + 1 < x.2.1 + z) ∨
    ∃ x t, xs = x :: t ∧ x.2.1 + z = c + 1 ∧ (xs.map (hitI b f z (c + 1))).filter (goB z (c + 1)) = [hitI b f z (c + 1) x] ∧ ((xs.map (hitI b f z (c + 1))).filter fun x => !goB z (c + 1) x) = t.map (hitI b f z (c + 1)) := by
  have far : ∀ ys : List Sn, (∀ x ∈ ys, c + 1 < x.2.1 + z) → (ys.map (hitI b f z (c + 1))).filter (goB z (c + 1)) = [] ∧ ((ys.map (hitI b f z (c + 1))).filter fun x => !goB z (c + 1) x) = ys.map (hitI b f z (c + 1)) := by
    intro ys hy
    have g : ∀ x ∈ ys.map (hitI b f z (c + 1)), goB z (c + 1) x = false := by
      intro x hx
      obtain ⟨y, hy', rfl⟩ := List.mem_map.1 hx
      have := hy y hy'
      have e := (hitI_fst b f z (c + 1) y).2.1
      unfold goB
      rw [e]
      exact decide_eq_false (by omega)
    exact ⟨List.filter_eq_nil_iff.2 fun x hx => by rw [g x hx]; simp, List.filter_eq_self.2 fun x hx => by rw [g x hx]; rfl⟩
  cases xs with
  | nil => exact .inl ⟨⟨rfl, rfl⟩, fun x hx => by cases hx⟩
  | cons x t =>
    obtain ⟨⟨h1, h2, h3, h4, h5⟩, h6⟩ := h
    have q := okPs_lt h6
    have ft := far t (fun y hy => by have := q y hy; omega)
    by_cases hg : x.2.1 + z = c + 1
    · refine .inr ⟨x, t, rfl, hg, ?_, ?_⟩
      · have g : goB z (c + 1) (hitI b f z (c + 1) x) = true := by
          unfold goB; rw [(hitI_fst b f z (c + 1) x).2.1]; exact decide_eq_true hg
        rw [List.map_cons, List.filter_cons, if_pos g, ft.1]
      · have g : goB z (c + 1) (hitI b f z (c + 1) x) = true := by
          unfold goB; rw [(hitI_fst b f z (c + 1) x).2.1]; exact decide_eq_true hg
        rw [List.map_cons, List.filter_cons, g]
        exact ft.2
    · refine .inl ⟨far _ ?_, ?_⟩
      all_goals
        intro y hy
        rcases List.mem_cons.1 hy with rfl | hy
        · omega
        · have := q y hy; omega
/-- A part as it was, but that it may have been hit. -/
def sameS (x y : Sn) : Prop := y.1 = x.1 ∧ y.2.1 = x.2.1 ∧ y.2.2.1 = x.2.2.1 ∧ (x.2.2.2 = true → y.2.2.2 = true)
def sameF (x : Sn) (y : Ft) : Prop := y.1 = x.1 ∧ y.2.1 = x.2.2.1 ∧ (x.2.2.2 = true → y.2.2 = true)
/-- The first parts have left, with these fates; the others are there. -/
def kept (xs ys : List Sn) (fs : List Ft) : Prop := xs.length = ys.length + fs.length ∧ (∀ (i : Nat) (x : Sn) (t : Ft), xs[i]? = some x → fs[i]? = some t → sameF x t) ∧ ∀ (i : Nat) (x y : Sn), xs[fs.length + i]? = some x → ys[i]? = some y → sameS x y
theorem hitI_same (b : Bool) (f z c : Int) (x : Sn) : sameS x (hitI b f z c x) := by
  obtain ⟨e1, e2, e3⟩ := hitI_fst b f z c x
  refine ⟨e1, e2, e3, fun h => ?_⟩
  unfold hitI
  split
  · rfl
  · exact h
theorem kept_zero (xs : List Sn) : kept xs xs [] := by
  refine ⟨by simp, fun i x t _ h => (by cases h), fun i x y h1 h2 => ?_⟩
  simp only [List.length_nil, Nat.zero_add] at h1
  rw [h1] at h2; cases h2; exact ⟨rfl, rfl, rfl, id⟩
theorem kept_count {f z nx c i a : Int} {xs : List Sn} (h : okPs f z nx c i a xs) : kept xs (leftB f z (c + 1) xs) (fatesB f z (c + 1) xs) := by
  unfold leftB fatesB hitB
  rcases one_count (b := opB f z (c + 1) xs) h with ⟨⟨e1, e2⟩, -⟩ | ⟨x, t, rfl, -, e1, e2⟩
  · rw [e1, e2]
    refine ⟨by simp, fun i x t _ h => (by cases h), fun i x y h1 h2 => ?_⟩
    simp only [List.map_nil, List.length_nil, Nat.zero_add] at h1
    rw [List.getElem?_map, h1] at h2
    cases h2
    exact hitI_same _ _ _ _ _
  · rw [e1, e2]
    refine ⟨by simp, fun i u v h1 h2 => ?_, fun i u y h1 h2 => ?_⟩
    · cases i with
      | zero =>
        cases h1; cases h2
        obtain ⟨e1, e2, e3, e4⟩ := hitI_same (opB f z (c + 1) (x :: t)) f z (c + 1) x
        exact ⟨e1, e3, e4⟩
      | succ i => cases h2
    · simp only [List.map_cons, List.map_nil, List.length_cons, List.length_nil, Nat.zero_add] at h1
      rw [Nat.add_comm 1 i, List.getElem?_cons_succ] at h1
      rw [List.getElem?_map, h1] at h2
      cases h2
      exact hitI_same _ _ _ _ _
theorem kept_trans {xs ys zs : List Sn} {fs gs : List Ft} (h1 : kept xs ys fs) (h2 : kept ys zs gs) : kept xs zs (fs ++ gs) := by
  obtain ⟨l1, f1, s1⟩ := h1
  obtain ⟨l2, f2, s2⟩ := h2
  refine ⟨by rw [List.length_append]; omega, fun i x t hx ht => ?_, fun i x y hx hy => ?_⟩
  · by_cases hi : i < fs.length
    · rw [List.getElem?_append_left hi] at ht
      exact f1 i x t hx ht
    · rw [List.getElem?_append_right (by omega)] at ht
      have hj : i - fs.length < ys.length := by have := (List.getElem?_eq_some_iff.1 ht).1; omega
      have ey : ys[i - fs.length]? = some ys[i - fs.length] := List.getElem?_eq_getElem hj
      obtain ⟨a1, a2, a3, a4⟩ := s1 (i - fs.length) x _ (by rw [show fs.length + (i - fs.length) = i by omega]; exact hx) ey
      obtain ⟨b1, b2, b3⟩ := f2 _ _ t ey ht
      exact ⟨b1.trans a1, b2.trans a3, fun h => b3 (a4 h)⟩
  · rw [List.length_append, Nat.add_assoc] at hx
    have hj : gs.length + i < ys.length := by have := (List.getElem?_eq_some_iff.1 hy).1; omega
    have ey : ys[gs.length + i]? = some ys[gs.length + i] := List.getElem?_eq_getElem hj
    obtain ⟨a1, a2, a3, a4⟩ := s1 _ x _ hx ey
    obtain ⟨b1, b2, b3, b4⟩ := s2 i _ y ey hy
    exact ⟨b1.trans a1, b2.trans a2, b3.trans a3, fun h => b4 (a4 h)⟩
theorem kept_adB {f z nx i a : Int} (n : Nat) {c : Int} {xs : List Sn} (h : okPs f z nx c i a xs) : kept xs (adB f z n c xs).1 (adB f z n c xs).2 := by
  induction n generalizing c xs with
  | zero => exact kept_zero xs
  | succ n ih => exact kept_trans (kept_count h) (ih (okPs_left h))
/-- One more part at the sensor. -/
theorem okPs_snoc {f z nx c i a : Int} {xs : List Sn} (hz : 0 < z) (hi : i < nx) (ha : a < c) (h : okPs f z nx c i a xs) (hl : ∀ x, xs[xs.length - 1]? = some x → x.2.1 ≠ c) : okPs f z (nx + 1) c i a (xs ++ [(nx, c, 0, false)]) := by
  induction xs generalizing i a with
  | nil => exact ⟨⟨⟨by simp; omega, by simp⟩, ⟨by simp; omega, by simp⟩, by simp; omega, by simp, by simp⟩, trivial⟩
  | cons x xs ih =>
    obtain ⟨⟨h1, h2, h3⟩, h4⟩ := h
    refine ⟨⟨⟨h1.1, by omega⟩, h2, h3⟩, ih (by omega) ?_ h4 ?_⟩
    · cases xs with
      | nil =>
        have := hl x (by simp)
        omega
      | cons y ys => obtain ⟨⟨k1, k2, k3⟩, k4⟩ := h4; omega
    · intro y hy
      cases xs with
      | nil => simp at hy
      | cons y' ys => exact hl y (by simpa using hy)
/-- A verdict is told. -/
theorem okPs_set {f z nx c i a : Int} {xs : List Sn} (k : Nat) (v q1 q2 q3 : Int) (q4 : Bool) (hv : v ≤ 3) (hx : xs[k]? = some (q1, q2, q3, q4)) (h : okPs f z nx c i a xs) : okPs f z nx c i a (xs.set k (q1, q2, v, q4)) := by
  induction xs generalizing i a k with
  | nil => exact h
  | cons x xs ih =>
    obtain ⟨⟨h1, h2, h3, h4, h5⟩, h6⟩ := h
    cases k with
    | zero =>
      cases hx
      exact ⟨⟨h1, h2, h3, hv, h5⟩, h6⟩
    | succ k => exact ⟨⟨h1, h2, h3, h4, h5⟩, ih k (by simpa using hx) h6⟩
/-- The numbers are apart. -/
theorem okPs_apart {f z nx c i a : Int} {xs : List Sn} (h : okPs f z nx c i a xs) {j k : Nat} {x y : Sn} (hj : xs[j]? = some x) (hk : xs[k]? = some y) (hjk : j < k) : x.1 < y.1 ∧ x.2.1 < y.2.1 := by
  induction xs generalizing i a j k with
  | nil => cases hj
  | cons u us ih =>
    obtain ⟨h1, h2⟩ := h
    cases k with
    | zero => omega
    | succ k =>
      rw [List.getElem?_cons_succ] at hk
      cases j with
      | zero =>
        cases hj
        have := okPs_lt h2 y (List.mem_of_getElem? hk)
        omega
      | succ j =>
        rw [List.getElem?_cons_succ] at hj
        exact ih h2 hj hk (by omega)
end Go.Proofs.Ytnkpejinnbiocaa
