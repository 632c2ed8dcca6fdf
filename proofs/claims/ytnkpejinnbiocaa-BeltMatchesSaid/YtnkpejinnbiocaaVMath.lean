/-
  Layer 9: belts, windows, parts and counts, over lists.
-/
import Derived.Lib.Hide
import Derived.Test.YtnkpejinnbiocaaVRow
namespace Go.Proofs.Ytnkpejinnbiocaa
set_option linter.unusedVariables false

/-- A valid belt: step, slip, gate, length. -/
def okB (s p g l : Int) : Prop := (1 ≤ s ∧ s ≤ 1000) ∧ (0 ≤ p ∧ p ≤ s - 1) ∧ (1 ≤ g ∧ g ≤ 1000000) ∧ (1 ≤ l ∧ l ≤ 1000000)
instance (s p g l : Int) : Decidable (okB s p g l) := inferInstanceAs (Decidable (_ ∧ _))
/-- The first and the last count of a window. -/
def fiB (s p d : Int) : Int := (d + (s + p) - 1) / (s + p)
def laB (s p l d : Int) : Int := (d + l) / (s - p) + 1
theorem fiB_bd {s p d : Int} (hs : 1 ≤ s) (hp : 0 ≤ p) (hd : 1 ≤ d) : 1 ≤ fiB s p d ∧ fiB s p d ≤ d := by
  unfold fiB
  have h1 : (0 : Int) < s + p := by omega
  refine ⟨(Int.le_ediv_iff_mul_le h1).2 (by omega), ?_⟩
  have h2 : (d + (s + p) - 1) / (s + p) < d + 1 := by
    rw [Int.ediv_lt_iff_lt_mul h1, Int.add_mul]
    have : d * 1 ≤ d * (s + p) := Int.mul_le_mul_of_nonneg_left (by omega) (by omega)
    omega
  omega
theorem laB_bd {s p l d : Int} (hp : p ≤ s - 1) (hd : 1 ≤ d) (hl : 0 ≤ l) : 1 ≤ laB s p l d ∧ laB s p l d ≤ d + l + 1 := by
  unfold laB
  have h1 : (0 : Int) < s - p := by omega
  have h2 : 0 ≤ (d + l) / (s - p) := Int.ediv_nonneg (by omega) (by omega)
  have h3 : (d + l) / (s - p) ≤ d + l := Int.ediv_le_self _ (by omega)
  omega
/-- The first count of a window: before it the belt has not moved so far. -/
theorem fiB_le {s p d n : Int} (hs : 1 ≤ s) (hp : 0 ≤ p) : fiB s p d ≤ n ↔ d ≤ n * (s + p) := by
  unfold fiB
  have h1 : (0 : Int) < s + p := by omega
  constructor
  · intro h
    have h2 : (d + (s + p) - 1) / (s + p) < n + 1 := by omega
    rw [Int.ediv_lt_iff_lt_mul h1, Int.add_mul] at h2
    omega
  · intro h
    have h2 : (d + (s + p) - 1) / (s + p) < n + 1 := by
      rw [Int.ediv_lt_iff_lt_mul h1, Int.add_mul]
      omega
    omega
theorem le_laB {s p l d n : Int} (hp : p ≤ s - 1) : n ≤ laB s p l d ↔ (n - 1) * (s - p) ≤ d + l := by
  unfold laB
  have h1 : (0 : Int) < s - p := by omega
  rw [← Int.le_ediv_iff_mul_le h1]
  omega
theorem fi_la {s p g l d : Int} (h : okB s p g l) (hd : 1 ≤ d) : fiB s p d ≤ laB s p l d := by
  obtain ⟨⟨h1, h2⟩, ⟨h3, h4⟩, ⟨h5, h6⟩, h7, h8⟩ := h
  rw [le_laB h4]
  have h9 : ¬ fiB s p d ≤ fiB s p d - 1 := by omega
  rw [fiB_le h1 h3] at h9
  have h10 : (fiB s p d - 1) * (s - p) ≤ (fiB s p d - 1) * (s + p) := Int.mul_le_mul_of_nonneg_left (by omega) (by have := (fiB_bd h1 h3 hd).1; omega)
  omega

/-! ### Counts -/
/-- A part may be at the gate during a count; it leaves at its end. -/
def mayB (f z c : Int) (x : Sn) : Bool := decide (x.2.1 + f ≤ c ∧ c ≤ x.2.1 + z)
def goB (z c : Int) (x : Sn) : Bool := decide (x.2.1 + z = c)
/-- The gate is open during a count. -/
def opB (f z c : Int) (xs : List Sn) : Bool := xs.any fun x => (x.2.2.1 != 1) && mayB f z c x
def hitX (x : Sn) : Sn := (x.1, x.2.1, x.2.2.1, true)
def hitI (b : Bool) (f z c : Int) (x : Sn) : Sn := if b && mayB f z c x then hitX x else x
def hitB (f z c : Int) (xs : List Sn) : List Sn := xs.map (hitI (opB f z c xs) f z c)
def fateB (x : Sn) : Ft := (x.1, x.2.2.1, x.2.2.2)
def leftB (f z c : Int) (xs : List Sn) : List Sn := (hitB f z c xs).filter fun x => !goB z c x
def fatesB (f z c : Int) (xs : List Sn) : List Ft := ((hitB f z c xs).filter (goB z c)).map fateB
/-- So many counts pass behind a count. -/
def adB (f z : Int) : Nat → Int → List Sn → List Sn × List Ft
  | 0, _, xs => (xs, [])
  | n + 1, c, xs => ((adB f z n (c + 1) (leftB f z (c + 1) xs)).1, fatesB f z (c + 1) xs ++ (adB f z n (c + 1) (leftB f z (c + 1) xs)).2)
theorem adB_nil (f z : Int) (n : Nat) (c : Int) : adB f z n c [] = ([], []) := by
  induction n generalizing c with
  | zero => rfl
  | succ n ih =>
    have h1 : leftB f z (c + 1) [] = [] := rfl
    have h2 : fatesB f z (c + 1) [] = [] := rfl
    simp only [adB, h1, h2, ih, List.nil_append]
theorem adB_add (f z : Int) (n m : Nat) (c : Int) (xs : List Sn) : adB f z (n + m) c xs = ((adB f z m (c + n) (adB f z n c xs).1).1, (adB f z n c xs).2 ++ (adB f z m (c + n) (adB f z n c xs).1).2) := by
  induction n generalizing c xs with
  | zero => simp [adB]
  | succ n ih =>
    have e : c + ((n + 1 : Nat) : Int) = c + 1 + (n : Int) := by omega
    rw [show n + 1 + m = (n + m) + 1 by omega, e]
    simp only [adB, ih, List.append_assoc]
/-- One more count. -/
theorem adB_succ (f z : Int) (n : Nat) (c : Int) (xs : List Sn) : adB f z (n + 1) c xs = (leftB f z (c + n + 1) (adB f z n c xs).1, (adB f z n c xs).2 ++ fatesB f z (c + n + 1) (adB f z n c xs).1) := by
  rw [adB_add]
  simp [adB]

/-! ### Valid tracks -/
/-- A part may be on a track. -/
def okPt (f z nx c : Int) (i a : Int) (x : Sn) : Prop := (i + 1 ≤ x.1 ∧ x.1 ≤ nx - 1) ∧ (a + 1 ≤ x.2.1 ∧ x.2.1 ≤ c) ∧ c < x.2.1 + z ∧ x.2.2.1 ≤ 3 ∧ ¬ (x.2.2.2 = true ∧ c < x.2.1 + f)
instance (f z nx c i a : Int) (x : Sn) : Decidable (okPt f z nx c i a x) := inferInstanceAs (Decidable (_ ∧ _))
/-- All parts may be, behind a number and a count. -/
def okPs (f z nx c : Int) : Int → Int → List Sn → Prop
  | _, _, [] => True
  | i, a, x :: xs => okPt f z nx c i a x ∧ okPs f z nx c x.1 x.2.1 xs
def okPsDec (f z nx c : Int) : (i a : Int) → (xs : List Sn) → Decidable (okPs f z nx c i a xs)
  | _, _, [] => isTrue trivial
  | i, a, x :: xs => @instDecidableAnd _ _ (inferInstanceAs (Decidable (okPt f z nx c i a x))) (okPsDec f z nx c x.1 x.2.1 xs)
instance (f z nx c i a : Int) (xs : List Sn) : Decidable (okPs f z nx c i a xs) := okPsDec f z nx c i a xs
theorem okPs_cons {f z nx c i a : Int} {x : Sn} {xs : List Sn} : okPs f z nx c i a (x :: xs) ↔ okPt f z nx c i a x ∧ okPs f z nx c x.1 x.2.1 xs := Iff.rfl
theorem okPs_mono {f z nx c i a i' a' : Int} (hi : i' ≤ i) (ha : a' ≤ a) {xs : List Sn} (h : okPs f z nx c i a xs) : okPs f z nx c i' a' xs := by
  cases xs with
  | nil => trivial
  | cons x xs =>
    obtain ⟨⟨⟨h1, h2⟩, ⟨h3, h4⟩, h5⟩, h6⟩ := h
    exact ⟨⟨⟨by omega, h2⟩, ⟨by omega, h4⟩, h5⟩, h6⟩
/-- A valid track. -/
def okT (s p g l c nx : Int) (xs : List Sn) : Prop := okB s p g l ∧ (0 ≤ c ∧ c ≤ 1099511627776) ∧ (0 ≤ nx ∧ nx ≤ 1099511627776) ∧ xs.length ≤ 32 ∧ okPs (fiB s p g) (laB s p l g) nx c (-1) (-1) xs
instance (s p g l c nx : Int) (xs : List Sn) : Decidable (okT s p g l c nx xs) := inferInstanceAs (Decidable (_ ∧ _))
/-- What CheckTrack says. -/
def ckT (s p g l c nx : Int) (xs : List Sn) : Int := if okB s p g l then (if okT s p g l c nx xs then 0 else 8) else 90
theorem hitI_fst (b : Bool) (f z c : Int) (x : Sn) : (hitI b f z c x).1 = x.1 ∧ (hitI b f z c x).2.1 = x.2.1 ∧ (hitI b f z c x).2.2.1 = x.2.2.1 := by
  unfold hitI; split <;> exact ⟨rfl, rfl, rfl⟩
theorem okPs_count (f z nx c : Int) (b : Bool) (i a : Int) (xs : List Sn) (h : okPs f z nx c i a xs) : okPs f z nx (c + 1) i a ((xs.map (hitI b f z (c + 1))).filter fun x => !goB z (c + 1) x) := by
  induction xs generalizing i a with
  | nil => trivial
  | cons x xs ih =>
    obtain ⟨⟨h1, h2, h3, h4, h5⟩, h6⟩ := h
    obtain ⟨e1, e2, e3⟩ := hitI_fst b f z (c + 1) x
    rw [List.map_cons, List.filter_cons]
    have ih' := ih _ _ h6
    by_cases hg : goB z (c + 1) (hitI b f z (c + 1) x) = true
    · rw [hg]
      exact okPs_mono (by omega) (by omega) ih'
    · rw [if_pos (by simpa using hg)]
      have hg' : ¬ x.2.1 + z = c + 1 := by simpa [goB, e2] using hg
      refine ⟨⟨by rw [e1]; exact h1, by rw [e2]; exact ⟨h2.1, by omega⟩, by rw [e2]; omega, by rw [e3]; exact h4, ?_⟩, by rw [e1, e2]; exact ih'⟩
      rintro ⟨k1, k2⟩
      rw [e2] at k2
      have hm : mayB f z (c + 1) x = false := by simp [mayB]; omega
      have e : hitI b f z (c + 1) x = x := by simp [hitI, hm]
      rw [e] at k1
      exact h5 ⟨k1, by omega⟩
theorem okPs_left {f z nx c i a : Int} {xs : List Sn} (h : okPs f z nx c i a xs) : okPs f z nx (c + 1) i a (leftB f z (c + 1) xs) := okPs_count f z nx c _ i a xs h
theorem okPs_adB {f z nx i a : Int} (n : Nat) {c : Int} {xs : List Sn} (h : okPs f z nx c i a xs) : okPs f z nx (c + n) i a (adB f z n c xs).1 := by
  induction n generalizing c xs with
  | zero => simpa [adB] using h
  | succ n ih =>
    have := ih (okPs_left h)
    rw [show c + ((n + 1 : Nat) : Int) = c + 1 + (n : Int) by omega]
    exact this
theorem leftB_length (f z c : Int) (xs : List Sn) : (leftB f z c xs).length + (fatesB f z c xs).length = xs.length := by
  unfold leftB fatesB
  rw [List.length_map]
  have h : ∀ ys : List Sn, (ys.filter fun x => !goB z c x).length + (ys.filter (goB z c)).length = ys.length := by
    intro ys
    induction ys with
    | nil => rfl
    | cons y ys ih => rw [List.filter_cons, List.filter_cons]; cases goB z c y <;> simp <;> omega
  rw [h, hitB, List.length_map]
theorem adB_length (f z : Int) (n : Nat) (c : Int) (xs : List Sn) : (adB f z n c xs).1.length + (adB f z n c xs).2.length = xs.length := by
  induction n generalizing c xs with
  | zero => simp [adB]
  | succ n ih =>
    have h1 := ih (c + 1) (leftB f z (c + 1) xs)
    have h2 := leftB_length f z (c + 1) xs
    simp only [adB, List.length_append]
    omega
end Go.Proofs.Ytnkpejinnbiocaa
