/-
  Gray codes and stripes: plain numbers.
-/
namespace Go.Proofs.Ytcafmmhjlecgpaa

/-- A number by its bits, the highest first. -/
def fromBits (bs : List Bool) : Nat := bs.foldl (fun a b => 2 * a + b.toNat) 0
theorem fromBits_snoc (bs : List Bool) (b : Bool) : fromBits (bs ++ [b]) = 2 * fromBits bs + b.toNat := by simp [fromBits]
theorem fromBits_lt (bs : List Bool) : fromBits bs < 2 ^ bs.length := by
  rw [← List.reverse_reverse bs]
  generalize bs.reverse = l
  induction l with
  | nil => simp [fromBits]
  | cons b l ih =>
    rw [List.reverse_cons, fromBits_snoc, List.length_append, List.length_singleton, Nat.pow_succ]
    cases b <;> simp only [Bool.toNat, cond_true, cond_false] <;> omega
theorem fromBits_test (bs : List Bool) (j : Nat) : (fromBits bs).testBit j = bs.reverse[j]?.getD false := by
  have h : ∀ (l : List Bool) (j : Nat), (fromBits l.reverse).testBit j = l[j]?.getD false := ?_
  · have := h bs.reverse j
    rwa [List.reverse_reverse] at this
  intro l j
  induction l generalizing j with
  | nil => simp [fromBits]
  | cons b l ih =>
    rw [List.reverse_cons, fromBits_snoc]
    cases j with
    | zero => cases b <;> simp [Nat.testBit, Bool.toNat] <;> omega
    | succ j =>
      rw [Nat.testBit_succ, show (2 * fromBits l.reverse + b.toNat) / 2 = fromBits l.reverse from by cases b <;> simp only [Bool.toNat, cond_true, cond_false] <;> omega, ih]
      simp
/-- Is a value above the other list's by more than m? -/
def brs (m : Int) (xs ys : List Int) : List Bool := List.zipWith (fun x y => decide (m < x - y)) xs ys
/-- The Gray code. -/
def grayN (k : Nat) : Nat := k ^^^ (k / 2)
/-- May the stripe be k? -/
def mayB (m : Int) (xs ys : List Int) (k : Nat) : Bool := (grayN k &&& fromBits (brs m xs ys) == fromBits (brs m xs ys)) && (grayN k &&& fromBits (brs m ys xs) == 0)
/-- Bit i of n bits, the highest first, may be as it is in the Gray code of k. -/
def bitOk (m : Int) (xs ys : List Int) (n k i : Nat) : Bool := !((grayN k / 2 ^ (n - 1 - i) % 2 == 0 && decide (m < xs[i]?.getD 0 - ys[i]?.getD 0)) || (grayN k / 2 ^ (n - 1 - i) % 2 == 1 && decide (m < ys[i]?.getD 0 - xs[i]?.getD 0)))
theorem brs_length (m : Int) (xs ys : List Int) (h : xs.length = ys.length) : (brs m xs ys).length = xs.length := by simp [brs, h]
theorem brs_get (m : Int) (xs ys : List Int) (h : xs.length = ys.length) (i : Nat) (hi : i < xs.length) : (brs m xs ys)[i]? = some (decide (m < xs[i]?.getD 0 - ys[i]?.getD 0)) := by
  simp [brs, List.getElem?_zipWith, List.getElem?_eq_getElem hi, List.getElem?_eq_getElem (h ▸ hi)]
theorem brs_test (m : Int) (xs ys : List Int) (h : xs.length = ys.length) (i : Nat) (hi : i < xs.length) : (fromBits (brs m xs ys)).testBit (xs.length - 1 - i) = decide (m < xs[i]?.getD 0 - ys[i]?.getD 0) := by
  rw [fromBits_test, List.getElem?_reverse (by rw [brs_length _ _ _ h]; omega), brs_length _ _ _ h, show xs.length - 1 - (xs.length - 1 - i) = i from by omega, brs_get m xs ys h i hi]; rfl
theorem brs_test_out (m : Int) (xs ys : List Int) (h : xs.length = ys.length) (j : Nat) (hj : xs.length ≤ j) : (fromBits (brs m xs ys)).testBit j = false := by
  rw [fromBits_test, List.getElem?_eq_none (by simp [brs_length _ _ _ h, hj])]; rfl
theorem and_self_iff (g o : Nat) : (g &&& o = o) ↔ ∀ j, o.testBit j = true → g.testBit j = true := by
  constructor
  · intro h j hj
    have := congrArg (·.testBit j) h
    simp only [Nat.testBit_and, hj, Bool.and_true] at this
    exact this
  · intro h
    apply Nat.eq_of_testBit_eq
    intro j
    rw [Nat.testBit_and]
    cases ho : o.testBit j
    · simp
    · simp [h j ho]
theorem and_zero_iff (g o : Nat) : (g &&& o = 0) ↔ ∀ j, o.testBit j = true → g.testBit j = false := by
  constructor
  · intro h j hj
    have := congrArg (·.testBit j) h
    simp only [Nat.testBit_and, hj, Bool.and_true, Nat.zero_testBit] at this
    exact this
  · intro h
    apply Nat.eq_of_testBit_eq
    intro j
    rw [Nat.testBit_and, Nat.zero_testBit]
    cases ho : o.testBit j
    · simp
    · simp [h j ho]
theorem test_div (g j : Nat) : g.testBit j = (g / 2 ^ j % 2 == 1) := by
  rw [Nat.testBit_eq_decide_div_mod_eq]
  rfl
theorem may_iff (m : Int) (hm : 0 ≤ m) (xs ys : List Int) (h : xs.length = ys.length) (k : Nat) : mayB m xs ys k = (List.range xs.length).all (bitOk m xs ys xs.length k) := by
  rw [Bool.eq_iff_iff]
  simp only [mayB, Bool.and_eq_true, beq_iff_eq, and_self_iff, and_zero_iff, List.all_eq_true, List.mem_range]
  constructor
  · rintro ⟨h1, h2⟩ i hi
    have a1 := h1 (xs.length - 1 - i)
    have a2 := h2 (xs.length - 1 - i)
    rw [brs_test m xs ys h i hi] at a1
    rw [show xs.length - 1 - i = ys.length - 1 - i from by omega, brs_test m ys xs h.symm i (by omega), ← h] at a2
    rw [test_div] at a1 a2
    unfold bitOk
    by_cases c1 : m < xs[i]?.getD 0 - ys[i]?.getD 0
    · have := a1 (by simpa using c1)
      have c2 : ¬ m < ys[i]?.getD 0 - xs[i]?.getD 0 := by omega
      simp [c1, c2] at this ⊢
      omega
    · by_cases c2 : m < ys[i]?.getD 0 - xs[i]?.getD 0
      · have := a2 (by simpa using c2)
        simp [c1, c2] at this ⊢
        omega
      · simp [c1, c2]
  · intro hall
    constructor
    · intro j hj
      by_cases hjn : j < xs.length
      · have := hall (xs.length - 1 - j) (by omega)
        have hb := brs_test m xs ys h (xs.length - 1 - j) (by omega)
        rw [show xs.length - 1 - (xs.length - 1 - j) = j from by omega, hj] at hb
        have hb' : m < xs[xs.length - 1 - j]?.getD 0 - ys[xs.length - 1 - j]?.getD 0 := by simpa using hb.symm
        rw [test_div]
        unfold bitOk at this
        rw [show xs.length - 1 - (xs.length - 1 - j) = j from by omega] at this
        simp [hb'] at this ⊢
        omega
      · rw [brs_test_out m xs ys h j (by omega)] at hj; cases hj
    · intro j hj
      by_cases hjn : j < xs.length
      · have := hall (xs.length - 1 - j) (by omega)
        have hb := brs_test m ys xs h.symm (xs.length - 1 - j) (by omega)
        rw [show ys.length - 1 - (xs.length - 1 - j) = j from by omega, hj] at hb
        have hb' : m < ys[xs.length - 1 - j]?.getD 0 - xs[xs.length - 1 - j]?.getD 0 := by simpa using hb.symm
        rw [test_div]
        unfold bitOk at this
        rw [show xs.length - 1 - (xs.length - 1 - j) = j from by omega] at this
        simp [hb'] at this ⊢
        omega
      · rw [brs_test_out m ys xs h.symm j (by omega)] at hj; cases hj
/-- The numbers that a stripe may be. -/
def stripes (m : Int) (xs ys : List Int) (c : Nat) : List Int := List.map (fun k : Nat => (k : Int)) ((List.range c).filter (mayB m xs ys))
theorem stripes_snoc (m : Int) (xs ys : List Int) (c : Nat) : stripes m xs ys (c + 1) = stripes m xs ys c ++ if mayB m xs ys c then [(c : Int)] else [] := by
  unfold stripes
  rw [List.range_succ, List.filter_append, List.map_append]
  cases hm : mayB m xs ys c <;> simp [hm]
theorem stripes_len (m : Int) (xs ys : List Int) (c : Nat) : (stripes m xs ys c).length ≤ c := by
  unfold stripes
  rw [List.length_map]
  have := List.length_filter_le (mayB m xs ys) (List.range c)
  simpa using this
end Go.Proofs.Ytcafmmhjlecgpaa
