/-
  Layer 1: the calls on enclosures answer as the document's own.
-/
import Derived.Test.YticclcimelibdaaIval
import Derived.Test.YticclcimelibdaaSpans
import Derived.Test.YticclcimelibdaaRefS6
import Derived.Test.YticclcimelibdaaRef10
namespace Go.Proofs.Yticclcimelibdaa
open Go.RowKit
set_option linter.unusedVariables false
set_option linter.unusedSimpArgs false

/-- The lesser, and the greater, of two numbers as the document has them. -/
def lsQ (q r : Rat) : Rat := if q ≤ r then q else r
def msQ (q r : Rat) : Rat := if r ≤ q then q else r
theorem lsQ_eq (q r : Rat) : lsQ q r = if r < q then r else q := by
  unfold lsQ
  by_cases h : q ≤ r
  · rw [if_pos h, if_neg (Rat.not_lt.2 h)]
  · rw [if_neg h, if_pos (Rat.not_le.1 h)]
theorem msQ_eq (q r : Rat) : msQ q r = if q < r then r else q := by
  unfold msQ
  by_cases h : r ≤ q
  · rw [if_pos h, if_neg (Rat.not_lt.2 h)]
  · rw [if_neg h, if_pos (Rat.not_le.1 h)]
theorem lsQ_self (q : Rat) : lsQ q q = q := by unfold lsQ; exact ite_self q
theorem msQ_self (q : Rat) : msQ q q = q := by unfold msQ; exact ite_self q
theorem lsQ_fits {q r : Rat} (hq : fits q) (hr : fits r) : fits (lsQ q r) := by unfold lsQ; split <;> assumption
theorem msQ_fits {q r : Rat} (hq : fits q) (hr : fits r) : fits (msQ q r) := by unfold msQ; split <;> assumption
theorem loQ_3 (p q r s : Rat) : loQ p [q, r, s] = lsQ (lsQ (lsQ (lsQ p p) q) r) s := by
  rw [lsQ_self]; simp only [lsQ_eq]; rfl
theorem hiQ_3 (p q r s : Rat) : hiQ p [q, r, s] = msQ (msQ (msQ (msQ p p) q) r) s := by
  rw [msQ_self]; simp only [msQ_eq]; rfl
theorem loQ_same (p q r s p' q' r' s' : Rat) (h1 : p = q') (h2 : q = p') (h3 : r = s') (h4 : s = r') : loQ p [q, r, s] = loQ p' [q', r', s'] := by
  subst h1 h2 h3 h4
  obtain ⟨a1, a2, a3, a4, a5⟩ := loQ3 p q r s
  obtain ⟨b1, b2, b3, b4, b5⟩ := loQ3 q p s r
  grind
theorem hiQ_same (p q r s p' q' r' s' : Rat) (h1 : p = q') (h2 : q = p') (h3 : r = s') (h4 : s = r') : hiQ p [q, r, s] = hiQ p' [q', r', s'] := by
  subst h1 h2 h3 h4
  obtain ⟨a1, a2, a3, a4, a5⟩ := hiQ3 p q r s
  obtain ⟨b1, b2, b3, b4, b5⟩ := hiQ3 q p s r
  grind
theorem re_dec_yes {x : Rat} (h : fits x) : decide (re x = 0) = true := decide_eq_true (re_yes h)
theorem re_dec_no {x : Rat} (h : ¬ fits x) : decide (re x = 0) = false := decide_eq_false (by rw [re_no h]; decide)

theorem rleast_ls (q r : Rat) (hq : fits q) (hr : fits r) (w : World) :
    Calls Try.prog 113 #[.agg #[.int .i64 (fn q), .int .i64 (fd q)], .agg #[.int .i64 (fn r), .int .i64 (fd r)]] w fun e w' => e = .returned (.agg #[.int .i64 (fn (lsQ q r)), .int .i64 (fd (lsQ q r))]) ∧ Below w.heap.size w w' := rleast_q q r hq hr w
theorem rmost_ms (q r : Rat) (hq : fits q) (hr : fits r) (w : World) :
    Calls Try.prog 114 #[.agg #[.int .i64 (fn q), .int .i64 (fd q)], .agg #[.int .i64 (fn r), .int .i64 (fd r)]] w fun e w' => e = .returned (.agg #[.int .i64 (fn (msQ q r)), .int .i64 (fd (msQ q r))]) ∧ Below w.heap.size w w' := rmost_q q r hq hr w

/-- Four numbers that fit. -/
theorem four_q (p q r s : Rat) (fp : fits p) (fq : fits q) (fr : fits r) (fs : fits s) (w : World) :
    Calls Try.prog 119 #[.agg #[.int .i64 (fn p), .int .i64 (fd p), .int .i64 (fn q), .int .i64 (fd q), .int .i64 (fn r), .int .i64 (fd r), .int .i64 (fn s), .int .i64 (fd s)], .agg #[.bool true, .bool true, .bool true, .bool true]] w fun e w' => e = .returned (.tuple #[.agg #[.int .i64 (fn (loQ p [q, r, s])), .int .i64 (fd (loQ p [q, r, s])), .int .i64 (fn (hiQ p [q, r, s])), .int .i64 (fd (hiQ p [q, r, s]))], .int .i64 0]) ∧ Below w.heap.size w w' := by
  rw [loQ_3, hiQ_3]
  have l1 := lsQ_fits fp fp; have l2 := lsQ_fits l1 fq; have l3 := lsQ_fits l2 fr
  have m1 := msQ_fits fp fp; have m2 := msQ_fits m1 fq; have m3 := msQ_fits m2 fr
  exact four_yes _ _ _ _ _ _ _ _ _ _ _ _ _ _ _ _ _ _ _ _ _ _ _ _ w (Lib.hid (rleast_ls p p fp fp)) (Lib.hid (rmost_ms p p fp fp)) (Lib.hid (rleast_ls _ q l1 fq)) (Lib.hid (rmost_ms _ q m1 fq)) (Lib.hid (rleast_ls _ r l2 fr)) (Lib.hid (rmost_ms _ r m2 fr)) (Lib.hid (rleast_ls _ s l3 fs)) (Lib.hid (rmost_ms _ s m3 fs))

/-- Four numbers as they come: with what does not fit given as 0. -/
theorem four_any (p q r s : Rat) (w : World) :
    Calls Try.prog 119 #[.agg #[.int .i64 (rn p), .int .i64 (rd p), .int .i64 (rn q), .int .i64 (rd q), .int .i64 (rn r), .int .i64 (rd r), .int .i64 (rn s), .int .i64 (rd s)], .agg #[.bool (decide (re p = 0)), .bool (decide (re q = 0)), .bool (decide (re r = 0)), .bool (decide (re s = 0))]] w fun e w' => e = .returned (.tuple #[.agg #[.int .i64 (oz (fits p ∧ fits q ∧ fits r ∧ fits s) (fn (loQ p [q, r, s]))), .int .i64 (oz (fits p ∧ fits q ∧ fits r ∧ fits s) (fd (loQ p [q, r, s]))), .int .i64 (oz (fits p ∧ fits q ∧ fits r ∧ fits s) (fn (hiQ p [q, r, s]))), .int .i64 (oz (fits p ∧ fits q ∧ fits r ∧ fits s) (fd (hiQ p [q, r, s])))], .int .i64 (oe (fits p ∧ fits q ∧ fits r ∧ fits s))]) ∧ Below w.heap.size w w' := by
  by_cases h : fits p ∧ fits q ∧ fits r ∧ fits s
  · rw [oz_yes h, oz_yes h, oz_yes h, oz_yes h, oe_yes h]
    obtain ⟨fp, fq, fr', fs⟩ := h
    rw [rn_yes fp, rd_yes fp, rn_yes fq, rd_yes fq, rn_yes fr', rd_yes fr', rn_yes fs, rd_yes fs, re_dec_yes fp, re_dec_yes fq, re_dec_yes fr', re_dec_yes fs]
    exact four_q p q r s fp fq fr' fs w
  · rw [oz_no h, oz_no h, oz_no h, oz_no h, oe_no h]
    refine four_no _ _ _ _ _ _ _ _ _ _ _ _ w (fun k => h ?_)
    have g : ∀ x : Rat, decide (re x = 0) = true → fits x := fun x hx => by
      by_cases hf : fits x
      · exact hf
      · rw [re_dec_no hf] at hx; cases hx
    exact ⟨g _ k.1, g _ k.2.1, g _ k.2.2.1, g _ k.2.2.2⟩

/-- The arguments are numbers of the machine. -/
def Num4 (a c p r : Int) : Prop := (-9223372036854775808 ≤ a ∧ a ≤ 9223372036854775807) ∧ (-9223372036854775808 ≤ c ∧ c ≤ 9223372036854775807) ∧ (-9223372036854775808 ≤ p ∧ p ≤ 9223372036854775807) ∧ (-9223372036854775808 ≤ r ∧ r ≤ 9223372036854775807)

/-- An enclosure that is valid, as the document has it. -/
theorem rvs_true (l h : Rat) (fl : fits l) (fh : fits h) (hlh : l ≤ h) (w : World) :
    Calls Try.prog 77 #[.agg #[.int .i64 (fn l), .int .i64 (fd l), .int .i64 (fn h), .int .i64 (fd h)]] w fun e w' => e = .returned (.bool true) ∧ Below w.heap.size w w' := by
  have bl := fl; have bh := fh
  unfold fits at bl bh
  obtain ⟨v, hv, k⟩ := rvalidSpan (fn l) (fd l) (fn h) (fd h) (by omega) (by omega) (by omega) (by omega)
  rw [hv.2 ⟨l, h, fl, fh, rfl, rfl, rfl, rfl, hlh⟩] at k
  exact k w

end Go.Proofs.Yticclcimelibdaa
