/-
  Layer 1: the calls on enclosures answer as the document's own.
-/
import Derived.Test.YthkeebcbgbidgaaRefS6
import Derived.Test.YthkeebcbgbidgaaMeetQ
import Derived.Test.YthkeebcbgbidgaaInAny
import Derived.Test.YthkeebcbgbidgaaRef10
namespace Go.Proofs.Ythkeebcbgbidgaa
open Go.RowKit
set_option linter.unusedVariables false
set_option linter.unusedSimpArgs false

/-- The lesser, and the greater, of two numbers as the document has them. -/
def lsQ (q r : Rat) : Rat := if q ≤ r then q else r
def msQ (q r : Rat) : Rat := if r ≤ q then q else r
theorem lsQ_eq (q r : Rat) : lsQ q r = if r < q then r else q := by
  unfold lsQ
  by_cases h : q ≤ r
  · rw [if_pos h, if_neg (Rat.not_lt.2 h)]
  · rw [if_neg h, if_pos (Rat.not_le.1 h)]
theorem msQ_eq (q r : Rat) : msQ q r = if q < r then r else q := by
  unfold msQ
  by_cases h : r ≤ q
  · rw [if_pos h, if_neg (Rat.not_lt.2 h)]
  · rw [if_neg h, if_pos (Rat.not_le.1 h)]
theorem lsQ_self (q : Rat) : lsQ q q = q := by unfold lsQ; exact ite_self q
theorem msQ_self (q : Rat) : msQ q q = q := by unfold msQ; exact ite_self q
theorem lsQ_fits {q r : Rat} (hq : fits q) (hr : fits r) : fits (lsQ q r) := by unfold lsQ; split <;> assumption
theorem msQ_fits {q r : Rat} (hq : fits q) (hr : fits r) : fits (msQ q r) := by unfold msQ; split <;> assumption
theorem loQ_1 (p q : Rat) : loQ p [q] = lsQ p q := by rw [lsQ_eq]; rfl
theorem hiQ_1 (p q : Rat) : hiQ p [q] = msQ p q := by rw [msQ_eq]; rfl
theorem loQ_3 (p q r s : Rat) : loQ p [q, r, s] = lsQ (lsQ (lsQ (lsQ p p) q) r) s := by
  rw [lsQ_self]; simp only [lsQ_eq]; rfl
theorem hiQ_3 (p q r s : Rat) : hiQ p [q, r, s] = msQ (msQ (msQ (msQ p p) q) r) s := by
  rw [msQ_self]; simp only [msQ_eq]; rfl
theorem loQ_same (p q r s p' q' r' s' : Rat) (h1 : p = q') (h2 : q = p') (h3 : r = s') (h4 : s = r') : loQ p [q, r, s] = loQ p' [q', r', s'] := by
  subst h1 h2 h3 h4
  obtain ⟨a1, a2, a3, a4, a5⟩ := loQ3 p q r s
  obtain ⟨b1, b2, b3, b4, b5⟩ := loQ3 q p s r
  grind
theorem hiQ_same (p q r s p' q' r' s' : Rat) (h1 : p = q') (h2 : q = p') (h3 : r = s') (h4 : s = r') : hiQ p [q, r, s] = hiQ p' [q', r', s'] := by
  subst h1 h2 h3 h4
  obtain ⟨a1, a2, a3, a4, a5⟩ := hiQ3 p q r s
  obtain ⟨b1, b2, b3, b4, b5⟩ := hiQ3 q p s r
  grind
theorem loQ_join (l h m k : Rat) (h1 : l ≤ h) (h2 : m ≤ k) : loQ l [h, m, k] = lsQ l m := by
  obtain ⟨a1, a2, a3, a4, a5⟩ := loQ3 l h m k
  unfold lsQ; grind
theorem hiQ_join (l h m k : Rat) (h1 : l ≤ h) (h2 : m ≤ k) : hiQ l [h, m, k] = msQ h k := by
  obtain ⟨a1, a2, a3, a4, a5⟩ := hiQ3 l h m k
  unfold msQ; grind
theorem re_dec_yes {x : Rat} (h : fits x) : decide (re x = 0) = true := decide_eq_true (re_yes h)
theorem re_dec_no {x : Rat} (h : ¬ fits x) : decide (re x = 0) = false := decide_eq_false (by rw [re_no h]; decide)

theorem rleast_ls (q r : Rat) (hq : fits q) (hr : fits r) (w : World) :
    Calls Try.prog 65 #[.agg #[.int .i64 (fn q), .int .i64 (fd q)], .agg #[.int .i64 (fn r), .int .i64 (fd r)]] w fun e w' => e = .returned (.agg #[.int .i64 (fn (lsQ q r)), .int .i64 (fd (lsQ q r))]) ∧ Below w.heap.size w w' := rleast_q q r hq hr w
theorem rmost_ms (q r : Rat) (hq : fits q) (hr : fits r) (w : World) :
    Calls Try.prog 64 #[.agg #[.int .i64 (fn q), .int .i64 (fd q)], .agg #[.int .i64 (fn r), .int .i64 (fd r)]] w fun e w' => e = .returned (.agg #[.int .i64 (fn (msQ q r)), .int .i64 (fd (msQ q r))]) ∧ Below w.heap.size w w' := rmost_q q r hq hr w

/-- Four numbers that fit. -/
theorem four_q (p q r s : Rat) (fp : fits p) (fq : fits q) (fr : fits r) (fs : fits s) (w : World) :
    Calls Try.prog 62 #[.agg #[.int .i64 (fn p), .int .i64 (fd p), .int .i64 (fn q), .int .i64 (fd q), .int .i64 (fn r), .int .i64 (fd r), .int .i64 (fn s), .int .i64 (fd s)], .agg #[.bool true, .bool true, .bool true, .bool true]] w fun e w' => e = .returned (.tuple #[.agg #[.int .i64 (fn (loQ p [q, r, s])), .int .i64 (fd (loQ p [q, r, s])), .int .i64 (fn (hiQ p [q, r, s])), .int .i64 (fd (hiQ p [q, r, s]))], .int .i64 0]) ∧ Below w.heap.size w w' := by
  rw [loQ_3, hiQ_3]
  have l1 := lsQ_fits fp fp; have l2 := lsQ_fits l1 fq; have l3 := lsQ_fits l2 fr
  have m1 := msQ_fits fp fp; have m2 := msQ_fits m1 fq; have m3 := msQ_fits m2 fr
  exact four_yes _ _ _ _ _ _ _ _ _ _ _ _ _ _ _ _ _ _ _ _ _ _ _ _ w (Lib.hid (rleast_ls p p fp fp)) (Lib.hid (rmost_ms p p fp fp)) (Lib.hid (rleast_ls _ q l1 fq)) (Lib.hid (rmost_ms _ q m1 fq)) (Lib.hid (rleast_ls _ r l2 fr)) (Lib.hid (rmost_ms _ r m2 fr)) (Lib.hid (rleast_ls _ s l3 fs)) (Lib.hid (rmost_ms _ s m3 fs))

/-- Four numbers as they come: with what does not fit given as 0. -/
theorem four_any (p q r s : Rat) (w : World) :
    Calls Try.prog 62 #[.agg #[.int .i64 (rn p), .int .i64 (rd p), .int .i64 (rn q), .int .i64 (rd q), .int .i64 (rn r), .int .i64 (rd r), .int .i64 (rn s), .int .i64 (rd s)], .agg #[.bool (decide (re p = 0)), .bool (decide (re q = 0)), .bool (decide (re r = 0)), .bool (decide (re s = 0))]] w fun e w' => e = .returned (.tuple #[.agg #[.int .i64 (oz (fits p ∧ fits q ∧ fits r ∧ fits s) (fn (loQ p [q, r, s]))), .int .i64 (oz (fits p ∧ fits q ∧ fits r ∧ fits s) (fd (loQ p [q, r, s]))), .int .i64 (oz (fits p ∧ fits q ∧ fits r ∧ fits s) (fn (hiQ p [q, r, s]))), .int .i64 (oz (fits p ∧ fits q ∧ fits r ∧ fits s) (fd (hiQ p [q, r, s])))], .int .i64 (oe (fits p ∧ fits q ∧ fits r ∧ fits s))]) ∧ Below w.heap.size w w' := by
  by_cases h : fits p ∧ fits q ∧ fits r ∧ fits s
  · rw [oz_yes h, oz_yes h, oz_yes h, oz_yes h, oe_yes h]
    obtain ⟨fp, fq, fr', fs⟩ := h
    rw [rn_yes fp, rd_yes fp, rn_yes fq, rd_yes fq, rn_yes fr', rd_yes fr', rn_yes fs, rd_yes fs, re_dec_yes fp, re_dec_yes fq, re_dec_yes fr', re_dec_yes fs]
    exact four_q p q r s fp fq fr' fs w
  · rw [oz_no h, oz_no h, oz_no h, oz_no h, oe_no h]
    refine four_no _ _ _ _ _ _ _ _ _ _ _ _ w (fun k => h ?_)
    have g : ∀ x : Rat, decide (re x = 0) = true → fits x := fun x hx => by
      by_cases hf : fits x
      · exact hf
      · rw [re_dec_no hf] at hx; cases hx
    exact ⟨g _ k.1, g _ k.2.1, g _ k.2.2.1, g _ k.2.2.2⟩

set_option maxHeartbeats 1000000 in
theorem meet_bad (a b c d a' b' c' d' : Int) (h : ¬ (okS a b c d ∧ okS a' b' c' d')) (w : World) :
    Calls Try.prog 31 #[.agg #[.int .i64 a, .int .i64 b, .int .i64 c, .int .i64 d], .agg #[.int .i64 a', .int .i64 b', .int .i64 c', .int .i64 d']] w fun e w' => e = .returned (.tuple #[.agg #[.int .i64 0, .int .i64 0, .int .i64 0, .int .i64 0], .int .i64 8]) ∧ Below w.heap.size w w' := by
  have he : ckS2 a b c d a' b' c' d' = 8 := ckS2_no h
  have HC : Hid (∀ B (w : World), w.cell? ⟨B, 0, none⟩ = some (.int .i64 a) → w.cell? ⟨B, 1, none⟩ = some (.int .i64 b) → w.cell? ⟨B, 2, none⟩ = some (.int .i64 c) → w.cell? ⟨B, 3, none⟩ = some (.int .i64 d) → w.cell? ⟨B, 4, none⟩ = some (.int .i64 a') → w.cell? ⟨B, 5, none⟩ = some (.int .i64 b') → w.cell? ⟨B, 6, none⟩ = some (.int .i64 c') → w.cell? ⟨B, 7, none⟩ = some (.int .i64 d') →
      Calls Try.prog 56 #[.slice (some ⟨B, 0, none⟩) 2 2] w fun e w' => e = .returned (.int .i64 8) ∧ Below w.heap.size w w') := by
    intro B w h0 h1 h2 h3 h4 h5 h6 h7; have := checkSpans_2 a b c d a' b' c' d' B w h0 h1 h2 h3 h4 h5 h6 h7; rw [he] at this; exact this
  clear he h
  go_enter Try.func31, Try.ntmps31
  go_wp2_with (go_at_call 56; (with_reducible refine (HC.out _ _ (by simp [go_sem]) (by simp [go_sem]) (by simp [go_sem]) (by simp [go_sem]) (by simp [go_sem]) (by simp [go_sem]) (by simp [go_sem]) (by simp [go_sem])).mono ?_); rintro e w1 ⟨rfl, hb⟩; obtain ⟨hc, hf⟩ := bcell hb; (try simp only [World.heap_drewN] at hc hf); (try simp only [heap_drew] at hc hf); have hz := hb.size; (try simp at hz); try (have hz0 : w.heap.size < w1.heap.size := by omega); try (have hz1 : w.heap.size + 1 < w1.heap.size := by omega); try (have hz2 : w.heap.size + 1 + 1 < w1.heap.size := by omega); try (have hz3 : w.heap.size + 1 + 1 + 1 < w1.heap.size := by omega); try (have hz4 : w.heap.size + 1 + 1 + 1 + 1 < w1.heap.size := by omega); try (have hz5 : w.heap.size + 1 + 1 + 1 + 1 + 1 < w1.heap.size := by omega))
  exact bodyPost_ret (v := .tuple #[.agg #[.int .i64 0, .int .i64 0, .int .i64 0, .int .i64 0], .int .i64 8]) (by simp only [results, Try.results31]; go_simp) rfl ⟨rfl, by (repeat' (first | (with_reducible exact Below.refl _ _) | (with_reducible assumption) | (with_reducible refine belowThru ?_ (by assumption)) | (with_reducible refine belowAlloc ?_) | (with_reducible refine Below.setCell ?_ (by first | omega | (simp; done) | (simp; omega)) _) | (with_reducible refine Below.drew ?_) | (with_reducible refine below_drewN ?_ _)))⟩

/-- Two functions give one answer for two enclosures. -/
def Agree (F G : FuncId) (a b c d p q r s : Int) : Prop :=
  ∃ A B C D E : Int, (∀ w, Calls Try.prog F #[.agg #[.int .i64 a, .int .i64 b, .int .i64 c, .int .i64 d], .agg #[.int .i64 p, .int .i64 q, .int .i64 r, .int .i64 s]] w fun e w' => e = .returned (.tuple #[.agg #[.int .i64 A, .int .i64 B, .int .i64 C, .int .i64 D], .int .i64 E]) ∧ Below w.heap.size w w') ∧
    (∀ w, Calls Try.prog G #[.agg #[.int .i64 a, .int .i64 b, .int .i64 c, .int .i64 d], .agg #[.int .i64 p, .int .i64 q, .int .i64 r, .int .i64 s]] w fun e w' => e = .returned (.tuple #[.agg #[.int .i64 A, .int .i64 B, .int .i64 C, .int .i64 D], .int .i64 E]) ∧ Below w.heap.size w w')
/-- The arguments are numbers of the machine. -/
def Num4 (a c p r : Int) : Prop := (-9223372036854775808 ≤ a ∧ a ≤ 9223372036854775807) ∧ (-9223372036854775808 ≤ c ∧ c ≤ 9223372036854775807) ∧ (-9223372036854775808 ≤ p ∧ p ≤ 9223372036854775807) ∧ (-9223372036854775808 ≤ r ∧ r ≤ 9223372036854775807)

/-- An enclosure that is valid, as the document has it. -/
theorem rvs_true (l h : Rat) (fl : fits l) (fh : fits h) (hlh : l ≤ h) (w : World) :
    Calls Try.prog 58 #[.agg #[.int .i64 (fn l), .int .i64 (fd l), .int .i64 (fn h), .int .i64 (fd h)]] w fun e w' => e = .returned (.bool true) ∧ Below w.heap.size w w' := by
  have bl := fl; have bh := fh
  unfold fits at bl bh
  obtain ⟨v, hv, k⟩ := rvalidSpan (fn l) (fd l) (fn h) (fd h) (by omega) (by omega) (by omega) (by omega)
  rw [hv.2 ⟨l, h, fl, fh, rfl, rfl, rfl, rfl, hlh⟩] at k
  exact k w

theorem both_no (F G : FuncId) {a b c d p q r s : Int} (hn : Num4 a c p r) (h : ¬ (okS a b c d ∧ okS p q r s))
    (h1 : ∀ w, Calls Try.prog F #[.agg #[.int .i64 a, .int .i64 b, .int .i64 c, .int .i64 d], .agg #[.int .i64 p, .int .i64 q, .int .i64 r, .int .i64 s]] w fun e w' => e = .returned (.tuple #[.agg #[.int .i64 0, .int .i64 0, .int .i64 0, .int .i64 0], .int .i64 8]) ∧ Below w.heap.size w w')
    (h2 : ∀ x y : Bool, (∀ w, Calls Try.prog 58 #[.agg #[.int .i64 a, .int .i64 b, .int .i64 c, .int .i64 d]] w fun e w' => e = .returned (.bool x) ∧ Below w.heap.size w w') → (∀ w, Calls Try.prog 58 #[.agg #[.int .i64 p, .int .i64 q, .int .i64 r, .int .i64 s]] w fun e w' => e = .returned (.bool y) ∧ Below w.heap.size w w') → (x = false ∨ (x = true ∧ y = false)) →
      ∀ w, Calls Try.prog G #[.agg #[.int .i64 a, .int .i64 b, .int .i64 c, .int .i64 d], .agg #[.int .i64 p, .int .i64 q, .int .i64 r, .int .i64 s]] w fun e w' => e = .returned (.tuple #[.agg #[.int .i64 0, .int .i64 0, .int .i64 0, .int .i64 0], .int .i64 8]) ∧ Below w.heap.size w w') : Agree F G a b c d p q r s := by
  obtain ⟨n1, n2, n3, n4⟩ := hn
  obtain ⟨x, hx, k1⟩ := rvalidSpan a b c d n1.1 n1.2 n2.1 n2.2
  obtain ⟨y, hy, k2⟩ := rvalidSpan p q r s n3.1 n3.2 n4.1 n4.2
  refine ⟨0, 0, 0, 0, 8, h1, h2 x y k1 k2 ?_⟩
  cases x
  · exact .inl rfl
  · cases y
    · exact .inr ⟨rfl, rfl⟩
    · exact absurd ⟨hx.1 rfl, hy.1 rfl⟩ h

theorem both_add (a b c d p q r s : Int) (hn : Num4 a c p r) : Agree 23 24 a b c d p q r s := by
  by_cases h : okS a b c d ∧ okS p q r s
  · obtain ⟨⟨l, h, fl, fh, rfl, rfl, rfl, rfl, hlh⟩, ⟨m, k, fm, fk, rfl, rfl, rfl, rfl, hmk⟩⟩ := h
    refine ⟨_, _, _, _, _, addSpans_q l h m k fl fh fm fk hlh hmk, fun w => ?_⟩
    refine raddSpans_walk _ _ _ _ _ _ _ _ _ _ _ _ _ _ _ _ _ _ _ w (Lib.hid (rvs_true l h fl fh hlh)) (Lib.hid (rvs_true m k fm fk hmk)) (Lib.hid (rplus_q l m fl fm)) (Lib.hid (rplus_q h k fh fk)) ?_
    by_cases h1 : fits (l + m)
    · by_cases h2 : fits (h + k)
      · refine .inr (.inr ⟨re_dec_yes h1, re_dec_yes h2, ?_⟩)
        rw [oz_yes ⟨h1, h2⟩, oz_yes ⟨h1, h2⟩, oz_yes ⟨h1, h2⟩, oz_yes ⟨h1, h2⟩, oe_yes ⟨h1, h2⟩, rn_yes h1, rd_yes h1, rn_yes h2, rd_yes h2]
        exact ⟨rfl, rfl, rfl, rfl, rfl⟩
      · have hh : ¬ (fits (l + m) ∧ fits (h + k)) := fun x => h2 x.2
        exact .inr (.inl ⟨re_dec_yes h1, re_dec_no h2, oz_no hh _, oz_no hh _, oz_no hh _, oz_no hh _, oe_no hh⟩)
    · have hh : ¬ (fits (l + m) ∧ fits (h + k)) := fun x => h1 x.1
      exact .inl ⟨re_dec_no h1, oz_no hh _, oz_no hh _, oz_no hh _, oz_no hh _, oe_no hh⟩
  · exact both_no _ _ hn h (addSpans_bad a b c d p q r s h) (fun x y h1 h2 h3 w => raddSpans_no a b c d p q r s x y w (Lib.hid h1) (Lib.hid h2) h3)

theorem both_sub (a b c d p q r s : Int) (hn : Num4 a c p r) : Agree 25 26 a b c d p q r s := by
  by_cases h : okS a b c d ∧ okS p q r s
  · obtain ⟨⟨l, h, fl, fh, rfl, rfl, rfl, rfl, hlh⟩, ⟨m, k, fm, fk, rfl, rfl, rfl, rfl, hmk⟩⟩ := h
    refine ⟨_, _, _, _, _, subSpans_q l h m k fl fh fm fk hlh hmk, fun w => ?_⟩
    have hkm : -k ≤ -m := by grind
    refine rsubSpans_walk _ _ _ _ _ _ _ _ _ _ _ _ _ _ _ _ _ w (Lib.hid (rvs_true l h fl fh hlh)) (Lib.hid (rvs_true m k fm fk hmk)) (Lib.hid (rneg_q k fk)) (Lib.hid (rneg_q m fm)) (Lib.hid (fun w => ?_))
    refine raddSpans_walk _ _ _ _ _ _ _ _ _ _ _ _ _ _ _ _ _ _ _ w (Lib.hid (rvs_true l h fl fh hlh)) (Lib.hid (rvs_true (-k) (-m) (fits_neg k fk) (fits_neg m fm) hkm)) (Lib.hid (rplus_q l (-k) fl (fits_neg k fk))) (Lib.hid (rplus_q h (-m) fh (fits_neg m fm))) ?_
    rw [← Rat.sub_eq_add_neg, ← Rat.sub_eq_add_neg]
    by_cases h1 : fits (l - k)
    · by_cases h2 : fits (h - m)
      · refine .inr (.inr ⟨re_dec_yes h1, re_dec_yes h2, ?_⟩)
        rw [oz_yes ⟨h1, h2⟩, oz_yes ⟨h1, h2⟩, oz_yes ⟨h1, h2⟩, oz_yes ⟨h1, h2⟩, oe_yes ⟨h1, h2⟩, rn_yes h1, rd_yes h1, rn_yes h2, rd_yes h2]
        exact ⟨rfl, rfl, rfl, rfl, rfl⟩
      · have hh : ¬ (fits (l - k) ∧ fits (h - m)) := fun x => h2 x.2
        exact .inr (.inl ⟨re_dec_yes h1, re_dec_no h2, oz_no hh _, oz_no hh _, oz_no hh _, oz_no hh _, oe_no hh⟩)
    · have hh : ¬ (fits (l - k) ∧ fits (h - m)) := fun x => h1 x.1
      exact .inl ⟨re_dec_no h1, oz_no hh _, oz_no hh _, oz_no hh _, oz_no hh _, oe_no hh⟩
  · exact both_no _ _ hn h (subSpans_bad a b c d p q r s h) (fun x y h1 h2 h3 w => rsubSpans_no a b c d p q r s x y w (Lib.hid h1) (Lib.hid h2) h3)

theorem both_mul (a b c d p q r s : Int) (hn : Num4 a c p r) : Agree 27 28 a b c d p q r s := by
  by_cases h : okS a b c d ∧ okS p q r s
  · obtain ⟨⟨l, h, fl, fh, rfl, rfl, rfl, rfl, hlh⟩, ⟨m, k, fm, fk, rfl, rfl, rfl, rfl, hmk⟩⟩ := h
    exact ⟨_, _, _, _, _, mulSpans_q l h m k fl fh fm fk hlh hmk, fun w => rmulSpans_walk _ _ _ _ _ _ _ _ _ _ _ _ _ _ _ _ _ _ _ _ _ _ _ _ _ w (Lib.hid (rvs_true l h fl fh hlh)) (Lib.hid (rvs_true m k fm fk hmk)) (Lib.hid (rtimes_q l m fl fm)) (Lib.hid (rtimes_q l k fl fk)) (Lib.hid (rtimes_q h m fh fm)) (Lib.hid (rtimes_q h k fh fk)) (Lib.hid (four_any (l * m) (l * k) (h * m) (h * k)))⟩
  · exact both_no _ _ hn h (mulSpans_bad a b c d p q r s h) (fun x y h1 h2 h3 w => rmulSpans_no a b c d p q r s x y w (Lib.hid h1) (Lib.hid h2) h3)

theorem both_div (a b c d p q r s : Int) (hn : Num4 a c p r) : Agree 29 30 a b c d p q r s := by
  by_cases h : okS a b c d ∧ okS p q r s
  · obtain ⟨⟨l, h, fl, fh, rfl, rfl, rfl, rfl, hlh⟩, ⟨m, k, fm, fk, rfl, rfl, rfl, rfl, hmk⟩⟩ := h
    by_cases hz : hasQ m k 0 = true
    · refine ⟨_, _, _, _, _, divSpans_z l h m k fl fh fm fk hlh hmk hz, fun w => rdivSpans_zero _ _ _ _ _ _ _ _ w (Lib.hid (rvs_true l h fl fh hlh)) (Lib.hid (rvs_true m k fm fk hmk)) (Lib.hid (fun w => ?_))⟩
      rw [← hz]; exact rhas_q m k 0 fm fk fits_zero w
    · have hz' : hasQ m k 0 = false := by cases x : hasQ m k 0; rfl; exact absurd x hz
      obtain ⟨nm, nk⟩ := ne_of_not_has hmk hz'
      refine ⟨_, _, _, _, _, divSpans_q l h m k fl fh fm fk hlh hmk hz', fun w => ?_⟩
      have e1 := loQ_same (l * k⁻¹) (l * m⁻¹) (h * k⁻¹) (h * m⁻¹) (l / m) (l / k) (h / m) (h / k) (Rat.div_def _ _).symm (Rat.div_def _ _).symm (Rat.div_def _ _).symm (Rat.div_def _ _).symm
      have e2 := hiQ_same (l * k⁻¹) (l * m⁻¹) (h * k⁻¹) (h * m⁻¹) (l / m) (l / k) (h / m) (h / k) (Rat.div_def _ _).symm (Rat.div_def _ _).symm (Rat.div_def _ _).symm (Rat.div_def _ _).symm
      have e3 : (fits (l * k⁻¹) ∧ fits (l * m⁻¹) ∧ fits (h * k⁻¹) ∧ fits (h * m⁻¹)) = (fits (l / m) ∧ fits (l / k) ∧ fits (h / m) ∧ fits (h / k)) := by
        rw [← Rat.div_def, ← Rat.div_def, ← Rat.div_def, ← Rat.div_def]
        exact propext ⟨fun ⟨a, b, c, d⟩ => ⟨b, a, d, c⟩, fun ⟨a, b, c, d⟩ => ⟨b, a, d, c⟩⟩
      rw [e1, e2, e3]
      refine rdivSpans_walk _ _ _ _ _ _ _ _ _ _ _ _ _ _ _ _ _ _ _ _ _ _ _ _ _ w (Lib.hid (rvs_true l h fl fh hlh)) (Lib.hid (rvs_true m k fm fk hmk)) (Lib.hid (fun w => ?_)) (Lib.hid (rover_q l m fl fm nm)) (Lib.hid (rover_q l k fl fk nk)) (Lib.hid (rover_q h m fh fm nm)) (Lib.hid (rover_q h k fh fk nk)) (Lib.hid (four_any (l / m) (l / k) (h / m) (h / k)))
      rw [← hz']; exact rhas_q m k 0 fm fk fits_zero w
  · exact both_no _ _ hn h (divSpans_bad a b c d p q r s h) (fun x y h1 h2 h3 w => rdivSpans_no a b c d p q r s x y w (Lib.hid h1) (Lib.hid h2) h3)

theorem both_join (a b c d p q r s : Int) (hn : Num4 a c p r) : Agree 33 34 a b c d p q r s := by
  by_cases h : okS a b c d ∧ okS p q r s
  · obtain ⟨⟨l, h, fl, fh, rfl, rfl, rfl, rfl, hlh⟩, ⟨m, k, fm, fk, rfl, rfl, rfl, rfl, hmk⟩⟩ := h
    refine ⟨_, _, _, _, _, join_q l h m k fl fh fm fk hlh hmk, fun w => ?_⟩
    rw [loQ_join l h m k hlh hmk, hiQ_join l h m k hlh hmk]
    exact rjoin_walk _ _ _ _ _ _ _ _ _ _ _ _ 0 0 0 0 0 w (Lib.hid (rvs_true l h fl fh hlh)) (Lib.hid (rvs_true m k fm fk hmk)) (Lib.hid (rleast_ls l m fl fm)) (Lib.hid (rmost_ms h k fh fk))
  · exact both_no _ _ hn h (join_bad a b c d p q r s h) (fun x y h1 h2 h3 w => rjoin_no a b c d p q r s x y w (Lib.hid h1) (Lib.hid h2) h3)

theorem both_meet (a b c d p q r s : Int) (hn : Num4 a c p r) : Agree 31 32 a b c d p q r s := by
  by_cases h : okS a b c d ∧ okS p q r s
  · obtain ⟨⟨l, h, fl, fh, rfl, rfl, rfl, rfl, hlh⟩, ⟨m, k, fm, fk, rfl, rfl, rfl, rfl, hmk⟩⟩ := h
    have HU := hull1 l m fl fm
    have HV := hull1 h k fh fk
    rw [hiQ_1] at HU
    rw [loQ_1 h k] at HV
    have fL := msQ_fits fl fm
    have fH := lsQ_fits fh fk
    have hd : (ckS2 (fn l) (fd l) (fn h) (fd h) (fn m) (fd m) (fn k) (fd k) != 0) = false := by rw [ckS2_ok ⟨l, h, fl, fh, rfl, rfl, rfl, rfl, hlh⟩ ⟨m, k, fm, fk, rfl, rfl, rfl, rfl, hmk⟩]; rfl
    by_cases c : 0 < ordQ (msQ l m) (lsQ h k)
    · exact ⟨0, 0, 0, 0, 6, fun w => meet_walk _ _ _ _ _ _ _ _ _ _ _ _ _ _ _ _ _ _ _ _ _ _ w hd HU HV (order_q _ _ fL fH) (.inl ⟨c, rfl, rfl, rfl, rfl, rfl⟩),
        fun w => rmeet_walk _ _ _ _ _ _ _ _ _ _ _ _ _ _ _ _ _ _ w (Lib.hid (rvs_true l h fl fh hlh)) (Lib.hid (rvs_true m k fm fk hmk)) (Lib.hid (rmost_ms l m fl fm)) (Lib.hid (rleast_ls h k fh fk)) (Lib.hid (rorder_q _ _ fL fH)) (.inl ⟨c, rfl, rfl, rfl, rfl, rfl⟩)⟩
    · exact ⟨_, _, _, _, 0, fun w => meet_walk _ _ _ _ _ _ _ _ _ _ _ _ _ _ _ _ _ _ _ _ _ _ w hd HU HV (order_q _ _ fL fH) (.inr ⟨c, rfl, rfl, rfl, rfl, rfl⟩),
        fun w => rmeet_walk _ _ _ _ _ _ _ _ _ _ _ _ _ _ _ _ _ _ w (Lib.hid (rvs_true l h fl fh hlh)) (Lib.hid (rvs_true m k fm fk hmk)) (Lib.hid (rmost_ms l m fl fm)) (Lib.hid (rleast_ls h k fh fk)) (Lib.hid (rorder_q _ _ fL fH)) (.inr ⟨c, rfl, rfl, rfl, rfl, rfl⟩)⟩
  · exact both_no _ _ hn h (meet_bad a b c d p q r s h) (fun x y h1 h2 h3 w => rmeet_no a b c d p q r s x y w (Lib.hid h1) (Lib.hid h2) h3)

theorem both_in (a b c d x y : Int) (ha : -9223372036854775808 ≤ a ∧ a ≤ 9223372036854775807) (hc : -9223372036854775808 ≤ c ∧ c ≤ 9223372036854775807) (hx : -9223372036854775808 ≤ x ∧ x ≤ 9223372036854775807) :
    ∃ (v : Bool) (E : Int), (∀ w, Calls Try.prog 19 #[.agg #[.int .i64 a, .int .i64 b, .int .i64 c, .int .i64 d], .agg #[.int .i64 x, .int .i64 y]] w fun e w' => e = .returned (.tuple #[.bool v, .int .i64 E]) ∧ Below w.heap.size w w') ∧
      (∀ w, Calls Try.prog 20 #[.agg #[.int .i64 a, .int .i64 b, .int .i64 c, .int .i64 d], .agg #[.int .i64 x, .int .i64 y]] w fun e w' => e = .returned (.tuple #[.bool v, .int .i64 E]) ∧ Below w.heap.size w w') := by
  obtain ⟨p, hp, h1⟩ := rvalidSpan a b c d ha.1 ha.2 hc.1 hc.2
  obtain ⟨q, hq, h2⟩ := valid_cases x y hx.1 hx.2
  cases p
  · exact ⟨false, 8, in_bad1 a b c d x y (fun k => by cases hp.2 k), fun w => rin_walk _ _ _ _ _ _ _ _ _ false _ w (Lib.hid h1) (Lib.hid h2) (.inl ⟨rfl, rfl, rfl⟩)⟩
  · cases q
    · exact ⟨false, 8, in_bad2 a b c d x y (hp.1 rfl) (fun k => by cases hq.2 k), fun w => rin_walk _ _ _ _ _ _ _ _ _ false _ w (Lib.hid h1) (Lib.hid h2) (.inr (.inl ⟨rfl, rfl, rfl, rfl⟩))⟩
    · obtain ⟨l, h, fl, fh, rfl, rfl, rfl, rfl, hlh⟩ := hp.1 rfl
      obtain ⟨z, fz, rfl, rfl⟩ := (okF_iff _ _).1 (hq.1 rfl)
      exact ⟨_, 0, in_q l h z fl fh fz hlh, fun w => rin_walk _ _ _ _ _ _ _ _ _ _ _ w (Lib.hid h1) (Lib.hid h2) (.inr (.inr ⟨rfl, rfl, Lib.hid (rhas_q l h z fl fh fz), rfl, rfl⟩))⟩
end Go.Proofs.Ythkeebcbgbidgaa
