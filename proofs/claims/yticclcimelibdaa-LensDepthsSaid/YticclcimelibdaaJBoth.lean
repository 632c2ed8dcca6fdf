/-
  Layer 1: differences of enclosures, both sides, with the bounds of what they return.
-/
import Derived.Test.YticclcimelibdaaRefS7
namespace Go.Proofs.Yticclcimelibdaa
open Go.RowKit
set_option linter.unusedVariables false
set_option linter.unusedSimpArgs false

/-- A number of the machine. -/
def I64 (a : Int) : Prop := -9223372036854775808 ≤ a ∧ a ≤ 9223372036854775807
/-- Two functions give one answer for two enclosures, and its numerators are numbers of the machine. -/
def AgreeB (F G : FuncId) (a b c d p q r s : Int) : Prop :=
  ∃ A B C D E : Int, (∀ w, Calls Try.prog F #[.agg #[.int .i64 a, .int .i64 b, .int .i64 c, .int .i64 d], .agg #[.int .i64 p, .int .i64 q, .int .i64 r, .int .i64 s]] w fun e w' => e = .returned (.tuple #[.agg #[.int .i64 A, .int .i64 B, .int .i64 C, .int .i64 D], .int .i64 E]) ∧ Below w.heap.size w w') ∧
    (∀ w, Calls Try.prog G #[.agg #[.int .i64 a, .int .i64 b, .int .i64 c, .int .i64 d], .agg #[.int .i64 p, .int .i64 q, .int .i64 r, .int .i64 s]] w fun e w' => e = .returned (.tuple #[.agg #[.int .i64 A, .int .i64 B, .int .i64 C, .int .i64 D], .int .i64 E]) ∧ Below w.heap.size w w') ∧ I64 A ∧ I64 C
theorem oz_in {ok : Prop} {q : Rat} (h : ok → fits q) : I64 (oz ok (fn q)) := by
  by_cases k : ok
  · rw [oz_yes k]
    have := h k
    unfold fits at this
    unfold I64
    omega
  · rw [oz_no k]; exact ⟨by decide, by decide⟩
theorem both_noB (F G : FuncId) {a b c d p q r s : Int} (hn : Num4 a c p r) (h : ¬ (okS a b c d ∧ okS p q r s))
    (h1 : ∀ w, Calls Try.prog F #[.agg #[.int .i64 a, .int .i64 b, .int .i64 c, .int .i64 d], .agg #[.int .i64 p, .int .i64 q, .int .i64 r, .int .i64 s]] w fun e w' => e = .returned (.tuple #[.agg #[.int .i64 0, .int .i64 0, .int .i64 0, .int .i64 0], .int .i64 8]) ∧ Below w.heap.size w w')
    (h2 : ∀ x y : Bool, (∀ w, Calls Try.prog 77 #[.agg #[.int .i64 a, .int .i64 b, .int .i64 c, .int .i64 d]] w fun e w' => e = .returned (.bool x) ∧ Below w.heap.size w w') → (∀ w, Calls Try.prog 77 #[.agg #[.int .i64 p, .int .i64 q, .int .i64 r, .int .i64 s]] w fun e w' => e = .returned (.bool y) ∧ Below w.heap.size w w') → (x = false ∨ (x = true ∧ y = false)) →
      ∀ w, Calls Try.prog G #[.agg #[.int .i64 a, .int .i64 b, .int .i64 c, .int .i64 d], .agg #[.int .i64 p, .int .i64 q, .int .i64 r, .int .i64 s]] w fun e w' => e = .returned (.tuple #[.agg #[.int .i64 0, .int .i64 0, .int .i64 0, .int .i64 0], .int .i64 8]) ∧ Below w.heap.size w w') : AgreeB F G a b c d p q r s := by
  obtain ⟨n1, n2, n3, n4⟩ := hn
  obtain ⟨x, hx, k1⟩ := rvalidSpan a b c d n1.1 n1.2 n2.1 n2.2
  obtain ⟨y, hy, k2⟩ := rvalidSpan p q r s n3.1 n3.2 n4.1 n4.2
  refine ⟨0, 0, 0, 0, 8, h1, h2 x y k1 k2 ?_, ⟨by decide, by decide⟩, ⟨by decide, by decide⟩⟩
  cases x
  · exact .inl rfl
  · cases y
    · exact .inr ⟨rfl, rfl⟩
    · exact absurd ⟨hx.1 rfl, hy.1 rfl⟩ h
theorem loQ_fits4 {p q r s : Rat} (h1 : fits p) (h2 : fits q) (h3 : fits r) (h4 : fits s) : fits (loQ p [q, r, s]) := by
  rw [loQ_3]; exact lsQ_fits (lsQ_fits (lsQ_fits (lsQ_fits h1 h1) h2) h3) h4
theorem hiQ_fits4 {p q r s : Rat} (h1 : fits p) (h2 : fits q) (h3 : fits r) (h4 : fits s) : fits (hiQ p [q, r, s]) := by
  rw [hiQ_3]; exact msQ_fits (msQ_fits (msQ_fits (msQ_fits h1 h1) h2) h3) h4
theorem both_subB (a b c d p q r s : Int) (hn : Num4 a c p r) : AgreeB 69 83 a b c d p q r s := by
  by_cases h : okS a b c d ∧ okS p q r s
  · obtain ⟨⟨l, h, fl, fh, rfl, rfl, rfl, rfl, hlh⟩, ⟨m, k, fm, fk, rfl, rfl, rfl, rfl, hmk⟩⟩ := h
    refine ⟨_, _, _, _, _, subSpans_q l h m k fl fh fm fk hlh hmk, fun w => ?_, oz_in (fun x => x.1), oz_in (fun x => x.2)⟩
    have hkm : -k ≤ -m := by grind
    refine rsubSpans_walk _ _ _ _ _ _ _ _ _ _ _ _ _ _ _ _ _ w (Lib.hid (rvs_true l h fl fh hlh)) (Lib.hid (rvs_true m k fm fk hmk)) (Lib.hid (rneg_q k fk)) (Lib.hid (rneg_q m fm)) (Lib.hid (fun w => ?_))
    refine raddSpans_walk _ _ _ _ _ _ _ _ _ _ _ _ _ _ _ _ _ _ _ w (Lib.hid (rvs_true l h fl fh hlh)) (Lib.hid (rvs_true (-k) (-m) (fits_neg k fk) (fits_neg m fm) hkm)) (Lib.hid (rplus_q l (-k) fl (fits_neg k fk))) (Lib.hid (rplus_q h (-m) fh (fits_neg m fm))) ?_
    rw [← Rat.sub_eq_add_neg, ← Rat.sub_eq_add_neg]
    by_cases h1 : fits (l - k)
    · by_cases h2 : fits (h - m)
      · refine .inr (.inr ⟨re_dec_yes h1, re_dec_yes h2, ?_⟩)
        rw [oz_yes ⟨h1, h2⟩, oz_yes ⟨h1, h2⟩, oz_yes ⟨h1, h2⟩, oz_yes ⟨h1, h2⟩, oe_yes ⟨h1, h2⟩, rn_yes h1, rd_yes h1, rn_yes h2, rd_yes h2]
        exact ⟨rfl, rfl, rfl, rfl, rfl⟩
      · have hh : ¬ (fits (l - k) ∧ fits (h - m)) := fun x => h2 x.2
        exact .inr (.inl ⟨re_dec_yes h1, re_dec_no h2, oz_no hh _, oz_no hh _, oz_no hh _, oz_no hh _, oe_no hh⟩)
    · have hh : ¬ (fits (l - k) ∧ fits (h - m)) := fun x => h1 x.1
      exact .inl ⟨re_dec_no h1, oz_no hh _, oz_no hh _, oz_no hh _, oz_no hh _, oe_no hh⟩
  · exact both_noB _ _ hn h (subSpans_bad a b c d p q r s h) (fun x y h1 h2 h3 w => rsubSpans_no a b c d p q r s x y w (Lib.hid h1) (Lib.hid h2) h3)
theorem both_divB (a b c d p q r s : Int) (hn : Num4 a c p r) : AgreeB 70 84 a b c d p q r s := by
  by_cases h : okS a b c d ∧ okS p q r s
  · obtain ⟨⟨l, h, fl, fh, rfl, rfl, rfl, rfl, hlh⟩, ⟨m, k, fm, fk, rfl, rfl, rfl, rfl, hmk⟩⟩ := h
    by_cases hz : hasQ m k 0 = true
    · refine ⟨_, _, _, _, _, divSpans_z l h m k fl fh fm fk hlh hmk hz, fun w => rdivSpans_zero _ _ _ _ _ _ _ _ w (Lib.hid (rvs_true l h fl fh hlh)) (Lib.hid (rvs_true m k fm fk hmk)) (Lib.hid (fun w => ?_)), ⟨by decide, by decide⟩, ⟨by decide, by decide⟩⟩
      rw [← hz]; exact rhas_q m k 0 fm fk fits_zero w
    · have hz' : hasQ m k 0 = false := by cases x : hasQ m k 0; rfl; exact absurd x hz
      obtain ⟨nm, nk⟩ := ne_of_not_has hmk hz'
      refine ⟨_, _, _, _, _, divSpans_q l h m k fl fh fm fk hlh hmk hz', fun w => ?_, oz_in (fun x => loQ_fits4 x.1 x.2.1 x.2.2.1 x.2.2.2), oz_in (fun x => hiQ_fits4 x.1 x.2.1 x.2.2.1 x.2.2.2)⟩
      have e1 := loQ_same (l * k⁻¹) (l * m⁻¹) (h * k⁻¹) (h * m⁻¹) (l / m) (l / k) (h / m) (h / k) (Rat.div_def _ _).symm (Rat.div_def _ _).symm (Rat.div_def _ _).symm (Rat.div_def _ _).symm
      have e2 := hiQ_same (l * k⁻¹) (l * m⁻¹) (h * k⁻¹) (h * m⁻¹) (l / m) (l / k) (h / m) (h / k) (Rat.div_def _ _).symm (Rat.div_def _ _).symm (Rat.div_def _ _).symm (Rat.div_def _ _).symm
      have e3 : (fits (l * k⁻¹) ∧ fits (l * m⁻¹) ∧ fits (h * k⁻¹) ∧ fits (h * m⁻¹)) = (fits (l / m) ∧ fits (l / k) ∧ fits (h / m) ∧ fits (h / k)) := by
        rw [← Rat.div_def, ← Rat.div_def, ← Rat.div_def, ← Rat.div_def]
        exact propext ⟨fun ⟨a, b, c, d⟩ => ⟨b, a, d, c⟩, fun ⟨a, b, c, d⟩ => ⟨b, a, d, c⟩⟩
      rw [e1, e2, e3]
      refine rdivSpans_walk _ _ _ _ _ _ _ _ _ _ _ _ _ _ _ _ _ _ _ _ _ _ _ _ _ w (Lib.hid (rvs_true l h fl fh hlh)) (Lib.hid (rvs_true m k fm fk hmk)) (Lib.hid (fun w => ?_)) (Lib.hid (rover_q l m fl fm nm)) (Lib.hid (rover_q l k fl fk nk)) (Lib.hid (rover_q h m fh fm nm)) (Lib.hid (rover_q h k fh fk nk)) (Lib.hid (four_any (l / m) (l / k) (h / m) (h / k)))
      rw [← hz']; exact rhas_q m k 0 fm fk fits_zero w
  · exact both_noB _ _ hn h (divSpans_bad a b c d p q r s h) (fun x y h1 h2 h3 w => rdivSpans_no a b c d p q r s x y w (Lib.hid h1) (Lib.hid h2) h3)
end Go.Proofs.Yticclcimelibdaa
