/-
  Layer 1: what one of the four operations answers, for any arguments.
-/
import Derived.Test.YtceccppmhfjklabDoorRes
namespace Go.Proofs.YtceccppmhfjklabDoor
open Go.RowKit

/-- A call of an operation on two numbers, and of the same on two enclosures, answers so. -/
def Answers (how x1 x2 y1 y2 a1 a2 a3 a4 b1 b2 b3 b4 zn zd ze A B C D F : Int) : Prop :=
  ∀ w, Calls Tryd.prog 8 #[.int .u8 how, .agg #[.int .i64 x1, .int .i64 x2], .agg #[.int .i64 y1, .int .i64 y2], .agg #[.int .i64 a1, .int .i64 a2, .int .i64 a3, .int .i64 a4], .agg #[.int .i64 b1, .int .i64 b2, .int .i64 b3, .int .i64 b4]] w fun e w' => e = .returned (.tuple #[.agg #[.int .i64 zn, .int .i64 zd], .int .i64 ze, .agg #[.int .i64 A, .int .i64 B, .int .i64 C, .int .i64 D], .int .i64 F]) ∧ Below w.heap.size w w'

theorem how_cases (how : Int) (h0 : 0 ≤ how) : ∃ k : Nat, k < 4 ∧ how.tmod 4 = k := by
  refine ⟨(how % 4).toNat, by omega, ?_⟩
  rw [Int.tmod_eq_emod_of_nonneg h0]
  omega

theorem num_of {x : Rat} (h : fn x = 0) : x = 0 := Rat.num_eq_zero.1 h

theorem res_q (how : Int) (k : Nat) (hk : how.tmod 4 = k) (k4 : k < 4) (x y l h m n : Rat) (fx : fits x) (fy : fits y) (fl : fits l) (fh : fits h) (fm : fits m) (fn' : fits n) (hlh : l ≤ h) (hmn : m ≤ n) :
    ∃ zn zd ze A B C D F, Answers how (fn x) (fd x) (fn y) (fd y) (fn l) (fd l) (fn h) (fd h) (fn m) (fd m) (fn n) (fd n) zn zd ze A B C D F ∧ Res k x y l h m n zn zd ze A B C D F := by
  have one : ∀ z : Rat, (re z = 0 ∧ fits z ∧ rn z = fn z ∧ rd z = fd z) ∨ (re z = 4 ∧ ¬ fits z) := by
    intro z
    by_cases f : fits z
    · exact .inl ⟨re_yes f, f, rn_yes f, rd_yes f⟩
    · exact .inr ⟨re_no f, f⟩
  have two : ∀ (ok : Prop) (L H : Rat), isSp k l h m n L H → (ok → fits L ∧ fits H) → (oe ok = 0 ∧ ∃ L' H' : Rat, fits L' ∧ fits H' ∧ oz ok (fn L) = fn L' ∧ oz ok (fd L) = fd L' ∧ oz ok (fn H) = fn H' ∧ oz ok (fd H) = fd H' ∧ isSp k l h m n L' H') ∨ oe ok = 4 ∨ (k = 3 ∧ oe ok = 10) := by
    intro ok L H hs hf
    by_cases f : ok
    · obtain ⟨f1, f2⟩ := hf f
      exact .inl ⟨oe_yes f, L, H, f1, f2, oz_yes f _, oz_yes f _, oz_yes f _, oz_yes f _, hs⟩
    · exact .inr (.inl (oe_no f))
  obtain rfl | rfl | rfl | rfl : k = 0 ∨ k = 1 ∨ k = 2 ∨ k = 3 := by omega
  · refine ⟨_, _, _, _, _, _, _, _, fun w => results_add how _ _ _ _ _ _ _ _ _ _ _ _ _ _ _ _ _ _ _ _ hk (add_q x y fx fy) (addSpans_q l h m n fl fh fm fn' hlh hmn) w, ?_, ?_⟩
    · rcases one (x + y) with h | h
      · exact .inl h
      · exact .inr (.inl h)
    · exact two _ _ _ (.inl ⟨rfl, rfl, rfl⟩) (fun h => h)
  · refine ⟨_, _, _, _, _, _, _, _, fun w => results_sub how _ _ _ _ _ _ _ _ _ _ _ _ _ _ _ _ _ _ _ _ hk (sub_q x y fx fy) (subSpans_q l h m n fl fh fm fn' hlh hmn) w, ?_, ?_⟩
    · rcases one (x - y) with h | h
      · exact .inl h
      · exact .inr (.inl h)
    · exact two _ _ _ (.inr (.inl ⟨rfl, rfl, rfl⟩)) (fun h => h)
  · refine ⟨_, _, _, _, _, _, _, _, fun w => results_mul how _ _ _ _ _ _ _ _ _ _ _ _ _ _ _ _ _ _ _ _ hk (mul_q x y fx fy) (mulSpans_q l h m n fl fh fm fn' hlh hmn) w, ?_, ?_⟩
    · rcases one (x * y) with h | h
      · exact .inl h
      · exact .inr (.inl h)
    · refine two _ _ _ (.inr (.inr (.inl ⟨rfl, rfl, rfl⟩))) (fun ⟨f1, f2, f3, f4⟩ => ⟨loQ_fits _ f1 _ ?_, hiQ_fits _ f1 _ ?_⟩)
      · intro z hz; simp at hz; rcases hz with rfl | rfl | rfl <;> assumption
      · intro z hz; simp at hz; rcases hz with rfl | rfl | rfl <;> assumption
  · have hone : ∃ zn zd ze, (∀ w, Calls Tryd.prog 20 #[.agg #[.int .i64 (fn x), .int .i64 (fd x)], .agg #[.int .i64 (fn y), .int .i64 (fd y)]] w fun e w' => e = .returned (.tuple #[.agg #[.int .i64 zn, .int .i64 zd], .int .i64 ze]) ∧ Below w.heap.size w w') ∧ ((ze = 0 ∧ fits (x / y) ∧ zn = fn (x / y) ∧ zd = fd (x / y)) ∨ (ze = 4 ∧ ¬ fits (x / y)) ∨ (3 = 3 ∧ y = 0 ∧ ze = 10)) := by
      by_cases h0 : fn y = 0
      · exact ⟨0, 0, 10, div_zero x y fx fy h0, .inr (.inr ⟨rfl, num_of h0, rfl⟩)⟩
      · refine ⟨_, _, _, div_q x y fx fy h0, ?_⟩
        rcases one (x / y) with h | h
        · exact .inl h
        · exact .inr (.inl h)
    obtain ⟨zn, zd, ze, HZ, hz⟩ := hone
    by_cases hh : hasQ m n 0 = true
    · exact ⟨zn, zd, ze, _, _, _, _, _, fun w => results_div how _ _ _ _ _ _ _ _ _ _ _ _ _ _ _ _ _ _ _ _ hk HZ (divSpans_z l h m n fl fh fm fn' hlh hmn hh) w, hz, .inr (.inr ⟨rfl, rfl⟩)⟩
    · have hb : hasQ m n 0 = false := by simpa using hh
      refine ⟨zn, zd, ze, _, _, _, _, _, fun w => results_div how _ _ _ _ _ _ _ _ _ _ _ _ _ _ _ _ _ _ _ _ hk HZ (divSpans_q l h m n fl fh fm fn' hlh hmn hb) w, hz, ?_⟩
      have hn : ¬ (m ≤ 0 ∧ 0 ≤ n) := by
        intro ⟨c1, c2⟩
        unfold hasQ at hb
        rw [decide_eq_true c1, decide_eq_true c2] at hb
        cases hb
      refine two _ _ _ (.inr (.inr (.inr ⟨rfl, hn, rfl, rfl⟩))) (fun ⟨f1, f2, f3, f4⟩ => ⟨loQ_fits _ f1 _ ?_, hiQ_fits _ f1 _ ?_⟩)
      · intro z hz; simp at hz; rcases hz with rfl | rfl | rfl <;> assumption
      · intro z hz; simp at hz; rcases hz with rfl | rfl | rfl <;> assumption

/-- An operation on any two numbers answers. -/
theorem any_op {f : FuncId} {x1 x2 y1 y2 : Int}
    (hq : ∀ q r, fits q → fits r → ∃ zn zd ze, ∀ w, Calls Tryd.prog f #[.agg #[.int .i64 (fn q), .int .i64 (fd q)], .agg #[.int .i64 (fn r), .int .i64 (fd r)]] w fun e w' => e = .returned (.tuple #[.agg #[.int .i64 zn, .int .i64 zd], .int .i64 ze]) ∧ Below w.heap.size w w')
    (hb : ¬ (okF x1 x2 ∧ okF y1 y2) → ∀ w, Calls Tryd.prog f #[.agg #[.int .i64 x1, .int .i64 x2], .agg #[.int .i64 y1, .int .i64 y2]] w fun e w' => e = .returned (.tuple #[.agg #[.int .i64 0, .int .i64 0], .int .i64 8]) ∧ Below w.heap.size w w') :
    ∃ zn zd ze, ∀ w, Calls Tryd.prog f #[.agg #[.int .i64 x1, .int .i64 x2], .agg #[.int .i64 y1, .int .i64 y2]] w fun e w' => e = .returned (.tuple #[.agg #[.int .i64 zn, .int .i64 zd], .int .i64 ze]) ∧ Below w.heap.size w w' := by
  by_cases h : okF x1 x2 ∧ okF y1 y2
  · obtain ⟨q, fq, rfl, rfl⟩ := (okF_iff _ _).1 h.1
    obtain ⟨r, fr, rfl, rfl⟩ := (okF_iff _ _).1 h.2
    exact hq q r fq fr
  · exact ⟨0, 0, 8, hb h⟩

theorem res_bad (how : Int) (k : Nat) (hk : how.tmod 4 = k) (k4 : k < 4) (x1 x2 y1 y2 a1 a2 a3 a4 b1 b2 b3 b4 : Int) (h : ¬ (okS a1 a2 a3 a4 ∧ okS b1 b2 b3 b4)) :
    ∃ zn zd ze, Answers how x1 x2 y1 y2 a1 a2 a3 a4 b1 b2 b3 b4 zn zd ze 0 0 0 0 8 := by
  obtain rfl | rfl | rfl | rfl : k = 0 ∨ k = 1 ∨ k = 2 ∨ k = 3 := by omega
  · obtain ⟨zn, zd, ze, HZ⟩ := any_op (fun q r fq fr => ⟨_, _, _, add_q q r fq fr⟩) (add_bad x1 x2 y1 y2)
    exact ⟨zn, zd, ze, fun w => results_add how _ _ _ _ _ _ _ _ _ _ _ _ _ _ _ _ _ _ _ _ hk HZ (addSpans_bad _ _ _ _ _ _ _ _ h) w⟩
  · obtain ⟨zn, zd, ze, HZ⟩ := any_op (fun q r fq fr => ⟨_, _, _, sub_q q r fq fr⟩) (sub_bad x1 x2 y1 y2)
    exact ⟨zn, zd, ze, fun w => results_sub how _ _ _ _ _ _ _ _ _ _ _ _ _ _ _ _ _ _ _ _ hk HZ (subSpans_bad _ _ _ _ _ _ _ _ h) w⟩
  · obtain ⟨zn, zd, ze, HZ⟩ := any_op (fun q r fq fr => ⟨_, _, _, mul_q q r fq fr⟩) (mul_bad x1 x2 y1 y2)
    exact ⟨zn, zd, ze, fun w => results_mul how _ _ _ _ _ _ _ _ _ _ _ _ _ _ _ _ _ _ _ _ hk HZ (mulSpans_bad _ _ _ _ _ _ _ _ h) w⟩
  · obtain ⟨zn, zd, ze, HZ⟩ := any_op (x1 := x1) (x2 := x2) (y1 := y1) (y2 := y2) (f := 20) (fun q r fq fr => by
      by_cases h0 : fn r = 0
      · exact ⟨0, 0, 10, div_zero q r fq fr h0⟩
      · exact ⟨_, _, _, div_q q r fq fr h0⟩) (div_bad x1 x2 y1 y2)
    exact ⟨zn, zd, ze, fun w => results_div how _ _ _ _ _ _ _ _ _ _ _ _ _ _ _ _ _ _ _ _ hk HZ (divSpans_bad _ _ _ _ _ _ _ _ h) w⟩

/-- Whether a number is in an enclosure, for any arguments. -/
theorem in_any (a b c d x y : Int) : ∃ (p : Bool) (e : Int), (∀ w, Calls Tryd.prog 9 #[.agg #[.int .i64 a, .int .i64 b, .int .i64 c, .int .i64 d], .agg #[.int .i64 x, .int .i64 y]] w fun e' w' => e' = .returned (.tuple #[.bool p, .int .i64 e]) ∧ Below w.heap.size w w') ∧
    ((p = false ∧ e = 8 ∧ ¬ (okS a b c d ∧ okF x y)) ∨ (e = 0 ∧ ∃ l h z : Rat, fits l ∧ fits h ∧ fits z ∧ l ≤ h ∧ a = fn l ∧ b = fd l ∧ c = fn h ∧ d = fd h ∧ x = fn z ∧ y = fd z ∧ p = hasQ l h z)) := by
  by_cases hs : okS a b c d
  · by_cases hx : okF x y
    · obtain ⟨l, h, fl, fh, rfl, rfl, rfl, rfl, hlh⟩ := hs
      obtain ⟨z, fz, rfl, rfl⟩ := (okF_iff _ _).1 hx
      exact ⟨_, 0, in_q l h z fl fh fz hlh, .inr ⟨rfl, l, h, z, fl, fh, fz, hlh, rfl, rfl, rfl, rfl, rfl, rfl, rfl⟩⟩
    · exact ⟨false, 8, in_bad2 a b c d x y hs hx, .inl ⟨rfl, rfl, fun k => hx k.2⟩⟩
  · exact ⟨false, 8, in_bad1 a b c d x y hs, .inl ⟨rfl, rfl, fun k => hs k.1⟩⟩
theorem hasQ_iff {l h z : Rat} : hasQ l h z = true ↔ l ≤ z ∧ z ≤ h := by
  unfold hasQ; rw [Bool.and_eq_true, decide_eq_true_iff, decide_eq_true_iff]
end Go.Proofs.YtceccppmhfjklabDoor
