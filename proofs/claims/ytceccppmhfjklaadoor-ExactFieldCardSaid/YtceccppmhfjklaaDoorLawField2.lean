/-
  ExactField: what the walk asks, for any arguments.
-/
import Derived.Test.YtceccppmhfjklaaDoorLawField
namespace Go.Proofs.YtceccppmhfjklaaDoor
open Go.RowKit

theorem rn_nil {x : Rat} (h : ¬ fits x) : rn x = 0 := if_neg h
theorem rd_nil {x : Rat} (h : ¬ fits x) : rd x = 0 := if_neg h
theorem re_beq0 {x : Rat} (h : ¬ fits x) : (re x == 0) = false := by rw [re_no h]; rfl
theorem fn_zero : fn 0 = 0 := rfl
theorem fd_zero : fd 0 = 1 := rfl
theorem fn_one : fn 1 = 1 := rfl
theorem fd_one : fd 1 = 1 := rfl
theorem fits_one : fits 1 := by unfold fits; rw [fn_one, fd_one]; decide
theorem fits_nil : fits 0 := by unfold fits; rw [fn_zero, fd_zero]; decide

/-- A sum, a product of what calls answered. -/
def Sums (f : FuncId) (o : Rat → Rat → Rat) : Prop :=
  (∀ q r, fits q → fits r → ∀ w, Calls Tryd.prog f #[.agg #[.int .i64 (fn q), .int .i64 (fd q)], .agg #[.int .i64 (fn r), .int .i64 (fd r)]] w fun e w' => e = .returned (.tuple #[.agg #[.int .i64 (rn (o q r)), .int .i64 (rd (o q r))], .int .i64 (re (o q r))]) ∧ Below w.heap.size w w') ∧
  (∀ a b c d, ¬ (okF a b ∧ okF c d) → ∀ w, Calls Tryd.prog f #[.agg #[.int .i64 a, .int .i64 b], .agg #[.int .i64 c, .int .i64 d]] w fun e w' => e = .returned (.tuple #[.agg #[.int .i64 0, .int .i64 0], .int .i64 8]) ∧ Below w.heap.size w w')
theorem sums_add : Sums 20 (fun q r => q + r) := ⟨add_q, add_bad⟩
theorem sums_mul : Sums 15 (fun q r => q * r) := ⟨mul_q, mul_bad⟩
theorem Sums.left {f : FuncId} {o : Rat → Rat → Rat} (h : Sums f o) (p r : Rat) (hr : fits r) : ∃ a b e, (∀ w, Calls Tryd.prog f #[.agg #[.int .i64 (rn p), .int .i64 (rd p)], .agg #[.int .i64 (fn r), .int .i64 (fd r)]] w fun e' w' => e' = .returned (.tuple #[.agg #[.int .i64 a, .int .i64 b], .int .i64 e]) ∧ Below w.heap.size w w') ∧
    ((fits p ∧ fits (o p r) ∧ e = 0 ∧ a = fn (o p r) ∧ b = fd (o p r)) ∨ (¬ (fits p ∧ fits (o p r)) ∧ (e == 0) = false)) := by
  by_cases hp : fits p
  · by_cases ho : fits (o p r)
    · refine ⟨fn (o p r), fd (o p r), 0, fun w => ?_, .inl ⟨hp, ho, rfl, rfl, rfl⟩⟩
      have := h.1 p r hp hr w
      rw [rn_yes ho, rd_yes ho, re_yes ho] at this
      rw [rn_yes hp, rd_yes hp]; exact this
    · refine ⟨0, 0, 4, fun w => ?_, .inr ⟨fun k => ho k.2, rfl⟩⟩
      have := h.1 p r hp hr w
      rw [rn_nil ho, rd_nil ho, re_no ho] at this
      rw [rn_yes hp, rd_yes hp]; exact this
  · refine ⟨0, 0, 8, fun w => ?_, .inr ⟨fun k => hp k.1, rfl⟩⟩
    rw [rn_nil hp, rd_nil hp]
    exact h.2 _ _ _ _ (fun k => okF_zero k.1) w
theorem Sums.right {f : FuncId} {o : Rat → Rat → Rat} (h : Sums f o) (q p : Rat) (hq : fits q) : ∃ a b e, (∀ w, Calls Tryd.prog f #[.agg #[.int .i64 (fn q), .int .i64 (fd q)], .agg #[.int .i64 (rn p), .int .i64 (rd p)]] w fun e' w' => e' = .returned (.tuple #[.agg #[.int .i64 a, .int .i64 b], .int .i64 e]) ∧ Below w.heap.size w w') ∧
    ((fits p ∧ fits (o q p) ∧ e = 0 ∧ a = fn (o q p) ∧ b = fd (o q p)) ∨ (¬ (fits p ∧ fits (o q p)) ∧ (e == 0) = false)) := by
  by_cases hp : fits p
  · by_cases ho : fits (o q p)
    · refine ⟨fn (o q p), fd (o q p), 0, fun w => ?_, .inl ⟨hp, ho, rfl, rfl, rfl⟩⟩
      have := h.1 q p hq hp w
      rw [rn_yes ho, rd_yes ho, re_yes ho] at this
      rw [rn_yes hp, rd_yes hp]; exact this
    · refine ⟨0, 0, 4, fun w => ?_, .inr ⟨fun k => ho k.2, rfl⟩⟩
      have := h.1 q p hq hp w
      rw [rn_nil ho, rd_nil ho, re_no ho] at this
      rw [rn_yes hp, rd_yes hp]; exact this
  · refine ⟨0, 0, 8, fun w => ?_, .inr ⟨fun k => hp k.1, rfl⟩⟩
    rw [rn_nil hp, rd_nil hp]
    exact h.2 _ _ _ _ (fun k => okF_zero k.2) w
theorem Sums.both {f : FuncId} {o : Rat → Rat → Rat} (h : Sums f o) (p q : Rat) : ∃ a b e, (∀ w, Calls Tryd.prog f #[.agg #[.int .i64 (rn p), .int .i64 (rd p)], .agg #[.int .i64 (rn q), .int .i64 (rd q)]] w fun e' w' => e' = .returned (.tuple #[.agg #[.int .i64 a, .int .i64 b], .int .i64 e]) ∧ Below w.heap.size w w') ∧
    (fits p → fits q → fits (o p q) → e = 0 ∧ a = fn (o p q) ∧ b = fd (o p q)) := by
  by_cases hq : fits q
  · rw [rn_yes hq, rd_yes hq]
    obtain ⟨a, b, e, hc, hf⟩ := h.left p q hq
    refine ⟨a, b, e, hc, fun hp _ ho => ?_⟩
    rcases hf with ⟨-, -, h1, h2, h3⟩ | ⟨k, -⟩
    · exact ⟨h1, h2, h3⟩
    · exact absurd ⟨hp, ho⟩ k
  · rw [rn_nil hq, rd_nil hq]
    exact ⟨0, 0, 8, h.2 _ _ _ _ (fun k => okF_zero k.2), fun _ k _ => absurd k hq⟩
theorem rn_in (x : Rat) : -9223372036854775808 ≤ rn x ∧ rn x ≤ 9223372036854775807 := by
  unfold rn; split
  · rename_i h; unfold fits at h; omega
  · omega
theorem ok_r (x : Rat) : okF (rn x) (rd x) ↔ fits x := by
  constructor
  · intro h
    by_cases f : fits x
    · exact f
    · rw [rn_nil f, rd_nil f] at h; exact absurd h okF_zero
  · intro f; rw [rn_yes f, rd_yes f]; exact okF_q f
theorem some_bool (p : Prop) : ∃ v : Bool, v = true ↔ p := by
  by_cases h : p
  · exact ⟨true, fun _ => h, fun _ => rfl⟩
  · exact ⟨false, fun k => Bool.noConfusion k, fun k => absurd k h⟩
/-- Two ways of taking three together. -/
theorem three_ways {o : Rat → Rat → Rat} (ho : ∀ q r s, o (o q r) s = o q (o r s)) {q r s : Rat} {A : Bool} (hA : A = true ↔ fits (o q r) ∧ fits (o r s)) {S1 S2 E3 V1 V2 E5 : Int}
    (h1 : (fits (o q r) ∧ fits (o (o q r) s) ∧ E3 = 0 ∧ S1 = fn (o (o q r) s) ∧ S2 = fd (o (o q r) s)) ∨ (¬ (fits (o q r) ∧ fits (o (o q r) s)) ∧ (E3 == 0) = false))
    (h3 : (fits (o r s) ∧ fits (o q (o r s)) ∧ E5 = 0 ∧ V1 = fn (o q (o r s)) ∧ V2 = fd (o q (o r s))) ∨ (¬ (fits (o r s) ∧ fits (o q (o r s))) ∧ (E5 == 0) = false)) :
    A = false ∨ (A = true ∧ (E3 == 0) = false) ∨ (A = true ∧ E3 = 0 ∧ (re (o r s) == 0) = false) ∨ (A = true ∧ E3 = 0 ∧ re (o r s) = 0 ∧ (E5 == 0) = false) ∨ (A = true ∧ E3 = 0 ∧ re (o r s) = 0 ∧ E5 = 0 ∧ S1 = V1 ∧ S2 = V2) := by
  cases A with
  | false => exact .inl rfl
  | true =>
    obtain ⟨-, f2⟩ := hA.1 rfl
    rcases h1 with ⟨-, -, rfl, rfl, rfl⟩ | ⟨-, e⟩
    · rcases h3 with ⟨-, -, rfl, rfl, rfl⟩ | ⟨-, e⟩
      · exact .inr (.inr (.inr (.inr ⟨rfl, rfl, re_yes f2, rfl, by rw [ho], by rw [ho]⟩)))
      · exact .inr (.inr (.inr (.inl ⟨rfl, rfl, re_yes f2, e⟩)))
    · exact .inr (.inl ⟨rfl, e⟩)

theorem field_true (x1 y1 x2 y2 x3 y3 : Int) (l1 : -9223372036854775808 ≤ x1) (u1 : x1 ≤ 9223372036854775807) (l2 : -9223372036854775808 ≤ x2) (u2 : x2 ≤ 9223372036854775807) (l3 : -9223372036854775808 ≤ x3) (u3 : x3 ≤ 9223372036854775807) (w : World) (hT : Tab w) :
    Calls Tryd.prog 6 #[.agg #[.int .i64 x1, .int .i64 y1], .agg #[.int .i64 x2, .int .i64 y2], .agg #[.int .i64 x3, .int .i64 y3]] w fun e w' => e = .returned (.bool true) ∧ Below w.heap.size w w' := by
  by_cases hv : okF x1 y1 ∧ okF x2 y2 ∧ okF x3 y3
  · obtain ⟨q, hq, rfl, rfl⟩ := (okF_iff _ _).1 hv.1
    obtain ⟨r, hr, rfl, rfl⟩ := (okF_iff _ _).1 hv.2.1
    obtain ⟨s, hs, rfl, rfl⟩ := (okF_iff _ _).1 hv.2.2
    have HB := add_q r q hr hq
    rw [Rat.add_comm r q] at HB
    have HN := mul_q r q hr hq
    rw [Rat.mul_comm r q] at HN
    have HO := add_q q 0 hq fits_nil
    rw [Rat.add_zero, rn_yes hq, rd_yes hq, re_yes hq] at HO
    have HU := mul_q q 1 hq fits_one
    rw [Rat.mul_one, rn_yes hq, rd_yes hq, re_yes hq] at HU
    obtain ⟨S1, S2, E3, H1, h1⟩ := sums_add.left (q + r) s hs
    obtain ⟨V1, V2, E5, H3, h3⟩ := sums_add.right q (r + s) hq
    obtain ⟨S3, S4, E6, H4, h4⟩ := sums_mul.left (q * r) s hs
    obtain ⟨V3, V4, E8, H6, h6⟩ := sums_mul.right q (r * s) hq
    obtain ⟨S5, S6, E9, H7, h7⟩ := sums_mul.left (q + r) s hs
    obtain ⟨W1, W2, E11, H10, h10⟩ := sums_add.both (q * s) (r * s)
    obtain ⟨A1, hA1⟩ := some_bool (okF (rn (q + r)) (rd (q + r)) ∧ okF (rn (r + s)) (rd (r + s)))
    obtain ⟨A2, hA2⟩ := some_bool (okF (rn (q * r)) (rd (q * r)) ∧ okF (rn (r * s)) (rd (r * s)))
    obtain ⟨A3, hA3⟩ := some_bool (okF (rn (q + r)) (rd (q + r)))
    refine field_in _ _ _ _ _ _ _ _ _ _ _ _ S1 S2 E3 _ _ _ V1 V2 E5 S3 S4 E6 _ _ _ V3 V4 E8 S5 S6 E9 _ _ _ W1 W2 E11 A1 A2 A3 w hT (valid_3 _ _ _ _ _ _ l1 u1 l2 u2 l3 u3 true ⟨fun _ => hv, fun _ => rfl⟩) (add_q q r hq hr) HB (mul_q q r hq hr) HN HO HU H1 (add_q r s hr hs) H3
      (valid_2 _ _ _ _ (rn_in _).1 (rn_in _).2 (rn_in _).1 (rn_in _).2 A1 hA1) H4 (mul_q r s hr hs) H6 (valid_2 _ _ _ _ (rn_in _).1 (rn_in _).2 (rn_in _).1 (rn_in _).2 A2 hA2) H7 (mul_q q s hq hs) H10 (valid_1 _ _ (rn_in _).1 (rn_in _).2 A3 hA3) ?_ ?_ ?_
    · exact three_ways (o := fun a b => a + b) Rat.add_assoc (hA1.trans (and_congr (ok_r _) (ok_r _))) h1 h3
    · exact three_ways (o := fun a b => a * b) Rat.mul_assoc (hA2.trans (and_congr (ok_r _) (ok_r _))) h4 h6
    · cases A3 with
      | false => exact .inl rfl
      | true =>
        rcases h7 with ⟨f1, f2, rfl, rfl, rfl⟩ | ⟨-, e⟩
        · by_cases g1 : fits (q * s)
          · by_cases g2 : fits (r * s)
            · have e : q * s + r * s = (q + r) * s := (Rat.add_mul q r s).symm
              obtain ⟨k1, k2, k3⟩ := h10 g1 g2 (by show fits (q * s + r * s); rw [e]; exact f2)
              refine .inr (.inr (.inr (.inr ⟨rfl, rfl, re_yes g1, re_yes g2, k1, ?_, ?_⟩)))
              · rw [k2]; show fn ((q + r) * s) = fn (q * s + r * s); rw [e]
              · rw [k3]; show fd ((q + r) * s) = fd (q * s + r * s); rw [e]
            · exact .inr (.inr (.inr (.inl ⟨rfl, rfl, re_yes g1, re_beq0 g2⟩)))
          · exact .inr (.inr (.inl ⟨rfl, rfl, re_beq0 g1⟩))
        · exact .inr (.inl ⟨rfl, e⟩)
  · exact field_bad _ _ _ _ _ _ w hT (valid_3 _ _ _ _ _ _ l1 u1 l2 u2 l3 u3 false ⟨fun k => Bool.noConfusion k, fun k => absurd k hv⟩)
end Go.Proofs.YtceccppmhfjklaaDoor
