/-
  ExactRoots: what the walk asks, for any arguments.
-/
import Derived.Test.YtceccppmhfjklabDoorLawRoots
namespace Go.Proofs.YtceccppmhfjklabDoor
open Go.RowKit

theorem mk_mul (a b c d : Int) : mkR a b * mkR c d = mkR (a * c) (b * d) := by unfold mkR; exact Rat.divInt_mul_divInt a c
theorem mk_sub (a b d : Int) (hd : d ≠ 0) : mkR a d - mkR b d = mkR (a - b) d := by
  unfold mkR; rw [Rat.divInt_sub_divInt _ _ hd hd, ← Int.sub_mul, Rat.divInt_mul_right hd]
theorem mk_parts (a b : Int) (q : Rat) (hb : 0 < b) : b * (fn (mkR a b) * fd q) = fd (mkR a b) * (a * fd q) ∧ b * (fn q * fd (mkR a b)) = fd (mkR a b) * (fn q * b) := by
  have hz := mkR_cross a b (by omega)
  constructor
  · rw [← Int.mul_assoc, Int.mul_comm b, hz, ← Int.mul_assoc, Int.mul_comm (fd (mkR a b)) a]
  · rw [Int.mul_comm b, Int.mul_assoc, Int.mul_comm (fn q), Int.mul_assoc, Int.mul_comm b]
theorem mk_le (a b : Int) (q : Rat) (hb : 0 < b) : mkR a b ≤ q ↔ a * fd q ≤ fn q * b := by
  obtain ⟨e1, e2⟩ := mk_parts a b q hb
  have hp := fd_pos (mkR a b)
  obtain ⟨-, -, c⟩ := cmp_parts (mkR a b) q
  rw [← Rat.not_lt, ← c, ← Int.mul_le_mul_left (a := fd (mkR a b)) (by omega), ← e1, ← e2, Int.mul_le_mul_left hb]
  omega
theorem mk_ge (a b : Int) (q : Rat) (hb : 0 < b) : q ≤ mkR a b ↔ fn q * b ≤ a * fd q := by
  obtain ⟨e1, e2⟩ := mk_parts a b q hb
  have hp := fd_pos (mkR a b)
  obtain ⟨c, -, -⟩ := cmp_parts (mkR a b) q
  rw [← Rat.not_lt, ← c, ← Int.mul_le_mul_left (a := fd (mkR a b)) (by omega), ← e1, ← e2, Int.mul_le_mul_left hb]
  omega
theorem sq_lt {r n : Int} (h0 : 0 ≤ r) (hn : 0 ≤ n) (h : r * r < n * n) : r < n := by
  by_cases k : n ≤ r
  · have := Int.mul_le_mul k k hn h0; omega
  · omega
theorem fn_mk_nonneg (a b : Int) (h : 0 ≤ a) (hb : 0 < b) : 0 ≤ fn (mkR a b) := by
  have hz := mkR_cross a b (by omega)
  have hp := fd_pos (mkR a b)
  have h1 : 0 ≤ a * fd (mkR a b) := Int.mul_nonneg h (by omega)
  by_cases k : fn (mkR a b) < 0
  · have := Int.mul_neg_of_neg_of_pos k hb; omega
  · omega

theorem roots_true (x1 y1 sc : Int) (l1 : -9223372036854775808 ≤ x1) (u1 : x1 ≤ 9223372036854775807) (w : World) (hT : Tab w) :
    Calls Tryd.prog 5 #[.agg #[.int .i64 x1, .int .i64 y1], .int .i64 sc] w fun e w' => e = .returned (.bool true) ∧ Below w.heap.size w w' := by
  by_cases hv : okF x1 y1
  · have HV := valid_1 x1 y1 l1 u1 true ⟨fun _ => hv, fun _ => rfl⟩
    by_cases b1 : x1 < 0
    · exact roots_out _ _ _ _ _ _ _ 2 true w hT (root_arg x1 y1 sc hv (.inl b1)) HV (.inr rfl) (.inr (.inl ⟨rfl, b1⟩))
    by_cases b2 : sc < 1
    · exact roots_out _ _ _ _ _ _ _ 2 true w hT (root_arg x1 y1 sc hv (.inr (.inl b2))) HV (.inr rfl) (.inr (.inr (.inl ⟨rfl, b1, b2⟩)))
    by_cases b3 : 32768 < sc
    · exact roots_out _ _ _ _ _ _ _ 2 true w hT (root_arg x1 y1 sc hv (.inr (.inr b3))) HV (.inr rfl) (.inr (.inr (.inr ⟨rfl, b1, b2, b3⟩)))
    obtain ⟨q, hq, rfl, rfl⟩ := (okF_iff _ _).1 hv
    have q0 : 0 ≤ fn q := by omega
    have s1 : 1 ≤ sc := by omega
    have s2 : sc ≤ 32768 := by omega
    have hf := fd_pos q
    obtain ⟨m0, m1⟩ : 0 ≤ rootM q sc ∧ rootM q sc < 4951760157141521099596496896 := by have := rootM_bounds q hq q0 sc s1 s2; omega
    obtain ⟨rN, hr1, hr2⟩ := isq_exists (rootM q sc).toNat
    obtain ⟨r, hr⟩ : ∃ r : Int, r = (rN : Int) := ⟨_, rfl⟩
    have r0 : 0 ≤ r := by omega
    have hra : r * r ≤ rootM q sc := by
      have : ((rN * rN : Nat) : Int) ≤ ((rootM q sc).toNat : Int) := Int.ofNat_le.2 hr1
      rw [Int.natCast_mul, ← hr, Int.toNat_of_nonneg m0] at this; exact this
    have hrb : rootM q sc < (r + 1) * (r + 1) := by
      have : ((rootM q sc).toNat : Int) < (((rN + 1) * (rN + 1) : Nat) : Int) := Int.ofNat_lt.2 hr2
      rw [Int.natCast_mul, Int.toNat_of_nonneg m0, Int.natCast_add, ← hr] at this; exact this
    clear hr1 hr2 hr
    have rb : r < 70368744177664 := sq_lt r0 (by decide) (Int.lt_of_le_of_lt hra (Int.lt_of_lt_of_le m1 (by decide)))
    obtain ⟨u, hu⟩ : ∃ u, u = if fn q * (sc * sc) % fd q = 0 ∧ r * r = rootM q sc then r else r + 1 := ⟨_, rfl⟩
    have HR := root_q q hq q0 sc r u s1 s2 r0 ⟨hra, hrb⟩ hu
    have scp : 0 < sc := by omega
    have hu2 : (u = r ∧ fn q * (sc * sc) % fd q = 0 ∧ r * r = rootM q sc) ∨ (u = r + 1) := by
      by_cases c : fn q * (sc * sc) % fd q = 0 ∧ r * r = rootM q sc
      · rw [if_pos c] at hu; exact .inl ⟨hu, c⟩
      · rw [if_neg c] at hu; exact .inr hu
    have fl : fits (mkR r sc) := mkR_fits' r sc (by omega) (by omega) (by omega) (by omega) (by omega)
    have fu : fits (mkR u sc) := mkR_fits' u sc (by omega) (by omega) (by omega) (by omega) (by omega)
    have hsub : mkR u sc - mkR r sc = mkR (u - r) sc := mk_sub u r sc (by omega)
    have hle : mkR r sc ≤ mkR u sc := by
      have h0 : (0 : Rat) ≤ mkR (u - r) sc := (mk_ge (u - r) sc 0 scp).2 (by rw [show fn 0 = 0 from rfl, show fd 0 = 1 from rfl]; omega)
      rw [← hsub] at h0; grind
    by_cases b4 : 32768 < fn q ∨ (¬ 32768 < fn q ∧ 32768 < fd q)
    · refine roots_big _ _ _ _ _ _ _ w hT HR HV (fun w => ?_) b1 b2 b3 b4
      have := checkSpan_any (fn (mkR r sc)) (fd (mkR r sc)) (fn (mkR u sc)) (fd (mkR u sc)) w
      rw [ckS_ok fl fu hle] at this; exact this
    · have b5 : ¬ 32768 < fn q := fun k => b4 (.inl k)
      have b6 : ¬ 32768 < fd q := fun k => b4 (.inr ⟨b5, k⟩)
      have ss : 1 ≤ sc * sc ∧ sc * sc ≤ 1073741824 := by
        have h1 := Int.mul_le_mul s1 s1 (by decide) (by omega)
        have h2 := Int.mul_le_mul s2 s2 (by omega) (by decide)
        omega
      have M1 : rootM q sc ≤ 35184372088832 := by
        unfold rootM
        have h1 : fn q * (sc * sc) ≤ 32768 * 1073741824 := Int.mul_le_mul (by omega) ss.2 (by omega) (by decide)
        have h2 := Int.ediv_le_self (a := fn q * (sc * sc)) (fd q) (Int.mul_nonneg q0 (by omega))
        omega
      have rb2 : r < 8388608 := sq_lt r0 (by decide) (by omega)
      have rr : 0 ≤ r * r := Int.mul_nonneg r0 r0
      have uu : 0 ≤ u * u ∧ u * u ≤ 70368744177664 := by
        have h0 : 0 ≤ u := by omega
        have h1 : u ≤ 8388608 := by omega
        have h2 := Int.mul_le_mul h1 h1 h0 (by decide)
        exact ⟨Int.mul_nonneg h0 h0, by omega⟩
      have ell : mkR r sc * mkR r sc = mkR (r * r) (sc * sc) := mk_mul _ _ _ _
      have euu : mkR u sc * mkR u sc = mkR (u * u) (sc * sc) := mk_mul _ _ _ _
      have fll : fits (mkR r sc * mkR r sc) := by rw [ell]; exact mkR_fits' _ _ (by omega) (by omega) (by omega) (by omega) (by omega)
      have fuu : fits (mkR u sc * mkR u sc) := by rw [euu]; exact mkR_fits' _ _ (by omega) (by omega) (by omega) (by omega) (by omega)
      have fd' : fits (mkR u sc - mkR r sc) := by rw [hsub]; exact mkR_fits' _ _ (by omega) (by omega) (by omega) (by omega) (by omega)
      have HM := mul_q _ _ fl fl
      rw [rn_yes fll, rd_yes fll, re_yes fll] at HM
      have HN := mul_q _ _ fu fu
      rw [rn_yes fuu, rd_yes fuu, re_yes fuu] at HN
      have HD := sub_q _ _ fu fl
      rw [rn_yes fd', rd_yes fd', re_yes fd'] at HD
      have HW := make_fit 1 sc s1 (by omega) (by decide) (by decide)
      -- the products with the denominator
      have em := Int.mul_ediv_add_emod (fn q * (sc * sc)) (fd q)
      have rm0 := Int.emod_nonneg (fn q * (sc * sc)) (show fd q ≠ 0 by omega)
      have rm1 := Int.emod_lt_of_pos (fn q * (sc * sc)) (show 0 < fd q by omega)
      have eM : fn q * (sc * sc) / fd q = rootM q sc := rfl
      rw [eM] at em
      have c1 : r * r * fd q ≤ fn q * (sc * sc) := by
        have := Int.mul_le_mul_of_nonneg_left hra (show 0 ≤ fd q by omega)
        have := Int.mul_comm (r * r) (fd q)
        omega
      have ox : ¬ 0 < ordQ (mkR r sc * mkR r sc) q := by
        have : mkR r sc * mkR r sc ≤ q := by rw [ell]; exact (mk_le _ _ q (by omega)).2 c1
        have := ordQ_le.2 this; omega
      have ssp : 0 < sc * sc := by omega
      refine roots_small _ _ _ _ _ _ _ _ _ _ _ (ordQ (mkR r sc * mkR r sc) q) (ordQ (mkR u sc * mkR u sc) q) _ _ _ _ w hT HR HV HM HN (compare_q _ q fll hq) (compare_q _ q fuu hq) HD HW b1 b2 b3 b5 b6 ox ?_ (by have := fn_mk_nonneg r sc r0 scp; omega) ?_
      · rcases hu2 with ⟨e, h1, h2⟩ | e
        · intro k
          have : q ≤ mkR u sc * mkR u sc := by
            rw [euu, e]
            refine (mk_ge _ _ q ssp).2 ?_
            rw [h2, Int.mul_comm (rootM q sc)]; omega
          exact absurd (ordQ_lt.1 k) (Rat.not_lt.2 this)
        · intro k
          have : mkR u sc * mkR u sc ≤ q := Rat.le_of_lt (ordQ_lt.1 k)
          rw [euu, e] at this
          have h1 := (mk_le _ _ q ssp).1 this
          have h2 : (rootM q sc + 1) * fd q ≤ (r + 1) * (r + 1) * fd q := Int.mul_le_mul_of_nonneg_right (by omega) (by omega)
          have h3 := Int.mul_comm (rootM q sc) (fd q)
          rw [Int.add_mul] at h2
          omega
      · rcases hu2 with ⟨e, h1, h2⟩ | e
        · refine .inl ⟨?_, ?_⟩
          · rw [hsub, e, Int.sub_self]
            have := mkR_cross 0 sc (by omega)
            rw [Int.zero_mul] at this
            rcases Int.mul_eq_zero.1 this with k | k
            · exact k
            · omega
          · have g1 : mkR r sc * mkR r sc ≤ q := by rw [ell]; exact (mk_le _ _ q ssp).2 c1
            have g2 : q ≤ mkR r sc * mkR r sc := by
              rw [ell]
              refine (mk_ge _ _ q ssp).2 ?_
              rw [h2, Int.mul_comm (rootM q sc)]; omega
            exact ordQ_eq.2 (Rat.le_antisymm g1 g2)
        · have e1 : u - r = 1 := by omega
          rw [hsub, e1]
          refine .inr ⟨?_, rfl, rfl, by omega, ?_⟩
          · intro k
            have := mkR_cross 1 sc (by omega)
            have hp := fd_pos (mkR 1 sc)
            rw [k] at this; omega
          · refine ordQ_gt.2 (Rat.not_le.1 fun this => ?_)
            rw [euu, e] at this
            have h1 := (mk_le _ _ q ssp).1 this
            have h2 : (rootM q sc + 1) * fd q ≤ (r + 1) * (r + 1) * fd q := Int.mul_le_mul_of_nonneg_right (by omega) (by omega)
            have h3 := Int.mul_comm (rootM q sc) (fd q)
            rw [Int.add_mul] at h2
            omega
  · exact roots_out _ _ _ _ _ _ _ 8 false w hT (root_bad x1 y1 sc hv) (valid_1 x1 y1 l1 u1 false ⟨fun k => Bool.noConfusion k, fun k => absurd k hv⟩) (.inl rfl) (.inl rfl)
end Go.Proofs.YtceccppmhfjklabDoor
