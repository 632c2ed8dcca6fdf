/-
  Texts of fractions, and what they say again: plain lists.
-/
import Derived.Test.YtekpfgcpbipdpaaDoorQMath
import Derived.Lib.ItoaNum
import Derived.Lib.AtoiAllCases
import Derived.Lib.IndexMore
namespace Go.Proofs.YtekpfgcpbipdpaaDoor

/-! ### Decimal numerals and what they say -/
theorem dec_byte (k : Nat) (h : k < 10) : (UInt8.ofNat (48 + k)).toNat = 48 + k := by
  rw [UInt8.toNat_ofNat']; omega
theorem dec_from (u : Nat) : ∀ (acc : Nat) (r : List UInt8), acc * 10 ^ Lib.nDigits u + u < 18446744073709551616 → Lib.parseUint10 acc (Lib.decDigits u ++ r) = Lib.parseUint10 (acc * 10 ^ Lib.nDigits u + u) r := by
  induction u using Nat.strongRecOn with
  | _ u ih =>
    intro acc r h
    by_cases hu : u < 10
    · rw [Lib.decDigits, dif_pos hu, Lib.nDigits_small hu]
      rw [Lib.nDigits_small hu] at h
      show Lib.parseUint10 acc (UInt8.ofNat (48 + u) :: r) = _
      have e := dec_byte u hu
      unfold Lib.parseUint10
      rw [e, if_pos (by omega), if_neg (by omega), if_neg (by omega)]
      cases r with
      | nil => unfold Lib.parseUint10; congr 1; omega
      | cons c r =>
        have : acc * 10 + (48 + u - 48) = acc * 10 ^ 1 + u := by omega
        rw [this]; rfl
    · have hn := Lib.nDigits_big hu
      rw [hn] at h ⊢
      rw [Lib.decDigits, dif_neg hu, List.append_assoc]
      have p := Nat.pow_succ 10 (Lib.nDigits (u / 10))
      have m : acc * 10 ^ (Lib.nDigits (u / 10) + 1) = acc * 10 ^ Lib.nDigits (u / 10) * 10 := by rw [Nat.pow_succ, Nat.mul_assoc]
      rw [ih (u / 10) (by omega) acc _ (by omega)]
      show Lib.parseUint10 _ (UInt8.ofNat (48 + u % 10) :: r) = _
      have e := dec_byte (u % 10) (by omega)
      conv => lhs; unfold Lib.parseUint10
      rw [e, if_pos (by omega), if_neg (by omega), if_neg (by omega)]
      congr 1
      omega
theorem dec_ne (u : Nat) : Lib.decDigits u ≠ [] := by
  rw [Lib.decDigits]; split <;> simp
theorem dec_digit (u : Nat) : ∀ c ∈ Lib.decDigits u, 48 ≤ c.toNat ∧ c.toNat ≤ 57 := by
  induction u using Nat.strongRecOn with
  | _ u ih =>
    intro c hc
    rw [Lib.decDigits] at hc
    split at hc
    · rename_i h
      rw [List.mem_singleton] at hc
      subst hc; rw [dec_byte u h]; omega
    · rename_i h
      rcases List.mem_append.1 hc with k | k
      · exact ih (u / 10) (by omega) c k
      · rw [List.mem_singleton] at k
        subst k; rw [dec_byte (u % 10) (by omega)]; omega
theorem dec_mag (u : Nat) (h : u < 18446744073709551616) : Lib.parseMag (Lib.decDigits u) = .ok u := by
  unfold Lib.parseMag
  rw [if_neg (dec_ne u)]
  have := dec_from u 0 [] (by omega)
  rw [List.append_nil] at this
  rw [this]
  unfold Lib.parseUint10
  congr 1; omega
/-- What a decimal numeral says is the number. -/
theorem atoi_itoa (n : Int) (h0 : -9223372036854775808 ≤ n) (h1 : n ≤ 9223372036854775807) : Lib.atoiAll (Lib.itoa n) = .ok n := by
  unfold Lib.itoa
  by_cases hn : n < 0
  · rw [if_pos hn, Lib.atoiAll_minus, dec_mag _ (by omega)]
    unfold Lib.signed
    dsimp only
    rw [if_neg (by omega)]
    congr 1; omega
  · rw [if_neg hn]
    obtain ⟨c, r, hcr⟩ : ∃ c r, Lib.decDigits n.toNat = c :: r := by
      cases h : Lib.decDigits n.toNat with
      | nil => exact absurd h (dec_ne _)
      | cons c r => exact ⟨c, r, rfl⟩
    have hd := dec_digit n.toNat c (by rw [hcr]; exact List.mem_cons_self)
    have hm := dec_mag n.toNat (by omega)
    rw [hcr] at hm ⊢
    rw [Lib.atoiAll_plain c r (by omega) (by omega), hm]
    unfold Lib.signless
    dsimp only
    rw [if_neg (by omega)]
    congr 1; omega

/-! ### The first slash -/
theorem itoa_noslash (n : Int) : ∀ c ∈ Lib.itoa n, c ≠ 47 := by
  intro c hc e
  subst e
  unfold Lib.itoa at hc
  split at hc
  · rcases List.mem_cons.1 hc with k | k
    · exact absurd k (by decide)
    · have := dec_digit _ _ k; exact absurd this (by decide)
  · have := dec_digit _ _ hc; exact absurd this (by decide)
theorem index_slash_none : ∀ (l : List UInt8), (∀ c ∈ l, c ≠ 47) → Lib.index l [47] = -1
  | [], _ => rfl
  | b :: l, h => by
    have ih := index_slash_none l (fun c hc => h c (List.mem_cons_of_mem _ hc))
    have hb : b ≠ 47 := h b List.mem_cons_self
    have hp : ([47] : List UInt8).isPrefixOf (b :: l) = false := by
      simp [List.isPrefixOf, Ne.symm hb]
    unfold Lib.index
    rw [hp, ih]
    rfl
theorem index_slash_at : ∀ (l r : List UInt8), (∀ c ∈ l, c ≠ 47) → Lib.index (l ++ 47 :: r) [47] = l.length
  | [], r, _ => by
    show Lib.index (47 :: r) [47] = _
    unfold Lib.index
    rw [if_pos (by simp [List.isPrefixOf])]
    rfl
  | b :: l, r, h => by
    have ih := index_slash_at l r (fun c hc => h c (List.mem_cons_of_mem _ hc))
    have hb : b ≠ 47 := h b List.mem_cons_self
    have hp : ([47] : List UInt8).isPrefixOf (b :: (l ++ 47 :: r)) = false := by
      simp [List.isPrefixOf, Ne.symm hb]
    show Lib.index (b :: (l ++ 47 :: r)) [47] = _
    unfold Lib.index
    rw [hp, ih]
    have : ((l.length : Int) == -1) = false := by rw [beq_eq_false_iff_ne]; omega
    rw [this]
    simp
theorem cut_none (l : List UInt8) (h : ∀ c ∈ l, c ≠ 47) : Lib.cut l [47] = (l, [], false) := by
  unfold Lib.cut
  rw [index_slash_none l h, if_neg (by omega)]
theorem cut_at (l r : List UInt8) (h : ∀ c ∈ l, c ≠ 47) : Lib.cut (l ++ 47 :: r) [47] = (l, r, true) := by
  unfold Lib.cut
  rw [index_slash_at l r h, if_pos (by omega)]
  simp
end Go.Proofs.YtekpfgcpbipdpaaDoor
