/-
  Fractions: the parts of a rational number, which of them fit, and the code's way to them.
-/
import Derived.WalkKit
namespace Go.Proofs.Ytcafmmhjlecgpaa

/-- The parts of a rational number. -/
def fn (q : Rat) : Int := q.num
def fd (q : Rat) : Int := (q.den : Int)
/-- It fits. -/
def fits (q : Rat) : Prop := -4611686018427387903 ≤ fn q ∧ fn q ≤ 4611686018427387903 ∧ fd q ≤ 4611686018427387903
instance (q : Rat) : Decidable (fits q) := inferInstanceAs (Decidable (_ ∧ _))
/-- What a call returns for a rational number: its parts, or zeros and the error that it is too large. -/
def rn (q : Rat) : Int := if fits q then fn q else 0
def rd (q : Rat) : Int := if fits q then fd q else 0
def re (q : Rat) : Int := if fits q then 0 else 4
theorem fd_pos (q : Rat) : 1 ≤ fd q := by unfold fd; have := q.den_pos; omega
theorem fd_ne (q : Rat) : fd q ≠ 0 := by have := fd_pos q; omega
/-- The greatest common divisor. -/
def gcdI (x y : Int) : Int := (Int.gcd x y : Int)
theorem gcdI_lo (x y : Int) : 0 ≤ gcdI x y := by unfold gcdI; omega
theorem gcdI_pos_right (x y : Int) (h : 0 < y) : 0 < gcdI x y := by
  unfold gcdI; have := Int.gcd_pos_of_ne_zero_right x (show y ≠ 0 by omega); omega
theorem gcdI_pos_left (x y : Int) (h : 0 < x) : 0 < gcdI x y := by
  unfold gcdI; have := Int.gcd_pos_of_ne_zero_left y (show x ≠ 0 by omega); omega
theorem gcdI_le_right (x y : Int) (h : 0 < y) : gcdI x y ≤ y := by
  unfold gcdI; have := Nat.le_of_dvd (by omega) (Nat.gcd_dvd_right x.natAbs y.natAbs); rw [← Int.gcd_eq_natAbs_gcd_natAbs] at this; omega
theorem gcdI_le_left (x y : Int) (h : 0 < x) : gcdI x y ≤ x := by
  unfold gcdI; have := Nat.le_of_dvd (by omega) (Nat.gcd_dvd_left x.natAbs y.natAbs); rw [← Int.gcd_eq_natAbs_gcd_natAbs] at this; omega
theorem gcdI_zero (x : Int) (h : 0 ≤ x) : gcdI x 0 = x := by unfold gcdI; rw [Int.gcd_zero_right]; omega
theorem gcdI_step (x y : Int) (hx : 0 ≤ x) (hy : 0 < y) : gcdI y (x % y) = gcdI x y := by
  unfold gcdI
  congr 1
  obtain ⟨X, rfl⟩ := Int.eq_ofNat_of_zero_le hx
  obtain ⟨Y, rfl⟩ := Int.eq_ofNat_of_zero_le (Int.le_of_lt hy)
  rw [← Int.natCast_emod, Int.gcd_natCast_natCast, Int.gcd_natCast_natCast, Nat.gcd_comm X, Nat.gcd_rec Y X, Nat.gcd_comm]

theorem q_gcd (q : Rat) : gcdI (fn q) (fd q) = 1 := by
  unfold gcdI fn fd
  rw [Int.gcd_eq_natAbs_gcd_natAbs, Int.natAbs_natCast, show q.num.natAbs.gcd q.den = 1 from q.reduced]; rfl
/-- Two numbers without a common divisor are the parts of a rational number. -/
theorem q_of (a b : Int) (hb : 1 ≤ b) (h : gcdI a b = 1) : ∃ q : Rat, fn q = a ∧ fd q = b := by
  obtain ⟨B, rfl⟩ := Int.eq_ofNat_of_zero_le (show 0 ≤ b by omega)
  have h1 : a.natAbs.Coprime B := by
    unfold gcdI at h
    rw [Int.gcd_eq_natAbs_gcd_natAbs, Int.natAbs_natCast] at h
    unfold Nat.Coprime; omega
  exact ⟨⟨a, B, by omega, h1⟩, rfl, rfl⟩
theorem q_ext {q r : Rat} (h1 : fn q = fn r) (h2 : fd q = fd r) : q = r := by
  unfold fn fd at *; exact Rat.ext h1 (by omega)
/-- A fraction is valid. -/
def okF (a b : Int) : Prop := 1 ≤ b ∧ b ≤ 4611686018427387903 ∧ -4611686018427387903 ≤ a ∧ a ≤ 4611686018427387903 ∧ gcdI a b = 1
instance (a b : Int) : Decidable (okF a b) := inferInstanceAs (Decidable (_ ∧ _))
theorem okF_iff (a b : Int) : okF a b ↔ ∃ q : Rat, fits q ∧ fn q = a ∧ fd q = b := by
  constructor
  · rintro ⟨h1, h2, h3, h4, h5⟩
    obtain ⟨q, rfl, rfl⟩ := q_of a b h1 h5
    exact ⟨q, ⟨h3, h4, h2⟩, rfl, rfl⟩
  · rintro ⟨q, ⟨h1, h2, h3⟩, rfl, rfl⟩
    exact ⟨fd_pos q, h3, h1, h2, q_gcd q⟩
theorem okF_q {q : Rat} (h : fits q) : okF (fn q) (fd q) := (okF_iff _ _).2 ⟨q, h, rfl, rfl⟩
theorem mul_bound (x y M N : Int) (hx : -M ≤ x ∧ x ≤ M) (hy : -N ≤ y ∧ y ≤ N) (hM : 0 ≤ M) (hN : 0 ≤ N) : -(M * N) ≤ x * y ∧ x * y ≤ M * N := by
  have h : (x * y).natAbs ≤ (M * N).natAbs := by
    rw [Int.natAbs_mul, Int.natAbs_mul]
    exact Nat.mul_le_mul (by omega) (by omega)
  have := Int.mul_nonneg hM hN
  omega

/-- The code's way to a sum or a difference. -/
theorem div_bounds (b g : Int) (hb : 1 ≤ b) (hg : 0 < g) (hd : g ≤ b) : 1 ≤ b / g ∧ b / g ≤ b := by
  constructor
  · exact (Int.le_ediv_iff_mul_le hg).2 (by omega)
  · exact Int.ediv_le_self _ (by omega)
theorem gcdI_fd (q r : Rat) : gcdI (fd q) (fd r) = ((q.den.gcd r.den : Nat) : Int) := by
  unfold gcdI fd; rw [Int.gcd_natCast_natCast]
theorem gcdI_mag (g t : Int) (hg : 0 < g) : gcdI g ((t.natAbs : Int) % g) = ((t.natAbs.gcd g.toNat : Nat) : Int) := by
  obtain ⟨G, rfl⟩ := Int.eq_ofNat_of_zero_le (Int.le_of_lt hg)
  unfold gcdI
  rw [← Int.natCast_emod, Int.gcd_natCast_natCast, Int.toNat_natCast, Nat.gcd_comm G, ← Nat.gcd_rec, Nat.gcd_comm]
theorem add_parts (q r : Rat) (g l t s : Int) (hg : g = gcdI (fd q) (fd r)) (hl : l = fd q / g) (ht : t = fn q * (fd r / g) + fn r * l) (hs : s = gcdI g ((t.natAbs : Int) % g)) :
    t.tdiv s = fn (q + r) ∧ l * (fd r / s) = fd (q + r) := by
  have e : q + r = Rat.add q r := rfl
  have gp : 0 < g := by rw [hg]; exact gcdI_pos_left _ _ (by have := fd_pos q; omega)
  rw [gcdI_mag g t gp] at hs
  rw [gcdI_fd] at hg
  unfold fn fd at *
  rw [e]
  unfold Rat.add
  subst hg
  rw [Int.toNat_natCast] at hs
  have d1 : ((q.den : Int) / ((q.den.gcd r.den : Nat) : Int)) = ((q.den / q.den.gcd r.den : Nat) : Int) := by rw [Int.natCast_ediv]
  have d2 : ((r.den : Int) / ((q.den.gcd r.den : Nat) : Int)) = ((r.den / q.den.gcd r.den : Nat) : Int) := by rw [Int.natCast_ediv]
  rw [d1] at hl
  rw [d2, hl] at ht
  by_cases h : q.den.gcd r.den = 1
  · rw [dif_pos h]
    rw [h] at hs ht hl
    rw [Nat.gcd_one_right] at hs
    subst hs
    simp only [Nat.div_one] at ht hl
    exact ⟨by rw [ht]; simp, by rw [hl]; simp⟩
  · rw [dif_neg h]
    dsimp only
    subst ht
    unfold Rat.maybeNormalize
    have dv : ∀ t : Int, t.natAbs.gcd (q.den.gcd r.den) ∣ r.den := fun _ => Nat.dvd_trans (Nat.gcd_dvd_right _ _) (Nat.gcd_dvd_right _ _)
    split
    · rename_i h1
      rw [h1] at hs; subst hs
      exact ⟨by simp, by rw [hl]; simp⟩
    · dsimp only
      refine ⟨by rw [hs, Int.divExact_eq_tdiv], ?_⟩
      rw [hs, hl, Nat.divExact_eq_div, ← Int.natCast_ediv, ← Int.natCast_mul, Nat.mul_div_assoc _ (dv _)]
theorem sub_parts (q r : Rat) (g l t s : Int) (hg : g = gcdI (fd q) (fd r)) (hl : l = fd q / g) (ht : t = fn q * (fd r / g) - fn r * l) (hs : s = gcdI g ((t.natAbs : Int) % g)) :
    t.tdiv s = fn (q - r) ∧ l * (fd r / s) = fd (q - r) := by
  have e1 : fn (-r) = -fn r := rfl
  have e2 : fd (-r) = fd r := rfl
  rw [Rat.sub_eq_add_neg]
  have := add_parts q (-r) g l t s (by rw [e2]; exact hg) hl (by rw [e1, e2, ht, Int.neg_mul, Int.sub_eq_add_neg]) hs
  rw [e2] at this; exact this
theorem mul_parts (q r : Rat) (g h : Int) (hg : g = gcdI (fn q) (fd r)) (hh : h = gcdI (fn r) (fd q)) :
    (fn q).tdiv g * (fn r).tdiv h = fn (q * r) ∧ fd q / h * (fd r / g) = fd (q * r) := by
  have e : q * r = Rat.mul q r := rfl
  unfold gcdI fn fd at *
  rw [Int.gcd_eq_natAbs_gcd_natAbs, Int.natAbs_natCast] at hg hh
  rw [e]
  unfold Rat.mul
  dsimp only
  rw [hg, hh, Int.divExact_eq_tdiv, Int.divExact_eq_tdiv, Nat.divExact_eq_div, Nat.divExact_eq_div]
  exact ⟨rfl, by rw [Int.natCast_mul, Int.natCast_ediv, Int.natCast_ediv]⟩
theorem inv_parts (r : Rat) (h : fn r ≠ 0) : (fn r < 0 → fn r⁻¹ = -fd r ∧ fd r⁻¹ = -fn r) ∧ (0 ≤ fn r → fn r⁻¹ = fd r ∧ fd r⁻¹ = fn r) := by
  have e : r⁻¹ = Rat.inv r := rfl
  unfold fn fd at *
  rw [e]
  unfold Rat.inv
  refine ⟨fun k => ?_, fun k => ?_⟩
  · rw [dif_pos k]; exact ⟨rfl, by dsimp only; omega⟩
  · rw [dif_neg (by omega), dif_pos (by omega)]; exact ⟨rfl, by dsimp only; omega⟩
theorem cmp_parts (q r : Rat) : (fn q * fd r - fn r * fd q < 0 ↔ q < r) ∧ (fn q * fd r - fn r * fd q = 0 ↔ q = r) ∧ (0 < fn q * fd r - fn r * fd q ↔ r < q) := by
  have a := Rat.lt_iff q r
  have b := Rat.lt_iff r q
  unfold fn fd
  refine ⟨by rw [a]; omega, ?_, by rw [b]; omega⟩
  constructor
  · intro h
    have h1 : ¬ q < r := by rw [a]; omega
    have h2 : ¬ r < q := by rw [b]; omega
    exact Rat.le_antisymm (Rat.not_lt.1 h2) (Rat.not_lt.1 h1)
  · rintro rfl; omega
/-- -1, 0 or 1: whether a number is less than another one, equal, or greater. -/
def ordQ (q r : Rat) : Int := (fn q * fd r - fn r * fd q).sign
theorem ordQ_lt {q r : Rat} : ordQ q r < 0 ↔ q < r := by
  rw [← (cmp_parts q r).1]; unfold ordQ; exact Int.sign_neg_iff
theorem ordQ_gt {q r : Rat} : 0 < ordQ q r ↔ r < q := by
  rw [← (cmp_parts q r).2.2]; unfold ordQ; exact Int.sign_pos_iff
theorem ordQ_eq {q r : Rat} : ordQ q r = 0 ↔ q = r := by
  rw [← (cmp_parts q r).2.1]; unfold ordQ; exact Int.sign_eq_zero_iff_zero
theorem ordQ_le {q r : Rat} : ordQ q r ≤ 0 ↔ q ≤ r := by
  rw [← Rat.not_lt, ← ordQ_gt]; omega
theorem ordQ_bounds (q r : Rat) : -1 ≤ ordQ q r ∧ ordQ q r ≤ 1 := by
  unfold ordQ
  rcases Int.lt_trichotomy (fn q * fd r - fn r * fd q) 0 with h | h | h
  · rw [Int.sign_eq_neg_one_of_neg h]; omega
  · rw [h]; decide
  · rw [Int.sign_eq_one_of_pos h]; omega

/-- The rational number of two whole numbers. -/
def mkR (n d : Int) : Rat := Rat.divInt n d
theorem mkR_parts (n d g : Int) (hd : d ≠ 0) (hg : g = gcdI (n.natAbs : Int) (d.natAbs : Int)) :
    fn (mkR n d) = d.sign * n.sign * ((n.natAbs : Int) / g) ∧ fd (mkR n d) = (d.natAbs : Int) / g := by
  have hg' : g = (d.gcd n : Int) := by
    rw [hg]; unfold gcdI
    rw [Int.gcd_natCast_natCast, ← Int.gcd_eq_natAbs_gcd_natAbs, Int.gcd_comm]
  unfold fn fd mkR
  rw [Rat.num_divInt, Rat.den_divInt, if_neg hd, hg']
  have dv : (d.gcd n : Int) ∣ n := Int.gcd_dvd_right d n
  refine ⟨?_, by rw [Int.natCast_ediv]⟩
  have dv2 : (d.gcd n : Int) ∣ (n.natAbs : Int) := Int.dvd_natAbs.2 dv
  have e2 : d.sign * n = d.sign * n.sign * (n.natAbs : Int) := by rw [Int.mul_assoc, Int.sign_mul_natAbs]
  rw [e2, Int.mul_ediv_assoc _ dv2]
end Go.Proofs.Ytcafmmhjlecgpaa
