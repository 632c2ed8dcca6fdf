/-
  Enclosures of fractions: what the four operations make of them, as plain arithmetic.
-/
import Derived.Test.YtekpfgcpbipdpaaDoorHull
namespace Go.Proofs.YtekpfgcpbipdpaaDoor

theorem loQ3 (p q r s : Rat) : loQ p [q, r, s] ≤ p ∧ loQ p [q, r, s] ≤ q ∧ loQ p [q, r, s] ≤ r ∧ loQ p [q, r, s] ≤ s ∧ (loQ p [q, r, s] = p ∨ loQ p [q, r, s] = q ∨ loQ p [q, r, s] = r ∨ loQ p [q, r, s] = s) := by
  unfold loQ; simp only [List.foldl_cons, List.foldl_nil]; grind
theorem hiQ3 (p q r s : Rat) : p ≤ hiQ p [q, r, s] ∧ q ≤ hiQ p [q, r, s] ∧ r ≤ hiQ p [q, r, s] ∧ s ≤ hiQ p [q, r, s] ∧ (hiQ p [q, r, s] = p ∨ hiQ p [q, r, s] = q ∨ hiQ p [q, r, s] = r ∨ hiQ p [q, r, s] = s) := by
  unfold hiQ; simp only [List.foldl_cons, List.foldl_nil]; grind
theorem mulL {a b c : Rat} (h : a ≤ b) (hc : 0 ≤ c) : a * c ≤ b * c := by
  have := Rat.mul_nonneg (show 0 ≤ b - a by grind) hc
  grind
theorem mulLn {a b c : Rat} (h : a ≤ b) (hc : c ≤ 0) : b * c ≤ a * c := by
  have := Rat.mul_nonneg (show 0 ≤ b - a by grind) (show 0 ≤ -c by grind)
  grind
theorem mulR {a b c : Rat} (h : a ≤ b) (hc : 0 ≤ c) : c * a ≤ c * b := by
  have := mulL h hc
  grind
theorem mulRn {a b c : Rat} (h : a ≤ b) (hc : c ≤ 0) : c * b ≤ c * a := by
  have := mulLn h hc
  grind
theorem encl_mul {l h m n x y : Rat} (h1 : l ≤ x) (h2 : x ≤ h) (h3 : m ≤ y) (h4 : y ≤ n) :
    loQ (l * m) [l * n, h * m, h * n] ≤ x * y ∧ x * y ≤ hiQ (l * m) [l * n, h * m, h * n] := by
  obtain ⟨a1, a2, a3, a4, -⟩ := loQ3 (l * m) (l * n) (h * m) (h * n)
  obtain ⟨b1, b2, b3, b4, -⟩ := hiQ3 (l * m) (l * n) (h * m) (h * n)
  generalize loQ (l * m) [l * n, h * m, h * n] = L at *
  generalize hiQ (l * m) [l * n, h * m, h * n] = H at *
  have t : 0 ≤ y ∨ y ≤ 0 := by grind
  have tl : 0 ≤ l ∨ l ≤ 0 := by grind
  have th : 0 ≤ h ∨ h ≤ 0 := by grind
  have c1 : L ≤ l * y ∧ l * y ≤ H := by
    rcases tl with k | k
    · have := mulR h3 k; have := mulR h4 k; grind
    · have := mulRn h3 k; have := mulRn h4 k; grind
  have c2 : L ≤ h * y ∧ h * y ≤ H := by
    rcases th with k | k
    · have := mulR h3 k; have := mulR h4 k; grind
    · have := mulRn h3 k; have := mulRn h4 k; grind
  rcases t with k | k
  · have := mulL h1 k; have := mulL h2 k; grind
  · have := mulLn h1 k; have := mulLn h2 k; grind
theorem inv_le {m y : Rat} (h : m ≤ y) (hs : 0 < m ∨ y < 0) : y⁻¹ ≤ m⁻¹ := by
  have hp : 0 < m * y := by
    rcases hs with k | k
    · exact Rat.mul_pos k (by grind)
    · have := Rat.mul_pos (show 0 < -m by grind) (show 0 < -y by grind); grind
  have hi := Rat.inv_pos.2 hp
  have e : m⁻¹ - y⁻¹ = (y - m) * (m * y)⁻¹ := by
    have hm : m ≠ 0 := by grind
    have hy : y ≠ 0 := by grind
    grind
  have := Rat.mul_nonneg (show 0 ≤ y - m by grind) (Rat.le_of_lt hi)
  grind
theorem encl_div {l h m n x y : Rat} (h1 : l ≤ x) (h2 : x ≤ h) (h3 : m ≤ y) (h4 : y ≤ n) (hz : ¬ (m ≤ 0 ∧ 0 ≤ n)) :
    loQ (l * n⁻¹) [l * m⁻¹, h * n⁻¹, h * m⁻¹] ≤ x / y ∧ x / y ≤ hiQ (l * n⁻¹) [l * m⁻¹, h * n⁻¹, h * m⁻¹] := by
  rw [Rat.div_def]
  exact encl_mul h1 h2 (inv_le h4 (by grind)) (inv_le h3 (by grind))

/-- The four operations, by their numbers. -/
def opQ (k : Nat) (x y : Rat) : Rat := if k = 0 then x + y else if k = 1 then x - y else if k = 2 then x * y else x / y
/-- The enclosure from L to H is what the operation k makes of two. -/
def isSp (k : Nat) (l h m n L H : Rat) : Prop :=
  (k = 0 ∧ L = l + m ∧ H = h + n) ∨ (k = 1 ∧ L = l - n ∧ H = h - m) ∨ (k = 2 ∧ L = loQ (l * m) [l * n, h * m, h * n] ∧ H = hiQ (l * m) [l * n, h * m, h * n])
    ∨ (k = 3 ∧ ¬ (m ≤ 0 ∧ 0 ≤ n) ∧ L = loQ (l * n⁻¹) [l * m⁻¹, h * n⁻¹, h * m⁻¹] ∧ H = hiQ (l * n⁻¹) [l * m⁻¹, h * n⁻¹, h * m⁻¹])
theorem isSp_encl {k : Nat} {l h m n L H x y : Rat} (hs : isSp k l h m n L H) (h1 : l ≤ x) (h2 : x ≤ h) (h3 : m ≤ y) (h4 : y ≤ n) : L ≤ opQ k x y ∧ opQ k x y ≤ H := by
  rcases hs with ⟨rfl, rfl, rfl⟩ | ⟨rfl, rfl, rfl⟩ | ⟨rfl, rfl, rfl⟩ | ⟨rfl, hz, rfl, rfl⟩
  · rw [show opQ 0 x y = x + y from rfl]; grind
  · rw [show opQ 1 x y = x - y from rfl]; grind
  · exact encl_mul h1 h2 h3 h4
  · exact encl_div h1 h2 h3 h4 hz
theorem isSp_le {k : Nat} {l h m n L H : Rat} (hs : isSp k l h m n L H) (h1 : l ≤ h) (h2 : m ≤ n) : L ≤ H := by
  have := isSp_encl hs (x := l) (y := m) Rat.le_refl h1 Rat.le_refl h2
  exact Rat.le_trans this.1 this.2
theorem isSp_lo {k : Nat} {l h m n L H : Rat} (hs : isSp k l h m n L H) : L = opQ k l m ∨ L = opQ k h m ∨ L = opQ k l n ∨ L = opQ k h n := by
  rcases hs with ⟨rfl, rfl, rfl⟩ | ⟨rfl, rfl, rfl⟩ | ⟨rfl, rfl, rfl⟩ | ⟨rfl, hz, rfl, rfl⟩
  · exact .inl rfl
  · exact .inr (.inr (.inl rfl))
  · obtain ⟨-, -, -, -, e | e | e | e⟩ := loQ3 (l * m) (l * n) (h * m) (h * n)
    · exact .inl e
    · exact .inr (.inr (.inl e))
    · exact .inr (.inl e)
    · exact .inr (.inr (.inr e))
  · have e0 : ∀ x y : Rat, opQ 3 x y = x * y⁻¹ := fun x y => (show opQ 3 x y = x / y from rfl).trans (Rat.div_def _ _)
    rw [e0, e0, e0, e0]
    obtain ⟨-, -, -, -, e | e | e | e⟩ := loQ3 (l * n⁻¹) (l * m⁻¹) (h * n⁻¹) (h * m⁻¹)
    · exact .inr (.inr (.inl e))
    · exact .inl e
    · exact .inr (.inr (.inr e))
    · exact .inr (.inl e)
theorem isSp_hi {k : Nat} {l h m n L H : Rat} (hs : isSp k l h m n L H) : H = opQ k l m ∨ H = opQ k h m ∨ H = opQ k l n ∨ H = opQ k h n := by
  rcases hs with ⟨rfl, rfl, rfl⟩ | ⟨rfl, rfl, rfl⟩ | ⟨rfl, rfl, rfl⟩ | ⟨rfl, hz, rfl, rfl⟩
  · exact .inr (.inr (.inr rfl))
  · exact .inr (.inl rfl)
  · obtain ⟨-, -, -, -, e | e | e | e⟩ := hiQ3 (l * m) (l * n) (h * m) (h * n)
    · exact .inl e
    · exact .inr (.inr (.inl e))
    · exact .inr (.inl e)
    · exact .inr (.inr (.inr e))
  · have e0 : ∀ x y : Rat, opQ 3 x y = x * y⁻¹ := fun x y => (show opQ 3 x y = x / y from rfl).trans (Rat.div_def _ _)
    rw [e0, e0, e0, e0]
    obtain ⟨-, -, -, -, e | e | e | e⟩ := hiQ3 (l * n⁻¹) (l * m⁻¹) (h * n⁻¹) (h * m⁻¹)
    · exact .inr (.inr (.inl e))
    · exact .inl e
    · exact .inr (.inr (.inr e))
    · exact .inr (.inl e)
/-- What is made of narrower enclosures lies within. -/
theorem isSp_within {k : Nat} {l h m n L H l' h' m' n' L' H' : Rat} (hs : isSp k l h m n L H) (hs' : isSp k l' h' m' n' L' H') (h1 : l ≤ l') (h2 : l' ≤ h) (h3 : l ≤ h') (h4 : h' ≤ h) (h5 : m ≤ m') (h6 : m' ≤ n) (h7 : m ≤ n') (h8 : n' ≤ n) :
    (L ≤ L' ∧ L' ≤ H) ∧ (L ≤ H' ∧ H' ≤ H) := by
  refine ⟨?_, ?_⟩
  · rcases isSp_lo hs' with rfl | rfl | rfl | rfl <;> exact isSp_encl hs (by assumption) (by assumption) (by assumption) (by assumption)
  · rcases isSp_hi hs' with rfl | rfl | rfl | rfl <;> exact isSp_encl hs (by assumption) (by assumption) (by assumption) (by assumption)

/-- What a call of an operation on two numbers, and of the same on two enclosures, answers. -/
def Res (k : Nat) (x y l h m n : Rat) (zn zd ze A B C D F : Int) : Prop :=
  ((ze = 0 ∧ fits (opQ k x y) ∧ zn = fn (opQ k x y) ∧ zd = fd (opQ k x y)) ∨ (ze = 4 ∧ ¬ fits (opQ k x y)) ∨ (k = 3 ∧ y = 0 ∧ ze = 10))
    ∧ ((F = 0 ∧ ∃ L H : Rat, fits L ∧ fits H ∧ A = fn L ∧ B = fd L ∧ C = fn H ∧ D = fd H ∧ isSp k l h m n L H) ∨ F = 4 ∨ (k = 3 ∧ F = 10))
end Go.Proofs.YtekpfgcpbipdpaaDoor
