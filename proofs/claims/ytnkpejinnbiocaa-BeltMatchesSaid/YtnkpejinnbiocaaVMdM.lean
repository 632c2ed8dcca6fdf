/-
  Layer 9: what Match finds, over lists: assignments, in lexicographic order; more slip, not fewer.
-/
import Derived.Test.YtnkpejinnbiocaaVAs
namespace Go.Proofs.Ytnkpejinnbiocaa
open Go.RowKit Go.Shelf
set_option linter.unusedVariables false
set_option linter.unusedSimpArgs false

/-- Two gaps that agree add up to gaps that agree. -/
theorem agrB_add {s p a b c d : Int} (h1 : agrB s p a b = true) (h2 : agrB s p c d = true) : agrB s p (a + c) (b + d) = true := by
  unfold agrB at h1 h2 ⊢
  rw [decide_eq_true_eq] at h1 h2 ⊢
  rw [Int.add_mul, Int.add_mul, Int.add_mul, Int.add_mul]
  omega
/-- More slip, not less agreement. -/
theorem agrB_mono {s p q a b : Int} (hpq : p ≤ q) (ha : 0 ≤ a) (hb : 0 ≤ b) (h : agrB s p a b = true) : agrB s q a b = true := by
  unfold agrB at h ⊢
  rw [decide_eq_true_eq] at h ⊢
  have m : ∀ x u v : Int, 0 ≤ x → u ≤ v → x * u ≤ x * v := fun x u v hx hu => Int.mul_le_mul_of_nonneg_left hu hx
  have h1 := m a (s - q) (s - p) ha (by omega)
  have h2 := m b (s - q) (s - p) hb (by omega)
  have h3 := m a (s + p) (s + q) ha (by omega)
  have h4 := m b (s + p) (s + q) hb (by omega)
  omega
/-- Indices of parts that follow each other, all of whose gaps agree. -/
def okAs (s p : Int) (zs us : List Int) (n : Nat) (y : List Int) : Prop :=
  (∀ (j : Nat) (v : Int), y[j]? = some v → 0 ≤ v ∧ v < (n : Int)) ∧ ∀ (i j : Nat) (u v : Int), i < j → y[i]? = some u → y[j]? = some v → u < v ∧ agrB s p (zs.getD v.toNat 0 - zs.getD u.toNat 0) (us.getD j 0 - us.getD i 0) = true
theorem okAs_nil (s p : Int) (zs us : List Int) (n : Nat) : okAs s p zs us n [] := ⟨fun j v h => (by cases h), fun i j u v _ h => (by cases h)⟩
/-- One more index. -/
theorem okAs_snoc {s p : Int} {zs us : List Int} {n : Nat} {x : List Int} {fr i : Nat} (hx : okAs s p zs us n x) (hfr : ∀ v, x.getLast? = some v → v + 1 = (fr : Int)) (hfi : fr ≤ i) (hin : i < n) (ho : okI s p zs us x.length fr i = true) : okAs s p zs us n (x ++ [(i : Int)]) := by
  obtain ⟨h1, h2⟩ := hx
  have hlast : ∀ (k : Nat) (u : Int), x[k]? = some u → u < (i : Int) ∧ agrB s p (zs.getD i 0 - zs.getD u.toNat 0) (us.getD x.length 0 - us.getD k 0) = true := by
    intro k u hk
    have hkl := (List.getElem?_eq_some_iff.1 hk).1
    have hpos : 0 < x.length := by omega
    obtain ⟨w, hw⟩ : ∃ w, x[x.length - 1]? = some w := ⟨_, List.getElem?_eq_getElem (by omega)⟩
    have hwl : x.getLast? = some w := by rw [List.getLast?_eq_getElem?]; exact hw
    have hwf := hfr w hwl
    have hw0 := h1 _ _ hw
    have hag : agrB s p (zs.getD i 0 - zs.getD w.toNat 0) (us.getD x.length 0 - us.getD (x.length - 1) 0) = true := by
      unfold okI at ho
      have hne : (x.length == 0) = false := by rw [beq_eq_false_iff_ne]; omega
      rw [hne, Bool.false_or, show fr - 1 = w.toNat by omega] at ho
      exact ho
    by_cases hke : k = x.length - 1
    · subst hke
      rw [hk] at hw
      cases hw
      exact ⟨by omega, hag⟩
    · obtain ⟨q1, q2⟩ := h2 k (x.length - 1) u w (by omega) hk hw
      refine ⟨by omega, ?_⟩
      have q := agrB_add hag q2
      rw [show zs.getD i 0 - zs.getD w.toNat 0 + (zs.getD w.toNat 0 - zs.getD u.toNat 0) = zs.getD i 0 - zs.getD u.toNat 0 by omega, show us.getD x.length 0 - us.getD (x.length - 1) 0 + (us.getD (x.length - 1) 0 - us.getD k 0) = us.getD x.length 0 - us.getD k 0 by omega] at q
      exact q
  refine ⟨fun j v hj => ?_, fun a b u v hab ha hb => ?_⟩
  · by_cases hjl : j < x.length
    · rw [List.getElem?_append_left hjl] at hj; exact h1 j v hj
    · rw [List.getElem?_append_right (by omega)] at hj
      have := List.mem_of_getElem? hj
      rw [List.mem_singleton] at this
      omega
  · have hbl := (List.getElem?_eq_some_iff.1 hb).1
    rw [List.length_append] at hbl
    simp only [List.length_cons, List.length_nil] at hbl
    rw [List.getElem?_append_left (by omega)] at ha
    by_cases hbx : b < x.length
    · rw [List.getElem?_append_left hbx] at hb
      exact h2 a b u v hab ha hb
    · obtain rfl : b = x.length := by omega
      rw [List.getElem?_append_right (by omega), Nat.sub_self] at hb
      cases hb
      have := hlast a u ha
      rw [Int.toNat_natCast]
      exact this
/-- All that are found are assignments. -/
theorem asg_ok {s p : Int} {zs us : List Int} {n : Nat} {y : List Int} : ∀ (k : Nat) (x : List Int) (fr : Nat), okAs s p zs us n x → (∀ v, x.getLast? = some v → v + 1 = (fr : Int)) → y ∈ asgB s p zs us n k x x.length fr → okAs s p zs us n y ∧ y.length = x.length + k := by
  intro k
  induction k with
  | zero =>
    intro x fr hx hfr h
    have h : y ∈ [x] := h
    rw [List.mem_singleton] at h
    subst h
    exact ⟨hx, rfl⟩
  | succ k ih =>
    intro x fr hx hfr h
    unfold asgB at h
    rw [List.mem_flatMap] at h
    obtain ⟨i, hi, h⟩ := h
    rw [List.mem_range'_1] at hi
    by_cases ho : okI s p zs us x.length fr i = true
    · rw [if_pos ho] at h
      have q := ih (x ++ [(i : Int)]) (i + 1) (okAs_snoc hx hfr hi.1 (by omega) ho) (fun v hv => by simp at hv; omega) (by simpa using h)
      rw [List.length_append] at q
      simp only [List.length_cons, List.length_nil] at q
      exact ⟨q.1, by omega⟩
    · rw [if_neg ho] at h; cases h
/-- A list comes before another one of the same length. -/
def lexB : List Int → List Int → Prop
  | a :: us, b :: vs => a < b ∨ a = b ∧ lexB us vs
  | _, _ => False
theorem lexB_pre (x : List Int) {a b : Int} (h : a < b) (us vs : List Int) : lexB (x ++ a :: us) (x ++ b :: vs) := by
  induction x with
  | nil => exact .inl h
  | cons c x ih => exact .inr ⟨rfl, ih⟩
theorem asg_pre {s p : Int} {zs us : List Int} {n : Nat} {y : List Int} : ∀ (k : Nat) (x : List Int) (part fr : Nat), y ∈ asgB s p zs us n k x part fr → ∃ t, y = x ++ t := by
  intro k
  induction k with
  | zero =>
    intro x part fr h
    have h : y ∈ [x] := h
    rw [List.mem_singleton] at h
    exact ⟨[], by simp [h]⟩
  | succ k ih =>
    intro x part fr h
    unfold asgB at h
    rw [List.mem_flatMap] at h
    obtain ⟨i, -, h⟩ := h
    by_cases ho : okI s p zs us part fr i = true
    · rw [if_pos ho] at h
      obtain ⟨t, rfl⟩ := ih _ _ _ h
      exact ⟨(i : Int) :: t, by simp⟩
    · rw [if_neg ho] at h; cases h
/-- They come in lexicographic order. -/
theorem asg_sorted (s p : Int) (zs us : List Int) (n : Nat) : ∀ (k : Nat) (x : List Int) (part fr : Nat), (asgB s p zs us n k x part fr).Pairwise lexB := by
  intro k
  induction k with
  | zero => intro x part fr; exact List.pairwise_singleton _ _
  | succ k ih =>
    intro x part fr
    unfold asgB
    have gen : ∀ l : List Nat, l.Pairwise (· < ·) → (l.flatMap fun i => if okI s p zs us part fr i then asgB s p zs us n k (x ++ [(i : Int)]) (part + 1) (i + 1) else []).Pairwise lexB := by
      intro l
      induction l with
      | nil => intro _; exact List.Pairwise.nil
      | cons i l ihl =>
        intro hl
        rw [List.pairwise_cons] at hl
        rw [List.flatMap_cons, List.pairwise_append]
        refine ⟨?_, ihl hl.2, fun a ha b hb => ?_⟩
        · by_cases ho : okI s p zs us part fr i = true
          · rw [if_pos ho]; exact ih _ _ _
          · rw [if_neg ho]; exact List.Pairwise.nil
        · by_cases ho : okI s p zs us part fr i = true
          · rw [if_pos ho] at ha
            rw [List.mem_flatMap] at hb
            obtain ⟨j, hj, hb⟩ := hb
            by_cases ho2 : okI s p zs us part fr j = true
            · rw [if_pos ho2] at hb
              obtain ⟨t1, rfl⟩ := asg_pre _ _ _ _ ha
              obtain ⟨t2, rfl⟩ := asg_pre _ _ _ _ hb
              have hij := hl.1 j hj
              simp only [List.append_assoc, List.singleton_append]
              exact lexB_pre x (by omega) _ _
            · rw [if_neg ho2] at hb; cases hb
          · rw [if_neg ho] at ha; cases ha
    exact gen _ (List.pairwise_lt_range' _)
/-- More slip, not fewer. -/
theorem asg_more {s p q : Int} {zs us : List Int} {n : Nat} (hpq : p ≤ q) (hz : ∀ i j, i < j → j < n → zs.getD i 0 ≤ zs.getD j 0) : ∀ (k : Nat) (x : List Int) (part fr : Nat), (∀ j, j < part + k → us.getD (j - 1) 0 ≤ us.getD j 0) → (asgB s p zs us n k x part fr).length ≤ (asgB s q zs us n k x part fr).length := by
  intro k
  induction k with
  | zero => intro x part fr _; exact Nat.le_refl _
  | succ k ih =>
    intro x part fr hu
    unfold asgB
    have gen : ∀ l : List Nat, (∀ i ∈ l, fr ≤ i ∧ i < n) → (l.flatMap fun i => if okI s p zs us part fr i then asgB s p zs us n k (x ++ [(i : Int)]) (part + 1) (i + 1) else []).length ≤ (l.flatMap fun i => if okI s q zs us part fr i then asgB s q zs us n k (x ++ [(i : Int)]) (part + 1) (i + 1) else []).length := by
      intro l
      induction l with
      | nil => intro _; exact Nat.le_refl _
      | cons i l ihl =>
        intro hl
        rw [List.flatMap_cons, List.flatMap_cons, List.length_append, List.length_append]
        have h1 := ihl (fun j hj => hl j (by simp [hj]))
        have h0 : (if okI s p zs us part fr i then asgB s p zs us n k (x ++ [(i : Int)]) (part + 1) (i + 1) else []).length ≤ (if okI s q zs us part fr i then asgB s q zs us n k (x ++ [(i : Int)]) (part + 1) (i + 1) else []).length := by
          by_cases ho : okI s p zs us part fr i = true
          · have ho2 : okI s q zs us part fr i = true := by
              unfold okI at ho ⊢
              rw [Bool.or_eq_true] at ho ⊢
              rcases ho with ho | ho
              · exact .inl ho
              · right
                have hi := hl i (by simp)
                refine agrB_mono hpq ?_ ?_ ho
                · by_cases he : fr - 1 = i
                  · rw [he]; omega
                  · have := hz (fr - 1) i (by omega) hi.2; omega
                · have := hu part (by omega); omega
            rw [if_pos ho, if_pos ho2]
            exact ih _ _ _ (fun j hj => hu j (by omega))
          · rw [if_neg ho]; exact Nat.zero_le _
        omega
    exact gen _ (fun i hi => by rw [List.mem_range'_1] at hi; omega)
end Go.Proofs.Ytnkpejinnbiocaa
