/-
  Layer 9: assignments, index by index: the document's own way finds the same ones, in the same order.
-/
import Derived.Test.YtnkpejinnbiocaaVMdM
namespace Go.Proofs.Ytnkpejinnbiocaa
set_option linter.unusedVariables false
set_option linter.unusedSimpArgs false

/-- Two of the indices are in order, and their gaps agree. -/
def prB (s p : Int) (zs us x : List Int) (i j : Nat) : Bool := decide (x.getD i 0 < x.getD j 0) && agrB s p (zs.getD (x.getD j 0).toNat 0 - zs.getD (x.getD i 0).toNat 0) (us.getD j 0 - us.getD i 0)
/-- Indices are the beginning of an assignment. -/
def asnB (s p : Int) (zs us x : List Int) : Bool := (List.range x.length).all fun j => (List.range j).all fun i => prB s p zs us x i j
theorem asnB_iff {s p : Int} {zs us x : List Int} : asnB s p zs us x = true ↔ ∀ i j, i < j → j < x.length → prB s p zs us x i j = true := by
  unfold asnB
  simp only [List.all_eq_true, List.mem_range]
  exact ⟨fun h i j hij hj => h j hj i hij, fun h j hj i hij => h i j hij hj⟩
theorem getD_of {x : List Int} {i : Nat} {u : Int} (h : x[i]? = some u) : x.getD i 0 = u := by rw [List.getD_eq_getElem?_getD, h]; rfl
theorem okAs_asn {s p : Int} {zs us x : List Int} {n : Nat} (h : okAs s p zs us n x) : asnB s p zs us x = true := by
  rw [asnB_iff]
  intro i j hij hj
  have hi : x[i]? = some x[i] := List.getElem?_eq_getElem (by omega)
  have hj' : x[j]? = some x[j] := List.getElem?_eq_getElem hj
  obtain ⟨h1, h2⟩ := h.2 i j _ _ hij hi hj'
  unfold prB
  rw [getD_of hi, getD_of hj', decide_eq_true h1, h2]
  rfl
/-- All assignments that begin with some indices; k are left. -/
def extR (s p : Int) (zs us : List Int) (n : Nat) : Nat → List Int → List (List Int)
  | 0, x => if asnB s p zs us x = true then [x] else []
  | k + 1, x => if asnB s p zs us x = true then (List.range n).flatMap fun (i : Nat) => extR s p zs us n k (x ++ [(i : Int)]) else []
theorem extR_no {s p : Int} {zs us x : List Int} {n k : Nat} (h : asnB s p zs us x = false) : extR s p zs us n k x = [] := by
  cases k <;> (unfold extR; rw [if_neg (by rw [h]; simp)])
theorem flatMap_none {α β : Type} {l : List α} {f : α → List β} (h : ∀ x ∈ l, f x = []) : l.flatMap f = [] := by
  induction l with
  | nil => rfl
  | cons x l ih => rw [List.flatMap_cons, h x (List.mem_cons_self ..), ih (fun y hy => h y (List.mem_cons_of_mem _ hy))]; rfl
theorem flatMap_same {α β : Type} {l : List α} {f g : α → List β} (h : ∀ x ∈ l, f x = g x) : l.flatMap f = l.flatMap g := by
  induction l with
  | nil => rfl
  | cons x l ih => rw [List.flatMap_cons, List.flatMap_cons, h x (List.mem_cons_self ..), ih (fun y hy => h y (List.mem_cons_of_mem _ hy))]
theorem getD_left {x : List Int} {i : Nat} {v : Int} (hi : i < x.length) : (x ++ [v]).getD i 0 = x.getD i 0 := by
  rw [List.getD_eq_getElem?_getD, List.getElem?_append_left hi, ← List.getD_eq_getElem?_getD]
theorem getD_last {x : List Int} {v : Int} : (x ++ [v]).getD x.length 0 = v := by
  rw [List.getD_eq_getElem?_getD, List.getElem?_append_right (Nat.le_refl _), Nat.sub_self]; rfl
/-- The pair of the last index and a new one. -/
theorem asn_snoc_no {s p : Int} {zs us x : List Int} {w v : Int} (hw : x.getLast? = some w) (h : ¬ (w < v ∧ agrB s p (zs.getD v.toNat 0 - zs.getD w.toNat 0) (us.getD x.length 0 - us.getD (x.length - 1) 0) = true)) : asnB s p zs us (x ++ [v]) = false := by
  rw [Bool.eq_false_iff]
  intro hc
  rw [asnB_iff] at hc
  have hpos : 0 < x.length := by
    cases x with
    | nil => cases hw
    | cons => simp
  have hl : x[x.length - 1]? = some w := by rw [← List.getLast?_eq_getElem?]; exact hw
  have := hc (x.length - 1) x.length (by omega) (by simp)
  unfold prB at this
  rw [getD_left (by omega), getD_last, getD_of hl, Bool.and_eq_true, decide_eq_true_eq] at this
  exact h this
theorem ext_eq {s p : Int} {zs us : List Int} {n : Nat} : ∀ (k : Nat) (x : List Int) (fr : Nat), okAs s p zs us n x → (∀ v, x.getLast? = some v → v + 1 = (fr : Int)) → (x = [] → fr = 0) → extR s p zs us n k x = asgB s p zs us n k x x.length fr := by
  intro k
  induction k with
  | zero =>
    intro x fr hx _ _
    unfold extR asgB
    rw [if_pos (okAs_asn hx)]
  | succ k ih =>
    intro x fr hx hfr h0
    have hfn : fr ≤ n := by
      cases hl : x.getLast? with
      | none => rw [List.getLast?_eq_none_iff] at hl; rw [h0 hl]; exact Nat.zero_le _
      | some w =>
        have h1 := hfr w hl
        have h2 := hx.1 (x.length - 1) w (by rw [← List.getLast?_eq_getElem?]; exact hl)
        omega
    unfold extR asgB
    rw [if_pos (okAs_asn hx), List.range_eq_range', show n = fr + (n - fr) by omega, ← List.range'_append_1, List.flatMap_append, flatMap_none, List.nil_append, Nat.zero_add, show fr + (n - fr) - fr = n - fr by omega]
    · refine flatMap_same fun i hi => ?_
      rw [List.mem_range'_1] at hi
      by_cases ho : okI s p zs us x.length fr i = true
      · rw [if_pos ho]
        have hs := okAs_snoc hx hfr hi.1 (by omega) ho
        have e := ih (x ++ [(i : Int)]) (i + 1) hs (fun v hv => by rw [List.getLast?_append] at hv; simp at hv; omega) (fun h => by simp at h)
        rw [List.length_append] at e
        rw [show fr + (n - fr) = n by omega]
        exact e
      · rw [if_neg ho]
        have ho' : okI s p zs us x.length fr i = false := by simpa using ho
        unfold okI at ho'
        rw [Bool.or_eq_false_iff] at ho'
        cases hl : x.getLast? with
        | none =>
          rw [List.getLast?_eq_none_iff] at hl
          rw [hl] at ho'
          simp at ho'
        | some w =>
          have h1 := hfr w hl
          have h2 := hx.1 (x.length - 1) w (by rw [← List.getLast?_eq_getElem?]; exact hl)
          refine extR_no (asn_snoc_no hl fun hc => ?_)
          have h3 := hc.2
          rw [Int.toNat_natCast, show w.toNat = fr - 1 by omega, ho'.2] at h3
          cases h3
    · intro i hi
      rw [List.mem_range'_1] at hi
      cases hl : x.getLast? with
      | none =>
        rw [List.getLast?_eq_none_iff] at hl
        have := h0 hl
        omega
      | some w =>
        have h1 := hfr w hl
        exact extR_no (asn_snoc_no hl fun hc => by omega)
theorem ext_all {s p : Int} {zs us : List Int} {n m : Nat} : extR s p zs us n m [] = asgB s p zs us n m [] 0 0 := ext_eq m [] 0 (okAs_nil _ _ _ _ _) (fun v h => by cases h) (fun _ => rfl)
end Go.Proofs.Ytnkpejinnbiocaa
