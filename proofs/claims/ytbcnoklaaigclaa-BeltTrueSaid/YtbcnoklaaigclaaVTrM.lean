/-
  Layer 9: the true assignment is among those found: over lists.
-/
import Derived.Test.YtbcnoklaaigclaaVAs
namespace Go.Proofs.Ytbcnoklaaigclaa
open Go.RowKit Go.Shelf
set_option linter.unusedVariables false
set_option linter.unusedSimpArgs false

/-- Sums of the first numbers of a list. -/
def pfx (a : Int) (ns : List Int) (i : Nat) : Int := a + (ns.take i).sum
theorem pfx_zero (a : Int) (ns : List Int) : pfx a ns 0 = a := by simp [pfx]
theorem pfx_succ {a x : Int} {ns : List Int} {i : Nat} (h : ns[i]? = some x) : pfx a ns (i + 1) = pfx a ns i + x := by
  unfold pfx
  rw [List.take_add_one, h]
  simp
  omega
theorem pfx_bd {a : Int} {ns : List Int} (ha : 0 ≤ a ∧ a ≤ 65535) (hn : ∀ x ∈ ns, 0 ≤ x ∧ x ≤ 255) : ∀ i : Nat, i ≤ ns.length → 0 ≤ pfx a ns i ∧ pfx a ns i ≤ 65535 + 255 * (i : Int) := by
  intro i
  induction i with
  | zero => intro _; rw [pfx_zero]; omega
  | succ i ih =>
    intro hi
    have e : ns[i]? = some (ns[i]'(by omega)) := List.getElem?_eq_getElem _
    rw [pfx_succ e]
    have := ih (by omega)
    have := hn _ (List.mem_of_getElem? e)
    omega
theorem range_snoc {α : Type} (P : Nat → α) (i : Nat) : (List.range (i + 1)).map P = (List.range i).map P ++ [P i] := by rw [List.range_succ, List.map_append]; rfl
/-- A gap and its counts at both stations. -/
def gapOk (s p g n m : Int) : Prop := (1 ≤ n ∧ 1 ≤ m) ∧ (n * (s - p) ≤ g ∧ g ≤ n * (s + p)) ∧ m * (s - p) ≤ g ∧ g ≤ m * (s + p)
def gapsOk (s p : Int) (gs ns ms : List Int) (N : Nat) : Prop := ∀ (i : Nat), i < N → ∃ g n m, gs[i]? = some g ∧ ns[i]? = some n ∧ ms[i]? = some m ∧ gapOk s p g n m
theorem pfx_lt {s p a b : Int} {gs ns ms : List Int} {N : Nat} (h : gapsOk s p gs ns ms N) {i j : Nat} (hij : i < j) (hj : j ≤ N) : pfx a ns i < pfx a ns j ∧ pfx b ms i < pfx b ms j := by
  induction j with
  | zero => omega
  | succ j ih =>
    obtain ⟨g, n, m, h1, h2, h3, ⟨h4, h5⟩, -⟩ := h j (by omega)
    rw [pfx_succ h2, pfx_succ h3]
    by_cases he : i = j
    · subst he; omega
    · have := ih (by omega) (by omega)
      omega
theorem pfx_gap {s p a b : Int} {gs ns ms : List Int} {N : Nat} (h : gapsOk s p gs ns ms N) {i j : Nat} (hij : i ≤ j) (hj : j ≤ N) :
    ((pfx a ns j - pfx a ns i) * (s - p) ≤ pfx 0 gs j - pfx 0 gs i ∧ pfx 0 gs j - pfx 0 gs i ≤ (pfx a ns j - pfx a ns i) * (s + p)) ∧ (pfx b ms j - pfx b ms i) * (s - p) ≤ pfx 0 gs j - pfx 0 gs i ∧ pfx 0 gs j - pfx 0 gs i ≤ (pfx b ms j - pfx b ms i) * (s + p) := by
  induction j with
  | zero =>
    obtain rfl : i = 0 := by omega
    simp
  | succ j ih =>
    by_cases he : i = j + 1
    · subst he
      simp
    · obtain ⟨g, n, m, h1, h2, h3, -, ⟨h6, h7⟩, h8, h9⟩ := h j (by omega)
      obtain ⟨⟨q1, q2⟩, q3, q4⟩ := ih (by omega) (by omega)
      rw [pfx_succ h1, pfx_succ h2, pfx_succ h3]
      have e1 : ∀ x y z t : Int, (x + y - z) * t = (x - z) * t + y * t := fun x y z t => by rw [show x + y - z = (x - z) + y by omega, Int.add_mul]
      rw [e1, e1, e1, e1]
      omega
theorem pfx_agr {s p a b : Int} {gs ns ms : List Int} {N : Nat} (h : gapsOk s p gs ns ms N) {i j : Nat} (hij : i ≤ j) (hj : j ≤ N) : agrB s p (pfx a ns j - pfx a ns i) (pfx b ms j - pfx b ms i) = true := by
  obtain ⟨⟨q1, q2⟩, q3, q4⟩ := pfx_gap (a := a) (b := b) h hij hj
  unfold agrB
  rw [decide_eq_true_eq]
  omega
theorem asg_mem {s p : Int} {zs us : List Int} {n : Nat} {P Q : Nat → Int} (hz : ∀ i, i < n → zs.getD i 0 = P i) (hA : ∀ i j, i < j → j < n → agrB s p (P j - P i) (Q j - Q i) = true) :
    ∀ (rest pre : List Nat), (pre ++ rest).Pairwise (· < ·) → (∀ x ∈ pre ++ rest, x < n) → us = (pre ++ rest).map Q → ∀ fr, (pre = [] ∧ fr = 0 ∨ ∃ l, pre.getLast? = some l ∧ fr = l + 1) →
    (pre ++ rest).map (fun (x : Nat) => (x : Int)) ∈ asgB s p zs us n rest.length (pre.map (fun (x : Nat) => (x : Int))) pre.length fr := by
  intro rest
  induction rest with
  | nil =>
    intro pre hp hl hu fr hfr
    simp [asgB]
  | cons i r ih =>
    intro pre hp hl hu fr hfr
    have hin : i < n := hl i (by simp)
    have hfi : fr ≤ i := by
      rcases hfr with ⟨-, rfl⟩ | ⟨l, hl1, rfl⟩
      · omega
      · have hlm : l ∈ pre := List.mem_of_getLast? hl1
        have := (List.pairwise_append.1 hp).2.2 l hlm i (by simp)
        omega
    have hu1 : us.getD pre.length 0 = Q i := by
      rw [hu]; simp [List.getD_eq_getElem?_getD]
    show (pre ++ i :: r).map (fun (x : Nat) => (x : Int)) ∈ (List.range' fr (n - fr)).flatMap fun i => if okI s p zs us pre.length fr i then asgB s p zs us n r.length (pre.map (fun (x : Nat) => (x : Int)) ++ [(i : Int)]) (pre.length + 1) (i + 1) else []
    rw [List.mem_flatMap]
    refine ⟨i, List.mem_range'_1.2 ⟨hfi, by omega⟩, ?_⟩
    have hok : okI s p zs us pre.length fr i = true := by
      unfold okI
      rcases hfr with ⟨rfl, rfl⟩ | ⟨l, hl1, rfl⟩
      · simp
      · have hlm : l ∈ pre := List.mem_of_getLast? hl1
        have hli := (List.pairwise_append.1 hp).2.2 l hlm i (by simp)
        have hpos : 0 < pre.length := List.length_pos_of_mem hlm
        have hu2 : us.getD (pre.length - 1) 0 = Q l := by
          rw [List.getLast?_eq_getElem?] at hl1
          rw [hu, List.getD_eq_getElem?_getD, List.getElem?_map, List.getElem?_append_left (by omega), hl1]
          rfl
        rw [hu1, hu2, show l + 1 - 1 = l by omega, hz i hin, hz l (by omega), hA l i hli hin]
        simp
    rw [if_pos hok]
    have e : pre ++ i :: r = (pre ++ [i]) ++ r := by simp
    rw [e] at hp hl hu ⊢
    have q := ih (pre ++ [i]) hp hl hu (i + 1) (.inr ⟨i, by simp, rfl⟩)
    simpa using q
/-- Counts that increase, as a function of their place. -/
theorem cntF_map {P : Nat → Int} {M : Nat} (h0 : ∀ i, i < M → 0 ≤ P i ∧ P i ≤ 1099511627776) (h1 : ∀ i j, i < j → j < M → P i < P j) : ∀ (w : List Nat) (b : Int), w.Pairwise (· < ·) → (∀ x ∈ w, x < M) → (∀ x ∈ w, b < P x) → cntF b (w.map P) := by
  intro w
  induction w with
  | nil => intro b _ _ _; trivial
  | cons x w ih =>
    intro b hp hl hb
    rw [List.pairwise_cons] at hp
    exact ⟨⟨h0 x (hl x (by simp)), hb x (by simp)⟩, ih _ hp.2 (fun y hy => hl y (by simp [hy])) (fun y hy => h1 x y (hp.1 y hy) (hl y (by simp [hy])))⟩
end Go.Proofs.Ytbcnoklaaigclaa
