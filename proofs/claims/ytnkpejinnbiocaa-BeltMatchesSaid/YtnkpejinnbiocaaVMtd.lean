/-
  The law BeltMatched.
-/
import Derived.Test.YtnkpejinnbiocaaVBef
import Derived.Test.YtnkpejinnbiocaaVAl3
namespace Go.Proofs.Ytnkpejinnbiocaa
open Go.RowKit Go.Shelf
set_option linter.unusedVariables false
set_option linter.unusedSimpArgs false


def good (s p g l : Int) (zs us : List Int) (n m : Nat) : Prop := okB s p g l ∧ cntF (-1) zs ∧ cntF (-1) us ∧ 0 < (asgB s p zs us n m [] 0 0).length
theorem rowIv {w : World} {a : Option Addr} {n : Nat} {xs : List Int} (h : RowK 1 in1 w a n xs) : Row w a n (iv xs) := by
  refine ⟨by rw [iv_length]; exact h.1, fun hn => ?_⟩
  obtain ⟨b, off, ha, hlt, hc⟩ := h.2 hn
  refine ⟨b, off, ha, hlt, fun j hj => ?_⟩
  have e : xs[j]? = some (xs[j]'(by rw [h.1]; exact hj)) := List.getElem?_eq_getElem _
  have q := hc j _ e 0 _ rfl
  rw [Nat.mul_one, Nat.add_zero] at q
  rw [q, iv_get, e]
  rfl
/-- Match, of any lists of up to ten numbers. -/
theorem match_any (s p g l : Int) (a1 a2 : Option Addr) (n m c1 c2 : Nat) (zs us : List Int) (hn : n ≤ 10) (hm : m ≤ 10) (w : World) (hR1 : RowK 1 in1 w a1 n zs) (hR2 : RowK 1 in1 w a2 m us) :
    Calls Try.prog 22 #[.agg #[.int .i64 s, .int .i64 p, .int .i64 g, .int .i64 l], .slice a1 n c1, .slice a2 m c2] w fun e w' => ((∃ E, (E != 0) = true ∧ e = .returned (.tuple #[.slice none 0 0, .int .i64 E]) ∧ (¬ okB s p g l ∧ E = 90 ∨ okB s p g l ∧ ¬ good s p g l zs us n m)) ∨ (good s p g l zs us n m ∧ ∃ av cv, e = .returned (.tuple #[.slice av (asgB s p zs us n m [] 0 0).length cv, .int .i64 0]) ∧ AllR w.heap.size w' (.slice av (asgB s p zs us n m [] 0 0).length cv) (asgB s p zs us n m [] 0 0))) ∧ Below w.heap.size w w' := by
  have r1 := rowIv hR1; have r2 := rowIv hR2
  by_cases h : okB s p g l
  · have HC := HCk s p g l 0 (if_pos h)
    have H1 : ∀ w, Row w a1 n (iv zs) → Calls Try.prog 48 #[.slice a1 n c1] w fun e w' => e = .returned (.bool (decide (cntF (-1) zs))) ∧ Below w.heap.size w w' := fun w hR => areCounts_any a1 n c1 zs (by unfold maxLen; omega) w hR
    have H2 : ∀ w, Row w a2 m (iv us) → Calls Try.prog 48 #[.slice a2 m c2] w fun e w' => e = .returned (.bool (decide (cntF (-1) us))) ∧ Below w.heap.size w w' := fun w hR => areCounts_any a2 m c2 us (by unfold maxLen; omega) w hR
    by_cases hz : cntF (-1) zs
    · by_cases hu : cntF (-1) us
      · refine (match_ok h hn hm hz hu w r1 r2).mono fun e w' ⟨⟨av, cv, hE, hAll⟩, hb⟩ => ⟨?_, hb⟩
        rcases hE with ⟨h0, rfl⟩ | ⟨h0, rfl⟩
        · exact .inl ⟨6, rfl, rfl, .inr ⟨h, fun k => by have := k.2.2.2; rw [h0] at this; simp at this⟩⟩
        · exact .inr ⟨⟨h, hz, hu, h0⟩, av, cv, rfl, hAll⟩
      · exact (match_arg s p g l a1 a2 n m c1 c2 zs us true false (Int.lt_or_le _ _) (.inr ⟨rfl, rfl⟩) w hn hm r1 r2 HC (fun w hR => by have := H1 w hR; rwa [decide_eq_true hz] at this) (fun w hR => by have := H2 w hR; rwa [decide_eq_false hu] at this)).mono fun e w' ⟨he, hb⟩ => ⟨.inl ⟨2, rfl, he, .inr ⟨h, fun k => hu k.2.2.1⟩⟩, hb⟩
    · exact (match_arg s p g l a1 a2 n m c1 c2 zs us false (decide (cntF (-1) us)) (Int.lt_or_le _ _) (.inl rfl) w hn hm r1 r2 HC (fun w hR => by have := H1 w hR; rwa [decide_eq_false hz] at this) H2).mono fun e w' ⟨he, hb⟩ => ⟨.inl ⟨2, rfl, he, .inr ⟨h, fun k => hz k.2.1⟩⟩, hb⟩
  · exact (match_bad s p g l a1 a2 n m c1 c2 90 rfl w (HCk s p g l 90 (if_neg h))).mono fun e w' ⟨he, hb⟩ => ⟨.inl ⟨90, rfl, he, .inl ⟨h, rfl⟩⟩, hb⟩
theorem cntF_inc : ∀ (zs : List Int) (b : Int), cntF b zs → ∀ (i j : Nat) (u v : Int), i < j → zs[i]? = some u → zs[j]? = some v → u < v := by
  intro zs
  induction zs with
  | nil => intro b _ i j u v _ h; cases h
  | cons x xs ih =>
    intro b h i j u v hij hu hv
    have hall : ∀ (ys : List Int) (c : Int), cntF c ys → ∀ y ∈ ys, c < y := by
      intro ys
      induction ys with
      | nil => intro c _ y hy; cases hy
      | cons z ys ih2 =>
        intro c hc y hy
        rcases List.mem_cons.1 hy with rfl | hy
        · exact hc.1.2
        · have h1 := hc.1.2
          have h2 := ih2 z hc.2 y hy
          omega
    cases j with
    | zero => omega
    | succ j =>
      rw [List.getElem?_cons_succ] at hv
      cases i with
      | zero => cases hu; exact hall _ _ h.2 v (List.mem_of_getElem? hv)
      | succ i => rw [List.getElem?_cons_succ] at hu; exact ih _ h.2 i j u v (by omega) hu hv
theorem cntF_getD {zs : List Int} (h : cntF (-1) zs) {i j : Nat} (hij : i ≤ j) (hj : j < zs.length) : zs.getD i 0 ≤ zs.getD j 0 := by
  rw [List.getD_eq_getElem?_getD, List.getD_eq_getElem?_getD, List.getElem?_eq_getElem (show i < zs.length by omega), List.getElem?_eq_getElem hj]
  by_cases he : i = j
  · subst he; exact Int.le_refl _
  · have := cntF_inc zs _ h i j _ _ (by omega) (List.getElem?_eq_getElem (show i < zs.length by omega)) (List.getElem?_eq_getElem hj)
    simp only [Option.getD_some]
    omega
theorem good_more {s p q g l : Int} {zs us : List Int} {n m : Nat} (hn : zs.length = n) (hm : us.length = m) (hpq : p ≤ q) (ho : okB s q g l) (h : good s p g l zs us n m) : good s q g l zs us n m ∧ (asgB s p zs us n m [] 0 0).length ≤ (asgB s q zs us n m [] 0 0).length := by
  obtain ⟨h1, h2, h3, h4⟩ := h
  have q1 := asg_more (s := s) (zs := zs) (us := us) (n := n) hpq (fun i j hij hj => cntF_getD h2 (by omega) (by omega)) m [] 0 0 (fun j hj => cntF_getD h3 (by omega) (by omega))
  exact ⟨⟨ho, h2, h3, by omega⟩, q1⟩
end Go.Proofs.Ytnkpejinnbiocaa
