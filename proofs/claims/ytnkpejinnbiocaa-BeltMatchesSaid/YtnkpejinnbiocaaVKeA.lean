/-
  Layer 9: Sense, Tell, Advance, whatever the track is.
-/
import Derived.Test.YtnkpejinnbiocaaVApi
import Derived.Test.YtnkpejinnbiocaaVKeM
namespace Go.Proofs.Ytnkpejinnbiocaa
open Go.RowKit Go.Shelf
set_option linter.unusedVariables false
set_option linter.unusedSimpArgs false


def senE (s p g l c nx : Int) (xs : List Sn) : Int := if ckT s p g l c nx xs ≠ 0 then ckT s p g l c nx xs else if (xs[xs.length - 1]?).any (fun x => x.2.1 == c) = true then 91 else if xs.length = 32 ∨ nx = 1099511627776 then 9 else 0
def telE (s p g l c nx : Int) (xs : List Sn) (id vd : Int) : Int := if ckT s p g l c nx xs ≠ 0 then ckT s p g l c nx xs else if ¬ (1 ≤ vd ∧ vd ≤ 3) then 2 else match xs.findIdx? (fun x => x.1 == id) with
  | none => 6
  | some k => if (xs[k]?).any (fun x => (x.2.2.1 != 0) || decide (x.2.1 + fiB s p g ≤ c)) = true then 91 else 0
def advE (s p g l c nx : Int) (xs : List Sn) (m : Int) : Int := if ckT s p g l c nx xs ≠ 0 then ckT s p g l c nx xs else if ¬ (1 ≤ m ∧ m ≤ 1000) then 2 else if 1099511627776 < c + m then 9 else 0
theorem senE_ok {s p g l c nx : Int} {xs : List Sn} (ho : okT s p g l c nx xs) : senE s p g l c nx xs = 0 ∨ senE s p g l c nx xs = 91 ∨ senE s p g l c nx xs = 9 := by
  unfold senE
  rw [if_neg (by rw [ckT_yes ho]; simp)]
  split
  · exact .inr (.inl rfl)
  · split
    · exact .inr (.inr rfl)
    · exact .inl rfl
theorem telE_ok {s p g l c nx id vd : Int} {xs : List Sn} (ho : okT s p g l c nx xs) (hv : 1 ≤ vd ∧ vd ≤ 3) {k : Nat} (hk : xs.findIdx? (fun x => x.1 == id) = some k) : telE s p g l c nx xs id vd = 0 ∨ telE s p g l c nx xs id vd = 91 := by
  unfold telE
  rw [if_neg (by rw [ckT_yes ho]; simp), if_neg (by simp; omega), hk]
  simp only
  split
  · exact .inr rfl
  · exact .inl rfl
theorem okT_laB {s p g l c nx : Int} {xs : List Sn} (h : okT s p g l c nx xs) : 0 < laB s p l g := by have := (fiB_la h.1).2.1; omega
/-- Sense. -/
theorem sense_any (s p g l c nx : Int) (a : Option Addr) (n cap : Nat) (xs : List Sn) (hcap : n ≤ cap) (hn : n ≤ maxLen) (w : World) (hR : RowK 4 sn1 w a n xs) :
    Calls Try.prog 10 #[.agg #[.int .i64 s, .int .i64 p, .int .i64 g, .int .i64 l, .int .i64 c, .int .i64 nx, .slice a n cap]] w fun e w' => ((∃ E, senE s p g l c nx xs = E ∧ (E != 0) = true ∧ e = .returned (.tuple #[.agg #[.int .i64 0, .int .i64 0, .int .i64 0, .int .i64 0, .int .i64 0, .int .i64 0, .slice none 0 0], .int .i64 0, .int .i64 E])) ∨ (senE s p g l c nx xs = 0 ∧ okT s p g l c nx xs ∧ okT s p g l c (nx + 1) (xs ++ [(nx, c, 0, false)]) ∧ ∃ v, e = .returned (.tuple #[.agg #[.int .i64 s, .int .i64 p, .int .i64 g, .int .i64 l, .int .i64 c, .int .i64 (nx + 1), v], .int .i64 nx, .int .i64 0]) ∧ OwnK 43 4 sn1 w.heap.size w' v (xs ++ [(nx, c, 0, false)]))) ∧ Below w.heap.size w w' := by
  have HC := HCt s p g l c nx a n cap xs hn _ rfl
  have hl := hR.1
  by_cases h0 : ckT s p g l c nx xs = 0
  · have ho := okT_ck h0
    rw [h0] at HC
    have h32 : n ≤ 32 := by rw [← hl]; exact ho.2.2.2.1
    have e0 : senE s p g l c nx xs = if (xs[xs.length - 1]?).any (fun x => x.2.1 == c) = true then 91 else if xs.length = 32 ∨ nx = 1099511627776 then 9 else 0 := by unfold senE; rw [if_neg (by rw [h0]; simp)]
    rw [hl] at e0
    by_cases hla : (xs[n - 1]?).any (fun x => x.2.1 == c) = true
    · rw [if_pos hla] at e0
      have hpos : 0 < n := by
        rcases Nat.eq_zero_or_pos n with h | h
        · subst h; rw [List.length_eq_zero_iff.1 hl] at hla; simp at hla
        · exact h
      refine (sense_order s p g l c nx a n cap xs ⟨hpos, h32⟩ (fun x hx => ?_) w hR HC).mono fun e w' ⟨he, hb⟩ => ⟨.inl ⟨91, e0, rfl, he⟩, hb⟩
      rw [hx] at hla; simpa using hla
    · rw [if_neg hla] at e0
      have hne : ∀ x, xs[n - 1]? = some x → x.2.1 ≠ c := fun x hx => by rw [hx] at hla; simpa using hla
      by_cases hf : n = 32 ∨ nx = 1099511627776
      · rw [if_pos hf] at e0
        rcases Nat.eq_zero_or_pos n with h | h
        · refine (sense_full_z s p g l c nx a n cap xs h (by rcases hf with hf | hf <;> simp <;> omega) w hR HC).mono fun e w' ⟨he, hb⟩ => ⟨.inl ⟨9, e0, rfl, he⟩, hb⟩
        · by_cases h2 : n = 32
          · refine (sense_full_a s p g l c nx a n cap xs ⟨h, h32⟩ hne h2 w hR HC).mono fun e w' ⟨he, hb⟩ => ⟨.inl ⟨9, e0, rfl, he⟩, hb⟩
          · refine (sense_full_b s p g l c nx a n cap xs ⟨h, h32⟩ hne ⟨h2, by rcases hf with hf | hf <;> simp <;> omega⟩ w hR HC).mono fun e w' ⟨he, hb⟩ => ⟨.inl ⟨9, e0, rfl, he⟩, hb⟩
      · rw [if_neg hf] at e0
        have hnx := ho.2.2.1
        have n1 : n < 32 := by omega
        have n2 : nx < 1099511627776 := by omega
        have ho2 : okT s p g l c (nx + 1) (xs ++ [(nx, c, 0, false)]) := ⟨ho.1, ho.2.1, by omega, by rw [List.length_append]; simp; omega, okPs_snoc (okT_laB ho) (by omega) (by have := ho.2.1; omega) ho.2.2.2.2 (by rw [hl]; exact hne)⟩
        exact (sense_ok ho n1 n2 hne hcap w hR).mono fun e w' ⟨he, hb⟩ => ⟨.inr ⟨e0, ho, ho2, he⟩, hb⟩
  · have hE : (ckT s p g l c nx xs != 0) = true := by simpa using h0
    have e0 : senE s p g l c nx xs = ckT s p g l c nx xs := by unfold senE; rw [if_pos h0]
    exact (sense_bad s p g l c nx a n cap xs _ hE w hR HC).mono fun e w' ⟨he, hb⟩ => ⟨.inl ⟨_, e0, hE, he⟩, hb⟩
theorem fxB_some {p : Sn → Bool} {xs : List Sn} {k : Nat} (h : xs.findIdx? p = some k) : fxB p xs = k := by unfold fxB; rw [h]
theorem fxB_none {p : Sn → Bool} {xs : List Sn} (h : xs.findIdx? p = none) : fxB p xs = -1 := by unfold fxB; rw [h]
/-- Tell. -/
theorem tell_any (s p g l c nx : Int) (a : Option Addr) (n cap : Nat) (id vd : Int) (xs : List Sn) (hn : n ≤ maxLen) (w : World) (hR : RowK 4 sn1 w a n xs) :
    Calls Try.prog 12 #[.agg #[.int .i64 s, .int .i64 p, .int .i64 g, .int .i64 l, .int .i64 c, .int .i64 nx, .slice a n cap], .int .i64 id, .int .u8 vd] w fun e w' => ((∃ E, telE s p g l c nx xs id vd = E ∧ (E != 0) = true ∧ e = .returned (.tuple #[.agg #[.int .i64 0, .int .i64 0, .int .i64 0, .int .i64 0, .int .i64 0, .int .i64 0, .slice none 0 0], .int .i64 E])) ∨ (telE s p g l c nx xs id vd = 0 ∧ okT s p g l c nx xs ∧ (1 ≤ vd ∧ vd ≤ 3) ∧ ∃ (k : Nat) (q2 q3 : Int) (q4 : Bool), xs.findIdx? (fun x => x.1 == id) = some k ∧ xs[k]? = some (id, q2, q3, q4) ∧ q3 = 0 ∧ c < q2 + fiB s p g ∧ okT s p g l c nx (xs.set k (id, q2, vd, q4)) ∧ ∃ v, e = .returned (.tuple #[.agg #[.int .i64 s, .int .i64 p, .int .i64 g, .int .i64 l, .int .i64 c, .int .i64 nx, v], .int .i64 0]) ∧ OwnK 43 4 sn1 w.heap.size w' v (xs.set k (id, q2, vd, q4)))) ∧ Below w.heap.size w w' := by
  have HC := HCt s p g l c nx a n cap xs hn _ rfl
  have hl := hR.1
  by_cases h0 : ckT s p g l c nx xs = 0
  · have ho := okT_ck h0
    rw [h0] at HC
    have h32 : n ≤ 32 := by rw [← hl]; exact ho.2.2.2.1
    have hx32 : xs.length ≤ 32 := by rw [hl]; exact h32
    by_cases hv : 1 ≤ vd ∧ vd ≤ 3
    · have e0 : telE s p g l c nx xs id vd = match xs.findIdx? (fun x => x.1 == id) with
          | none => 6
          | some k => if (xs[k]?).any (fun x => (x.2.2.1 != 0) || decide (x.2.1 + fiB s p g ≤ c)) = true then 91 else 0 := by
        unfold telE; rw [if_neg (by rw [h0]; simp), if_neg (by simp; omega)]
      cases hf : xs.findIdx? (fun x => x.1 == id) with
      | none =>
        rw [hf] at e0
        exact (tell_none s p g l c nx a n cap id vd xs (decide_eq_false (by omega)) (decide_eq_false (by omega)) w hR HC (tellIx a n cap xs id (-1) hn (fxB_none hf))).mono fun e w' ⟨he, hb⟩ => ⟨.inl ⟨6, e0, rfl, he⟩, hb⟩
      | some k =>
        obtain ⟨hk, hid, -⟩ := List.findIdx?_eq_some_iff_getElem.1 hf
        obtain ⟨q, hq⟩ : ∃ q, xs[k] = q := ⟨_, rfl⟩
        obtain ⟨q1, q2, q3, q4⟩ := q
        have hx : xs[k]? = some (q1, q2, q3, q4) := by rw [List.getElem?_eq_getElem hk, hq]
        obtain rfl : q1 = id := by rw [hq] at hid; simpa using hid
        rw [hf] at e0
        simp only [hx, Option.any_some] at e0
        by_cases hl1 : ((q3 != 0) || decide (q2 + fiB s p g ≤ c)) = true
        · rw [if_pos hl1] at e0
          refine (tell_no ho q1 vd hv k q1 q2 q3 q4 hx (fxB_some hf) ?_ w hR).mono fun e w' ⟨he, hb⟩ => ⟨.inl ⟨91, e0, rfl, he⟩, hb⟩
          cases hq3 : (q3 != 0)
          · rw [hq3] at hl1; exact .inr ⟨rfl, by simpa using hl1⟩
          · exact .inl rfl
        · rw [if_neg hl1] at e0
          have hq3 : (q3 != 0) = false := by cases h : (q3 != 0) <;> simp_all
          have hl2 : c < q2 + fiB s p g := by rw [hq3] at hl1; simpa using hl1
          have ho2 : okT s p g l c nx (xs.set k (q1, q2, vd, q4)) := ⟨ho.1, ho.2.1, ho.2.2.1, by rw [List.length_set]; exact hx32, okPs_set k vd q1 q2 q3 q4 hv.2 hx ho.2.2.2.2⟩
          exact (tell_ok ho q1 vd hv k q1 q2 q3 q4 hx (fxB_some hf) hq3 hl2 w hR).mono fun e w' ⟨he, hb⟩ => ⟨.inr ⟨e0, ho, hv, k, q2, q3, q4, rfl, hx, by simpa using hq3, hl2, ho2, he⟩, hb⟩
    · have e0 : telE s p g l c nx xs id vd = 2 := by unfold telE; rw [if_neg (by rw [h0]; simp), if_pos hv]
      exact (tell_arg s p g l c nx a n cap id vd xs (by omega) w hR HC).mono fun e w' ⟨he, hb⟩ => ⟨.inl ⟨2, e0, rfl, he⟩, hb⟩
  · have hE : (ckT s p g l c nx xs != 0) = true := by simpa using h0
    have e0 : telE s p g l c nx xs id vd = ckT s p g l c nx xs := by unfold telE; rw [if_pos h0]
    exact (tell_bad s p g l c nx a n cap id vd xs _ hE w hR HC).mono fun e w' ⟨he, hb⟩ => ⟨.inl ⟨_, e0, hE, he⟩, hb⟩
/-- Advance. -/
theorem adv_any (s p g l c nx m : Int) (a : Option Addr) (n cap : Nat) (xs : List Sn) (hn : n ≤ maxLen) (w : World) (hR : RowK 4 sn1 w a n xs) :
    Calls Try.prog 19 #[.agg #[.int .i64 s, .int .i64 p, .int .i64 g, .int .i64 l, .int .i64 c, .int .i64 nx, .slice a n cap], .int .i64 m] w fun e w' => ((∃ E, advE s p g l c nx xs m = E ∧ (E != 0) = true ∧ e = .returned (.tuple #[.agg #[.int .i64 0, .int .i64 0, .int .i64 0, .int .i64 0, .int .i64 0, .int .i64 0, .slice none 0 0], .slice none 0 0, .int .i64 E])) ∨ (advE s p g l c nx xs m = 0 ∧ okT s p g l c nx xs ∧ ∃ M : Nat, m = (M : Int) ∧ (1 ≤ M ∧ M ≤ 1000) ∧ c + (M : Int) ≤ 1099511627776 ∧ okT s p g l (c + (M : Int)) nx (adB (fiB s p g) (laB s p l g) M c xs).1 ∧ ∃ v uf, e = .returned (.tuple #[.agg #[.int .i64 s, .int .i64 p, .int .i64 g, .int .i64 l, .int .i64 (c + (M : Int)), .int .i64 nx, v], uf, .int .i64 0]) ∧ OwnK 43 4 sn1 w.heap.size w' v (adB (fiB s p g) (laB s p l g) M c xs).1 ∧ OwnK 74 3 ft1 w.heap.size w' uf (adB (fiB s p g) (laB s p l g) M c xs).2)) ∧ Below w.heap.size w w' := by
  have HC := HCt s p g l c nx a n cap xs hn _ rfl
  have hl := hR.1
  by_cases h0 : ckT s p g l c nx xs = 0
  · have ho := okT_ck h0
    rw [h0] at HC
    by_cases hm : 1 ≤ m ∧ m ≤ 1000
    · obtain ⟨M, rfl⟩ : ∃ M : Nat, m = M := ⟨m.toNat, by omega⟩
      have HW : Hid (∀ w, Calls Try.prog 39 #[.int .i64 (M : Int), .int .i64 1, .int .i64 1000] w fun e w' => e = .returned (.bool true) ∧ w = w') := fun w => vwithin_yes _ _ _ (by omega) (by omega) w
      by_cases hf : 1099511627776 < c + (M : Int)
      · have e0 : advE s p g l c nx xs M = 9 := by unfold advE; rw [if_neg (by rw [h0]; simp), if_neg (by simp; omega), if_pos hf]
        exact (adv_full s p g l c nx _ a n cap xs ho.2.1 hm hf w hR HC HW).mono fun e w' ⟨he, hb⟩ => ⟨.inl ⟨9, e0, rfl, he⟩, hb⟩
      · have e0 : advE s p g l c nx xs M = 0 := by unfold advE; rw [if_neg (by rw [h0]; simp), if_neg (by simp; omega), if_neg hf]
        have l1 := adB_length (fiB s p g) (laB s p l g) M c xs
        have ho2 : okT s p g l (c + (M : Int)) nx (adB (fiB s p g) (laB s p l g) M c xs).1 := ⟨ho.1, by have := ho.2.1; omega, ho.2.2.1, by have := ho.2.2.2.1; omega, okPs_adB M ho.2.2.2.2⟩
        exact (adv_ok M (cap := cap) ho ⟨by omega, by omega⟩ (by omega) w hR).mono fun e w' ⟨he, hb⟩ => ⟨.inr ⟨e0, ho, M, rfl, ⟨by omega, by omega⟩, by omega, ho2, he⟩, hb⟩
    · have e0 : advE s p g l c nx xs m = 2 := by unfold advE; rw [if_neg (by rw [h0]; simp), if_pos hm]
      exact (adv_arg s p g l c nx m a n cap xs w hR HC (fun w => vwithin_no _ _ _ hm w)).mono fun e w' ⟨he, hb⟩ => ⟨.inl ⟨2, e0, rfl, he⟩, hb⟩
  · have hE : (ckT s p g l c nx xs != 0) = true := by simpa using h0
    have e0 : advE s p g l c nx xs m = ckT s p g l c nx xs := by unfold advE; rw [if_pos h0]
    exact (adv_bad s p g l c nx m a n cap xs _ hE w hR HC).mono fun e w' ⟨he, hb⟩ => ⟨.inl ⟨_, e0, hE, he⟩, hb⟩
end Go.Proofs.Ytnkpejinnbiocaa
