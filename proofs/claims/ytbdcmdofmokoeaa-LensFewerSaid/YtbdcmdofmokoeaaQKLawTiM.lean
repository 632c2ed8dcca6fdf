/-
  Layer 4: a view that is added (mathematics); views appended, what of the memory stays.
-/
import Derived.Test.YtbdcmdofmokoeaaQKLawAdd3
namespace Go.Proofs.Ytbdcmdofmokoeaa
open Go.RowKit
set_option linter.unusedVariables false
set_option linter.unusedSimpArgs false

theorem iv_same {A B A' B' : Rat} (h1 : A ≤ B) (h2 : A' ≤ B') (h : ∀ p, (A ≤ p ∧ p ≤ B) ↔ (A' ≤ p ∧ p ≤ B')) : A = A' ∧ B = B' := by
  have a := (h A).1 ⟨Rat.le_refl, h1⟩
  have b := (h A').2 ⟨Rat.le_refl, h2⟩
  have c := (h B).1 ⟨h1, Rat.le_refl⟩
  have d := (h B').2 ⟨h2, Rat.le_refl⟩
  exact ⟨Rat.le_antisymm b.1 a.1, Rat.le_antisymm c.2 d.2⟩
theorem tan_eq {v : Vw} (hv : InV v) : mkR v.1 v.2.1 * (v.2.1 : Rat) = (v.1 : Rat) ∧ (0 : Rat) < (v.2.1 : Rat) := by
  have h := hv.1.2.1
  exact ⟨div_spec (by omega), by exact_mod_cast (show (0 : Int) < v.2.1 by omega)⟩
theorem ful_one {v : Vw} (hv : InV v) (f c : Rat) : Ful [v] f c ↔ (v.2.2.1 : Rat) ≤ f * mkR v.1 v.2.1 + c ∧ f * mkR v.1 v.2.1 + c ≤ (v.2.2.2 : Rat) := by
  obtain ⟨hq, hz⟩ := tan_eq hv
  obtain ⟨q, hq'⟩ : ∃ q, mkR v.1 v.2.1 = q := ⟨_, rfl⟩
  rw [hq'] at hq ⊢
  have e : f * (v.1 : Rat) + c * v.2.1 = (v.2.1 : Rat) * (f * q + c) := by rw [← hq]; grind
  unfold Ful
  constructor
  · intro h
    obtain ⟨a, b⟩ := h v (by simp)
    rw [e, Rat.mul_comm _ (v.2.1 : Rat)] at a b
    exact ⟨(scaleLe hz).1 a, (scaleLe hz).1 b⟩
  · rintro ⟨a, b⟩ u hu
    obtain rfl : u = v := by simpa using hu
    rw [e, Rat.mul_comm _ (u.2.1 : Rat), Rat.mul_comm (u.2.2.2 : Rat)]
    exact ⟨(scaleLe hz).2 a, (scaleLe hz).2 b⟩
theorem ful_snoc {vs : List Vw} {v : Vw} {f c : Rat} : Ful (vs ++ [v]) f c ↔ Ful vs f c ∧ Ful [v] f c := by
  constructor
  · intro h; exact ⟨h.of fun u hu => by simp [hu], h.of fun u hu => by simp at hu; simp [hu]⟩
  · rintro ⟨a, b⟩ u hu
    rcases List.mem_append.1 hu with h | h
    · exact a u h
    · exact b u h
theorem inV_rng {v : Vw} (hv : InV v) {p : Rat} (h1 : (v.2.2.1 : Rat) ≤ p) (h2 : p ≤ (v.2.2.2 : Rat)) : -MX ≤ p ∧ p ≤ MX := by
  obtain ⟨-, ⟨⟨a, b⟩, c, d⟩, -⟩ := hv
  have e1 : ((-4611686018427387903 : Int) : Rat) ≤ (v.2.2.1 : Rat) := Rat.intCast_le_intCast.2 (by dsimp only at *; omega)
  have e2 : (v.2.2.2 : Rat) ≤ ((4611686018427387903 : Int) : Rat) := Rat.intCast_le_intCast.2 (by dsimp only at *; omega)
  have e3 : ((-4611686018427387903 : Int) : Rat) = -MX := by unfold MX; rw [← Rat.intCast_neg]
  rw [e3] at e1
  exact ⟨Rat.le_trans e1 h1, Rat.le_trans h2 e2⟩
theorem inV_snoc {vs : List Vw} {v : Vw} (hV : ∀ u ∈ vs, InV u) (hv : InV v) : ∀ u ∈ vs ++ [v], InV u := fun u hu => by
  rcases List.mem_append.1 hu with h | h
  · exact hV u h
  · obtain rfl : u = v := by simpa using h
    exact hv
/-- The places that the views leave and the added view allows. -/
theorem tight_iff {vs : List Vw} {v : Vw} (hV : ∀ u ∈ vs, InV u) (hv : InV v) {A B : Rat} (h : plaS v.1 v.2.1 vs = some (A, B)) (p : Rat) :
    (hiQ A [(v.2.2.1 : Rat)] ≤ p ∧ p ≤ loQ B [(v.2.2.2 : Rat)]) ↔ (-MX ≤ p ∧ p ≤ MX) ∧ ∃ f, Ful (vs ++ [v]) f (p - f * mkR v.1 v.2.1) := by
  obtain ⟨-, -, -, hp⟩ := pla_some hV hv.1 h
  rw [hi1, lo1]
  have e : ∀ f, f * mkR v.1 v.2.1 + (p - f * mkR v.1 v.2.1) = p := fun f => by grind
  constructor
  · rintro ⟨⟨a, b⟩, c, d⟩
    obtain ⟨h1, f, hf⟩ := (hp p).1 ⟨a, c⟩
    exact ⟨h1, f, ful_snoc.2 ⟨hf, (ful_one hv _ _).2 (by rw [e]; exact ⟨b, d⟩)⟩⟩
  · rintro ⟨h1, f, hf⟩
    obtain ⟨h2, h3⟩ := ful_snoc.1 hf
    have h4 := (ful_one hv _ _).1 h3
    rw [e] at h4
    have h5 := (hp p).2 ⟨h1, f, h2⟩
    exact ⟨⟨h5.1, h4.1⟩, h5.2, h4.2⟩
theorem tight_none {vs : List Vw} {v : Vw} (hV : ∀ u ∈ vs, InV u) (hv : InV v) {A B : Rat} (h : plaS v.1 v.2.1 vs = some (A, B)) : focS (vs ++ [v]) = none ↔ ¬ hiQ A [(v.2.2.1 : Rat)] ≤ loQ B [(v.2.2.2 : Rat)] := by
  rw [foc_none (inV_snoc hV hv)]
  refine not_congr ⟨?_, fun hle => ?_⟩
  · rintro ⟨f, c, hf⟩
    have h3 := (ful_one hv _ _).1 (ful_snoc.1 hf).2
    have e : f * mkR v.1 v.2.1 + c - f * mkR v.1 v.2.1 = c := by grind
    have := (tight_iff hV hv h (f * mkR v.1 v.2.1 + c)).2 ⟨inV_rng hv h3.1 h3.2, f, by rw [e]; exact hf⟩
    exact Rat.le_trans this.1 this.2
  · obtain ⟨-, f, hf⟩ := (tight_iff hV hv h (hiQ A [(v.2.2.1 : Rat)])).1 ⟨Rat.le_refl, hle⟩
    exact ⟨f, _, hf⟩
theorem tight_some {vs : List Vw} {v : Vw} (hV : ∀ u ∈ vs, InV u) (hv : InV v) {A B : Rat} (h : plaS v.1 v.2.1 vs = some (A, B)) (hle : hiQ A [(v.2.2.1 : Rat)] ≤ loQ B [(v.2.2.2 : Rat)]) : plaS v.1 v.2.1 (vs ++ [v]) = some (hiQ A [(v.2.2.1 : Rat)], loQ B [(v.2.2.2 : Rat)]) := by
  have hV' := inV_snoc hV hv
  cases hs : plaS v.1 v.2.1 (vs ++ [v]) with
  | none =>
    have := (foc_none hV').2 ((pla_none hV' hv.1).1 hs)
    exact absurd hle ((tight_none hV hv h).1 this)
  | some q =>
    obtain ⟨A', B'⟩ := q
    obtain ⟨-, -, hl, hp⟩ := pla_some hV' hv.1 hs
    obtain ⟨e1, e2⟩ := iv_same hle hl fun p => (tight_iff hV hv h p).trans (hp p).symm
    rw [← e1, ← e2]
theorem alk_of {vs us : List Vw} (h : Alk vs) (hs : ∀ v ∈ us, v ∈ vs) : Alk us := fun a ha b hb => h a (hs a ha) b (hs b hb)
theorem tight_foc {vs : List Vw} {v : Vw} (hV : ∀ u ∈ vs, InV u) (hv : InV v) {p : Rat × Rat} (hf : focS vs = some p) (hne : p ≠ (-MX, MX)) : focS (vs ++ [v]) ≠ some (-MX, MX) := fun h => by
  obtain ⟨ha, -⟩ := (foc_loose (inV_snoc hV hv)).1 h
  obtain ⟨f, c, hc⟩ : ∃ f c, Ful vs f c := Classical.byContradiction fun k => by
    have := (foc_none hV).2 k
    rw [hf] at this; cases this
  have := (foc_loose hV).2 ⟨alk_of ha fun u hu => by simp [hu], f, c, hc⟩
  rw [hf] at this
  exact hne (by simpa using this)
theorem bdI_snoc {vs : List Vw} {v : Vw} (hV : ∀ u ∈ vs, InV u) (hv : InV v) {p : Rat × Rat} (hf : focS vs = some p) : bdI (vs ++ [v]) = if focS (vs ++ [v]) = none then (vs.length : Int) else -1 := by
  have hV' := inV_snoc hV hv
  have hl : (vs ++ [v]).length = vs.length + 1 := by simp
  have hle := bdN_le (vs ++ [v])
  have h1 : vs.length ≤ bdN (vs ++ [v]) := by
    rcases Nat.lt_or_ge (bdN (vs ++ [v])) vs.length with c | c
    · have := bdN_yes hV' (Nat.le_refl _) (by omega : bdN (vs ++ [v]) < (vs ++ [v]).length)
      rw [Option.isNone_iff_eq_none, foc_none (fun u hu => hV' u (List.mem_of_mem_take hu))] at this
      refine absurd ?_ this
      obtain ⟨f, c', hc⟩ : ∃ f c, Ful vs f c := Classical.byContradiction fun k => by
        have := (foc_none hV).2 k
        rw [hf] at this; cases this
      refine ⟨f, c', hc.of fun u hu => ?_⟩
      rw [List.take_append_of_le_length (by omega)] at hu
      exact List.mem_of_mem_take hu
    · exact c
  have et : (vs ++ [v]).take (vs.length + 1) = vs ++ [v] := List.take_of_length_le (by omega)
  unfold bdI
  by_cases hn : focS (vs ++ [v]) = none
  · rw [if_pos hn]
    have : bdN (vs ++ [v]) = vs.length := by
      rcases Nat.lt_or_ge vs.length (bdN (vs ++ [v])) with c | c
      · have := bdN_no c
        rw [et, hn] at this; cases this
      · omega
    rw [if_neg (by omega), this]
  · rw [if_neg hn]
    have : bdN (vs ++ [v]) = vs.length + 1 := by
      rcases Nat.lt_or_ge vs.length (bdN (vs ++ [v])) with c | c
      · omega
      · have := bdN_yes hV' (t := vs.length) c (by omega)
        rw [et, Option.isNone_iff_eq_none] at this
        exact absurd this hn
    rw [if_pos (by omega)]
/-- The same as run_append_vw, and what of the memory stays. -/
theorem run_append_vg (ty : TypeId) {B : Nat} {w : World} {v : Value} {xs us : List Vw} {a : Option Addr} {m c : Nat} (hown : OwnV B w v xs) (hR : VRow w a m us) (h1 : xs.length ≤ 1000) (h2 : m ≤ 1000) (hB : B ≤ w.heap.size) :
    ∃ (v' : Value) (w' : World), (Builtin.append_ #[38, 38] ty #[v, .slice a m c]).run Try.prog w = .ok v' w' ∧ OwnV B w' v' (xs ++ us) ∧ Below B w w' ∧ ∀ k, k < w.heap.size → some k ≠ v.ownBlock → w'.heap[k]? = w.heap[k]? := by
  obtain ⟨i0, hi, hz0, hz1, hz2⟩ := info_parts info_view
  have hlen : us.length = m := hR.1
  rcases a with _ | ad
  · have hn : m = 0 := by
      rcases Nat.eq_zero_or_pos m with h | h
      · exact h
      · obtain ⟨b, off, e, -⟩ := hR.2 h; cases e
    subst hn
    obtain rfl : us = [] := List.eq_nil_of_length_eq_zero hlen
    refine ⟨v, w, ?_, by rw [List.append_nil]; exact hown, Below.refl _ _, fun _ _ _ => rfl⟩
    rcases hown.2 with ⟨rfl, h0⟩ | ⟨g, cap, cur, rfl, hb, hh, hnc, _, hcs, ht⟩
    · simp [Builtin.append_, run_underlying Try.underlying38, sizeOf, typeInfo, hi, Builtin.lenOf, Builtin.firstCells, storeCells]
    · have q : ¬ (cap < xs.length) := by omega
      simp [Builtin.append_, run_underlying Try.underlying38, sizeOf, typeInfo, hi, Builtin.lenOf, Builtin.firstCells, storeCells, hnc, q]
  · obtain ⟨v', w', hrun, hown', hgr, -, -⟩ := run_append_own_at (P := Try.prog) w B 38 ty 45 i0 (.agg #[.int .i64 0, .int .i64 0, .int .i64 0, .int .i64 0]) 4 32 Try.underlying38 hi hz0 hz1 hz2 rfl (by omega) v xs.length (vw xs) hown ad m c (vw us) (by rw [vw_length, hlen]) hR.cells (oneCell_vw us) (by unfold maxLen; omega) (by omega) hB
    refine ⟨v', w', hrun, ?_, (Below.refl _ w).grown hgr hB (fun k hk => (hown.lt k hk).1), hgr.block⟩
    unfold OwnV
    rw [vw_append, List.length_append, hlen]
    exact hown'
/-- A copy onto an empty slice of the call's own. -/
theorem app_copy (ty : TypeId) {B b n c : Nat} {W : World} {a : Option Addr} {vs : List Vw} (hB : B ≤ b) (h : Blk W b #[] 45) (hR : VRow W a n vs) (hn : n ≤ 1000) :
    ∃ r w', (Builtin.append_ #[38, 38] ty #[.slice (some ⟨b, 0, none⟩) 0 0, .slice a n c]).run Try.prog W = .ok r w' ∧ ∃ (a1 : Option Addr) (c1 : Nat), r = .slice a1 n c1 ∧ OwnV B w' (.slice a1 n c1) vs ∧ Below B W w' ∧ ∀ k, k < W.heap.size → k ≠ b → w'.heap[k]? = W.heap[k]? := by
  have y := h.lt
  obtain ⟨v', w', hrun, hown, hbel, hk⟩ := run_append_vg ty (OwnV.new h hB) hR (by decide) hn (by omega)
  obtain ⟨a', c', rfl, hr, -⟩ := hown.row
  have hl := hR.1
  rw [List.nil_append] at hown hrun
  simp only [List.nil_append, hl] at hrun hown
  exact ⟨_, w', hrun, a', c', rfl, hown, hbel, fun k h1 h2 => hk k h1 (by simp [Value.ownBlock]; omega)⟩
theorem app_one (ty : TypeId) {B n c1 x : Nat} {W : World} {a1 : Option Addr} {vs : List Vw} {X Z lo hi : Int} (hl : vs.length = n) (hB : B ≤ W.heap.size) (O : OwnV B W (.slice a1 n c1) vs) (h : Blk W x #[.int .i64 X, .int .i64 Z, .int .i64 lo, .int .i64 hi] 45) (hn : n ≤ 1000) :
    ∃ r w', (Builtin.append_ #[38, 38] ty #[.slice a1 n c1, .slice (some ⟨x, 0, none⟩) 1 1]).run Try.prog W = .ok r w' ∧ ∃ (a2 : Option Addr) (c2 : Nat), r = .slice a2 ((n + 1 : Nat)) c2 ∧ n + 1 ≤ c2 ∧ VRow w' a2 (n + 1) (vs ++ [(X, Z, lo, hi)]) ∧ Below B W w' := by
  obtain ⟨a0, c0, e0, hr, -⟩ := (OwnV.one h (Nat.zero_le x)).row
  cases e0
  obtain ⟨v', w', hrun, hown, hbel, -⟩ := run_append_vg ty O hr (by omega) (by simp) hB
  obtain ⟨a', c', rfl, hr', hc'⟩ := hown.row
  have e : (vs ++ [(X, Z, lo, hi)]).length = n + 1 := by simp [hl]
  rw [e] at hrun hr' hc'
  exact ⟨_, w', hrun, a', c', rfl, hc', hr', hbel⟩
end Go.Proofs.Ytbdcmdofmokoeaa
