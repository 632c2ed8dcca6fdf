/-
  Layer 4: views without one of them (mathematics, and what append makes of them).
-/
import Derived.Test.YtbdcmdofmokoeaaQKLawTiM
import Derived.Test.YtbdcmdofmokoeaaQKLawAdd3
namespace Go.Proofs.Ytbdcmdofmokoeaa
open Go.RowKit Go.Shelf
set_option linter.unusedVariables false
set_option linter.unusedSimpArgs false

theorem VRow.drop {w : World} {b o n k : Nat} {vs : List Vw} (h : VRow w (some ⟨b, o, none⟩) n vs) (hk : k ≤ n) : VRow w (some ⟨b, o + k * 4, none⟩) (n - k) (vs.drop k) :=
  ⟨by rw [List.length_drop, h.1], fun h0 => by
    obtain ⟨b', off, ha, hlt, hc⟩ := h.2 (by omega)
    cases ha
    refine ⟨b, o + k * 4, rfl, hlt, fun j v hv => ?_⟩
    rw [List.getElem?_drop] at hv
    have := hc (k + j) v hv
    rw [show o + (k + j) * 4 = o + k * 4 + j * 4 by omega] at this
    exact this⟩
theorem VRow.drop2 {w : World} {b o n k c : Nat} {vs : List Vw} (h : VRow w (some ⟨b, o, none⟩) n vs) (hk : k ≤ n) (hc : n ≤ c) : VRow w (if c = k then some ⟨b, o, none⟩ else some ⟨b, o + k * 4, none⟩) (n - k) (vs.drop k) := by
  by_cases e : c = k
  · rw [if_pos e]
    exact ⟨by rw [List.length_drop, h.1], fun h0 => absurd h0 (by omega)⟩
  · rw [if_neg e]; exact h.drop hk
/-- A part of the views onto an empty slice of the call's own. -/
theorem few_app (ty : TypeId) {B b n c : Nat} {W : World} {a : Option Addr} {vs : List Vw} (hB : B ≤ b) (h : Blk W b #[] 45) (hR : VRow W a n vs) (hn : n ≤ 1000) :
    ∃ r w', (Builtin.append_ #[38, 38] ty #[.slice (some ⟨b, 0, none⟩) 0 0, .slice a n c]).run Try.prog W = .ok r w' ∧ ∃ v1 : Value, r = v1 ∧ OwnV B w' v1 vs ∧ Below B W w' := by
  have y := h.lt
  obtain ⟨v', w', hrun, hown, hbel⟩ := run_append_vw ty (OwnV.new h hB) hR (by decide) hn (by omega)
  rw [List.nil_append] at hown
  exact ⟨v', w', hrun, v', rfl, hown, hbel⟩
theorem few_app2 (ty : TypeId) {B n c : Nat} {W : World} {v1 : Value} {a : Option Addr} {us vs : List Vw} (O : OwnV B W v1 us) (hR : VRow W a n vs) (hn : us.length ≤ 1000 ∧ n ≤ 1000) (hB : B ≤ W.heap.size) :
    ∃ r w', (Builtin.append_ #[38, 38] ty #[v1, .slice a n c]).run Try.prog W = .ok r w' ∧ ∃ (a2 : Option Addr) (n2 c2 : Nat), r = .slice a2 n2 c2 ∧ VRow w' a2 n2 (us ++ vs) ∧ Below B W w' := by
  obtain ⟨v', w', hrun, hown, hbel⟩ := run_append_vw ty O hR hn.1 hn.2 hB
  obtain ⟨a', c', rfl, hr', -⟩ := hown.row
  exact ⟨_, w', hrun, a', _, c', rfl, hr', hbel⟩
theorem few_app1 (ty : TypeId) {B x : Nat} {W : World} {v1 : Value} {us : List Vw} {X Z lo hi : Int} (O : OwnV B W v1 us) (h : Blk W x #[.int .i64 X, .int .i64 Z, .int .i64 lo, .int .i64 hi] 45) (hn : us.length ≤ 1000) (hB : B ≤ W.heap.size) :
    ∃ r w', (Builtin.append_ #[38, 38] ty #[v1, .slice (some ⟨x, 0, none⟩) 1 1]).run Try.prog W = .ok r w' ∧ ∃ v2 : Value, r = v2 ∧ OwnV B w' v2 (us ++ [(X, Z, lo, hi)]) ∧ Below B W w' := by
  obtain ⟨a0, c0, e0, hr, -⟩ := (OwnV.one h (Nat.zero_le x)).row
  cases e0
  obtain ⟨v', w', hrun, hown, hbel⟩ := run_append_vw ty O hr hn (by simp) hB
  exact ⟨v', w', hrun, v', rfl, hown, hbel⟩
theorem few_rev {vs : List Vw} {n k : Nat} {v : Vw} (hk : k < vs.length ∧ vs.length = n) (h : vs[n - 1 - k]? = some v) : vs.reverse.take (k + 1) = vs.reverse.take k ++ [v] := by
  obtain ⟨hk, rfl⟩ := hk
  rw [List.take_add_one, List.getElem?_reverse hk, h]; rfl
end Go.Proofs.Ytbdcmdofmokoeaa
