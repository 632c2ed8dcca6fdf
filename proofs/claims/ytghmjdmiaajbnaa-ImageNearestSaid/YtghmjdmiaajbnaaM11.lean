/-
  The texts that the laws of this seat share, merged: part 11.
-/
import Derived.BigQuiet
import Derived.Carry
import Derived.Deep.CutRange
import Derived.Deep.DeepCutAuto
import Derived.Deep.Draws
import Derived.Deep.LoopGhost
import Derived.Deep.OwnRows
import Derived.Deep.QuietTactic
import Derived.Deep.RegionHeld3
import Derived.Laws.AppendOwn
import Derived.Laws.EntriesVeiled
import Derived.Laws.StructEq
import Derived.Lib.Hide
import Derived.LoopIn
import Derived.LoopNIn
import Derived.MapKept
import Derived.Maps.AppendAt
import Derived.OneCell
import Derived.Orders
import Derived.OwnWalkIn
import Derived.RangeFuncBound
import Derived.RangeFuncCalls
import Derived.RangeFuncLeaves
import Derived.RangeFuncNested
import Derived.Shelf.Abstract
import Derived.Shelf.AbstractIn
import Derived.Shelf.RegionOpen
import Derived.StillTailTactics
import Derived.TacticsIn
import Derived.TacticsInMore
import Derived.Test.YtghmjdmiaajbnaaProg
import Derived.WalkKit
import Derived.WalkSmall
import Derived.WalkSpells
import Derived.WideLaws
import Derived.Test.YtghmjdmiaajbnaaM1
import Derived.Test.YtghmjdmiaajbnaaM2
import Derived.Test.YtghmjdmiaajbnaaM3
import Derived.Test.YtghmjdmiaajbnaaM4
import Derived.Test.YtghmjdmiaajbnaaM7
import Derived.Test.YtghmjdmiaajbnaaM8
import Derived.Test.YtghmjdmiaajbnaaM10
/-
  Layer 2: dilated and eroded images as greatest and least values: the plain mathematics.
-/
namespace Go.Proofs.Ytghmjdmiaajbnaa
open Go.RowKit
set_option linter.unusedVariables false
set_option linter.unusedSimpArgs false

theorem place_of {W H x y : Int} (hW : okS W) (hH : okS H) (h : inP W H x y) : ∃ p : Nat, (p : Int) < W * H ∧ (p : Int) % W = x ∧ (p : Int) / W = y ∧ y * W + x = (p : Int) := by
  obtain ⟨p, e, hlt, -, -⟩ := inP_at hW hH h
  obtain ⟨⟨x0, x1⟩, -, -⟩ := h
  refine ⟨p, hlt, ?_, ?_, e⟩
  · rw [← e, Int.add_comm, Int.add_mul_emod_self_right]; exact Int.emod_eq_of_lt x0 x1
  · rw [← e, Int.add_comm, Int.add_mul_ediv_right _ _ (by omega), Int.ediv_eq_zero_of_lt x0 x1, Int.zero_add]
theorem made_get {n : Nat} {V : Nat → Int} {k : Nat} (hk : k < n) : (made n V)[k]? = some (V k) := by
  unfold made; rw [List.getElem?_map, List.getElem?_range hk]; rfl
/-- The order of images, by places. -/
def leP (W H : Int) (xs ys : List Int) : Prop := ∀ x y, inP W H x y → pixAt W xs x y ≤ pixAt W ys x y
theorem leP.refl (W H : Int) (xs : List Int) : leP W H xs xs := fun _ _ _ => Int.le_refl _
theorem leP.trans {W H : Int} {xs ys zs : List Int} (h : leP W H xs ys) (k : leP W H ys zs) : leP W H xs zs := fun x y hp => Int.le_trans (h x y hp) (k x y hp)
end Go.Proofs.Ytghmjdmiaajbnaa
/-
  Layer 2: what distances are, by neighbours: the plain mathematics.
-/
namespace Go.Proofs.Ytghmjdmiaajbnaa
open Go.RowKit
set_option linter.unusedVariables false
set_option linter.unusedSimpArgs false

theorem disN_min (px py M : Int) (Z : List (Int × Int)) (j : Nat) (hj : j ≤ Z.length) :
    disN px py M Z j ≤ M ∧ (∀ i : Nat, i < j → disN px py M Z j ≤ stepD px py (Z[i]?.getD (0, 0)).1 (Z[i]?.getD (0, 0)).2) ∧ (disN px py M Z j = M ∨ ∃ i : Nat, i < j ∧ disN px py M Z j = stepD px py (Z[i]?.getD (0, 0)).1 (Z[i]?.getD (0, 0)).2) := by
  induction j with
  | zero => exact ⟨Int.le_refl _, fun i h => absurd h (by omega), .inl rfl⟩
  | succ j ih =>
    obtain ⟨h1, h2, h3⟩ := ih (by omega)
    unfold disN
    generalize hs : stepD px py (Z[j]?.getD (0, 0)).1 (Z[j]?.getD (0, 0)).2 = s
    refine ⟨by omega, fun i hi => ?_, ?_⟩
    · by_cases e : i = j
      · subst e; rw [hs]; omega
      · have := h2 i (by omega); omega
    · by_cases hc : disN px py M Z j ≤ s
      · rw [Int.min_eq_left hc]
        rcases h3 with h3 | ⟨i, hi, h3⟩
        · exact .inl h3
        · exact .inr ⟨i, by omega, h3⟩
      · rw [Int.min_eq_right (by omega)]
        exact .inr ⟨j, by omega, hs.symm⟩
/-- The distance of a pixel, and what it is. -/
def dst (W H : Int) (zs : List Int) (n k : Nat) : Int := disN ((k : Int) % W) ((k : Int) / W) (W + H) (zeL W zs (List.range n)) (zeL W zs (List.range n)).length
theorem dst_bd {W H : Int} {zs : List Int} (hI : okI W H zs) (n k : Nat) : 0 ≤ dst W H zs n k ∧ dst W H zs n k ≤ W + H := by
  obtain ⟨⟨⟨a, b⟩, c, d⟩, -, -⟩ := hI
  exact disN_bd (by omega) _
theorem zeL_mem {W : Int} {zs : List Int} {n k : Nat} (hk : k < n) (hz : zs[k]?.getD 0 = 0) : ∃ i : Nat, i < (zeL W zs (List.range n)).length ∧ (zeL W zs (List.range n))[i]? = some ((k : Int) % W, (k : Int) / W) := by
  have h : ((k : Int) % W, (k : Int) / W) ∈ zeL W zs (List.range n) := List.mem_map.2 ⟨k, List.mem_filter.2 ⟨List.mem_range.2 hk, by simp [hz]⟩, rfl⟩
  obtain ⟨i, hi, e⟩ := List.getElem_of_mem h
  exact ⟨i, hi, by rw [List.getElem?_eq_getElem hi, e]⟩
theorem zeL_is {W : Int} {zs : List Int} {n : Nat} {i : Nat} (hi : i < (zeL W zs (List.range n)).length) : ∃ k : Nat, k < n ∧ zs[k]?.getD 0 = 0 ∧ (zeL W zs (List.range n))[i]? = some ((k : Int) % W, (k : Int) / W) := by
  have h := List.getElem_mem hi
  obtain ⟨k, hk, e⟩ := List.mem_map.1 h
  obtain ⟨h1, h2⟩ := List.mem_filter.1 hk
  exact ⟨k, List.mem_range.1 h1, by simpa using h2, by rw [List.getElem?_eq_getElem hi, ← e]⟩
/-- The distance to one pixel. -/
def gap (W : Int) (k q : Nat) : Int := stepD ((k : Int) % W) ((k : Int) / W) ((q : Int) % W) ((q : Int) / W)
theorem dst_le {W H : Int} {zs : List Int} {n k q : Nat} (hq : q < n) (hz : zs[q]?.getD 0 = 0) : dst W H zs n k ≤ gap W k q := by
  obtain ⟨i, hi, e⟩ := zeL_mem (W := W) hq hz
  have h := (disN_min ((k : Int) % W) ((k : Int) / W) (W + H) (zeL W zs (List.range n)) _ (Nat.le_refl _)).2.1 i hi
  rw [e] at h
  exact h
theorem dst_is {W H : Int} {zs : List Int} {n k : Nat} : dst W H zs n k = W + H ∨ ∃ q : Nat, q < n ∧ zs[q]?.getD 0 = 0 ∧ dst W H zs n k = gap W k q := by
  rcases (disN_min ((k : Int) % W) ((k : Int) / W) (W + H) (zeL W zs (List.range n)) _ (Nat.le_refl _)).2.2 with h | ⟨i, hi, h⟩
  · exact .inl h
  · obtain ⟨q, hq, hz, e⟩ := zeL_is hi
    rw [e] at h
    exact .inr ⟨q, hq, hz, h⟩
theorem gap_lt {W H : Int} {zs : List Int} {n k q : Nat} (hI : okI W H zs) (hn : zs.length = n) (hk : k < n) (hq : q < n) : 0 ≤ gap W k q ∧ gap W k q < W + H := by
  have hN : W * H = (n : Int) := by rw [← hn]; exact hI.2.1.symm
  obtain ⟨⟨a, b⟩, c, d⟩ := place_in hI.1.1 hI.1.2 hN hk
  obtain ⟨⟨a', b'⟩, c', d'⟩ := place_in hI.1.1 hI.1.2 hN hq
  unfold gap stepD
  omega
theorem dst_none {W H : Int} {zs : List Int} {n k : Nat} (h : ∀ q : Nat, q < n → zs[q]?.getD 0 ≠ 0) : dst W H zs n k = W + H := by
  rcases dst_is (W := W) (H := H) (zs := zs) (n := n) (k := k) with e | ⟨q, hq, hz, -⟩
  · exact e
  · exact absurd hz (h q hq)
theorem dst_zero {W H : Int} {zs : List Int} {n k : Nat} (hI : okI W H zs) (hn : zs.length = n) (hk : k < n) : dst W H zs n k = 0 ↔ zs[k]?.getD 0 = 0 := by
  have hb := dst_bd hI n k
  constructor
  · intro h
    rcases dst_is (W := W) (H := H) (zs := zs) (n := n) (k := k) with e | ⟨q, hq, hz, e⟩
    · have := hI.1.1.1; have := hI.1.2.1; omega
    · have e2 : gap W k q = 0 := by omega
      unfold gap stepD at e2
      have d1 := Int.mul_ediv_add_emod (k : Int) W; have d2 := Int.mul_ediv_add_emod (q : Int) W
      rw [show (k : Int) % W = (q : Int) % W by omega, show (k : Int) / W = (q : Int) / W by omega] at d1
      have : k = q := by omega
      rw [this]; exact hz
  · intro h
    have h1 := dst_le (W := W) (H := H) (k := k) hk h
    have h2 : gap W k k = 0 := by unfold gap stepD; omega
    omega
/-- Two pixels side by side. -/
def side (W : Int) (k q : Nat) : Prop := ((q : Int) / W = (k : Int) / W ∧ ((q : Int) % W = (k : Int) % W - 1 ∨ (q : Int) % W = (k : Int) % W + 1)) ∨ ((q : Int) % W = (k : Int) % W ∧ ((q : Int) / W = (k : Int) / W - 1 ∨ (q : Int) / W = (k : Int) / W + 1))
theorem gap_side {W : Int} {k q : Nat} (h : side W k q) (r : Nat) : gap W k r - gap W q r ≤ 1 ∧ gap W q r - gap W k r ≤ 1 := by
  unfold side at h; unfold gap stepD
  rcases h with ⟨e, h | h⟩ | ⟨e, h | h⟩ <;> rw [e, h] <;> omega
theorem dst_side {W H : Int} {zs : List Int} {n k q : Nat} (hI : okI W H zs) (h : side W k q) : dst W H zs n k - dst W H zs n q ≤ 1 ∧ dst W H zs n q - dst W H zs n k ≤ 1 := by
  have b1 := dst_bd hI n k; have b2 := dst_bd hI n q
  constructor
  · rcases dst_is (W := W) (H := H) (zs := zs) (n := n) (k := q) with e | ⟨r, hr, hz, e⟩
    · omega
    · have := dst_le (W := W) (H := H) (k := k) hr hz; have := gap_side h r; omega
  · rcases dst_is (W := W) (H := H) (zs := zs) (n := n) (k := k) with e | ⟨r, hr, hz, e⟩
    · omega
    · have := dst_le (W := W) (H := H) (k := q) hr hz; have := gap_side h r; omega
theorem move_h {W : Int} {k : Nat} (w0 : 1 ≤ W) (h : (k : Int) % W < W - 1) : (((k + 1 : Nat) : Int) % W = (k : Int) % W + 1) ∧ ((k + 1 : Nat) : Int) / W = (k : Int) / W := by
  have e := Int.mul_ediv_add_emod (k : Int) W
  have c : ((k + 1 : Nat) : Int) = ((k : Int) % W + 1) + (k : Int) / W * W := by rw [Int.mul_comm]; omega
  have p := Int.emod_nonneg (k : Int) (show W ≠ 0 by omega)
  rw [c, Int.add_mul_emod_self_right, Int.add_mul_ediv_right _ _ (by omega), Int.emod_eq_of_lt (by omega) (by omega), Int.ediv_eq_zero_of_lt (by omega) (by omega)]
  omega
theorem move_v {W : Int} {k Wn : Nat} (hW : W = (Wn : Int)) (w0 : 1 ≤ W) : (((k + Wn : Nat) : Int) % W = (k : Int) % W) ∧ ((k + Wn : Nat) : Int) / W = (k : Int) / W + 1 := by
  have c : ((k + Wn : Nat) : Int) = (k : Int) + 1 * W := by rw [Int.one_mul, hW]; omega
  rw [c, Int.add_mul_emod_self_right, Int.add_mul_ediv_right _ _ (by omega)]
  exact ⟨rfl, rfl⟩
/-- The neighbours are pixels side by side, and all of them. -/
theorem nb_mem {W H : Int} {zs : List Int} {n k : Nat} (hI : okI W H zs) (hn : zs.length = n) (hk : k < n) (l : Int) : l ∈ nb4 W H k ↔ ∃ q : Nat, l = (q : Int) ∧ q < n ∧ side W k q := by
  obtain ⟨Wn, Hn, rfl, rfl, W16, H16, W0, H0, hlen⟩ := sides_nat hI
  have hN : (Wn : Int) * (Hn : Int) = (n : Int) := by rw [← hn]; exact hI.2.1.symm
  obtain ⟨⟨a, b⟩, c, d⟩ := place_in hI.1.1 hI.1.2 hN hk
  have ek := Int.mul_ediv_add_emod (k : Int) (Wn : Int)
  have hx : (Wn : Int) * ((Hn : Int) - 1) = (n : Int) - (Wn : Int) := by rw [Int.mul_sub, Int.mul_one, hN]
  have key : ∀ q : Nat, q < n → side (Wn : Int) k q → ((q : Int) = (k : Int) - 1 ∧ 0 < (k : Int) % (Wn : Int)) ∨ ((q : Int) = (k : Int) + 1 ∧ (k : Int) % (Wn : Int) < (Wn : Int) - 1) ∨ ((q : Int) = (k : Int) - (Wn : Int) ∧ (Wn : Int) ≤ (k : Int)) ∨ ((q : Int) = (k : Int) + (Wn : Int) ∧ (k : Int) < (n : Int) - (Wn : Int)) := fun q hq hs => by
    obtain ⟨⟨a', b'⟩, c', d'⟩ := place_in hI.1.1 hI.1.2 hN hq
    have eq := Int.mul_ediv_add_emod (q : Int) (Wn : Int)
    unfold side at hs
    rcases hs with ⟨e, h | h⟩ | ⟨e, h | h⟩
    · rw [e, h] at eq; exact .inl ⟨by omega, by omega⟩
    · rw [e, h] at eq; exact .inr (.inl ⟨by omega, by omega⟩)
    · rw [e, h, Int.mul_sub, Int.mul_one] at eq; exact .inr (.inr (.inl ⟨by omega, by omega⟩))
    · rw [e, h, Int.mul_add, Int.mul_one] at eq; exact .inr (.inr (.inr ⟨by omega, by omega⟩))
  have back : ∀ q : Nat, ((q : Int) = (k : Int) - 1 ∧ 0 < (k : Int) % (Wn : Int)) ∨ ((q : Int) = (k : Int) + 1 ∧ (k : Int) % (Wn : Int) < (Wn : Int) - 1) ∨ ((q : Int) = (k : Int) - (Wn : Int) ∧ (Wn : Int) ≤ (k : Int)) ∨ ((q : Int) = (k : Int) + (Wn : Int) ∧ (k : Int) < (n : Int) - (Wn : Int)) → q < n ∧ side (Wn : Int) k q := fun q h => by
    rcases h with ⟨e, h⟩ | ⟨e, h⟩ | ⟨e, h⟩ | ⟨e, h⟩
    · refine ⟨by omega, .inl ?_⟩
      have eq : k = q + 1 := by omega
      have hb : (q : Int) % (Wn : Int) < (Wn : Int) - 1 := by
        have e2 := Int.mul_ediv_add_emod (q : Int) (Wn : Int)
        have p1 := Int.emod_lt_of_pos (q : Int) (show (0 : Int) < (Wn : Int) by omega)
        by_cases hc : (q : Int) % (Wn : Int) = (Wn : Int) - 1
        · exfalso
          have : (k : Int) = 0 + ((q : Int) / (Wn : Int) + 1) * (Wn : Int) := by rw [Int.add_mul, Int.mul_comm ((q : Int) / (Wn : Int))]; omega
          rw [this, Int.add_mul_emod_self_right] at h; simp at h
        · omega
      obtain ⟨m1, m2⟩ := move_h (by omega) hb
      rw [eq]; exact ⟨m2.symm, .inl (by omega)⟩
    · have : (k : Int) / (Wn : Int) * (Wn : Int) ≤ ((Hn : Int) - 1) * (Wn : Int) := Int.mul_le_mul_of_nonneg_right (by omega) (by omega)
      rw [Int.sub_mul, Int.one_mul, Int.mul_comm (Hn : Int), hN, Int.mul_comm] at this
      have eq : q = k + 1 := by omega
      obtain ⟨m1, m2⟩ := move_h (by omega) h
      subst eq
      exact ⟨by omega, .inl ⟨m2, .inr m1⟩⟩
    · have eq : k = q + Wn := by omega
      obtain ⟨m1, m2⟩ := move_v (W := (Wn : Int)) (k := q) rfl (by omega)
      refine ⟨by omega, .inr ?_⟩
      rw [eq]; exact ⟨m1.symm, .inl (by omega)⟩
    · have eq : q = k + Wn := by omega
      obtain ⟨m1, m2⟩ := move_v (W := (Wn : Int)) (k := k) rfl (by omega)
      subst eq
      exact ⟨by omega, .inr ⟨m1, .inr m2⟩⟩
  have hm : l ∈ nb4 (Wn : Int) (Hn : Int) k ↔ (l = (k : Int) - 1 ∧ 0 < (k : Int) % (Wn : Int)) ∨ (l = (k : Int) + 1 ∧ (k : Int) % (Wn : Int) < (Wn : Int) - 1) ∨ (l = (k : Int) - (Wn : Int) ∧ (Wn : Int) ≤ (k : Int)) ∨ (l = (k : Int) + (Wn : Int) ∧ (k : Int) < (n : Int) - (Wn : Int)) := by
    unfold nb4 nb3 nb2 nb1
    rw [hx]
    simp only [List.mem_append, or_assoc]
    have one : ∀ (c : Prop) [Decidable c] (v : Int), (l ∈ if c then [v] else []) ↔ (l = v ∧ c) := fun c _ v => by split <;> simp_all
    rw [one, one, one, one]
  rw [hm]
  constructor
  · intro h
    have h0 : 0 ≤ l := by
      rcases h with ⟨e, h⟩ | ⟨e, h⟩ | ⟨e, h⟩ | ⟨e, h⟩
      · by_cases hk0 : k = 0
        · subst hk0; simp at h
        · omega
      · omega
      · omega
      · omega
    obtain ⟨q, rfl⟩ : ∃ q : Nat, l = (q : Int) := ⟨l.toNat, by omega⟩
    exact ⟨q, rfl, back q h⟩
  · rintro ⟨q, rfl, hq, hs⟩
    exact key q hq hs
/-- A pixel that is not nearest has a neighbour that is nearer. -/
theorem nb_near {W H : Int} {zs : List Int} {n k : Nat} (hI : okI W H zs) (hn : zs.length = n) (hk : k < n) (hz : ∃ q : Nat, q < n ∧ zs[q]?.getD 0 = 0) (h0 : dst W H zs n k ≠ 0) : ∃ q : Nat, (q : Int) ∈ nb4 W H k ∧ dst W H zs n k - dst W H zs n q = 1 := by
  obtain ⟨Wn, Hn, rfl, rfl, W16, H16, W0, H0, hlen⟩ := sides_nat hI
  have hN : (Wn : Int) * (Hn : Int) = (n : Int) := by rw [← hn]; exact hI.2.1.symm
  have hb := dst_bd hI n k
  obtain ⟨r, hr, hrz, e⟩ : ∃ r : Nat, r < n ∧ zs[r]?.getD 0 = 0 ∧ dst (Wn : Int) (Hn : Int) zs n k = gap (Wn : Int) k r := by
    rcases dst_is (W := (Wn : Int)) (H := (Hn : Int)) (zs := zs) (n := n) (k := k) with e | h
    · obtain ⟨q, hq, hqz⟩ := hz
      have h1 := dst_le (W := (Wn : Int)) (H := (Hn : Int)) (k := k) hq hqz
      have h2 := gap_lt hI hn hk hq
      omega
    · exact h
  obtain ⟨⟨a, b⟩, c, d⟩ := place_in hI.1.1 hI.1.2 hN hk
  obtain ⟨⟨a', b'⟩, c', d'⟩ := place_in hI.1.1 hI.1.2 hN hr
  have fin : ∀ q : Nat, q < n → side (Wn : Int) k q → gap (Wn : Int) q r = gap (Wn : Int) k r - 1 → ∃ q : Nat, (q : Int) ∈ nb4 (Wn : Int) (Hn : Int) k ∧ dst (Wn : Int) (Hn : Int) zs n k - dst (Wn : Int) (Hn : Int) zs n q = 1 := fun q hq hs hg => by
    refine ⟨q, (nb_mem hI hn hk _).2 ⟨q, rfl, hq, hs⟩, ?_⟩
    have h1 := dst_le (W := (Wn : Int)) (H := (Hn : Int)) (k := q) hr hrz
    have h2 := dst_side (n := n) hI hs
    omega
  -- the pixel one step nearer
  have pix : ∀ x y : Int, inP (Wn : Int) (Hn : Int) x y → ∃ q : Nat, q < n ∧ (q : Int) % (Wn : Int) = x ∧ (q : Int) / (Wn : Int) = y := fun x y hp => by
    obtain ⟨p, h1, h2, h3, -⟩ := place_of hI.1.1 hI.1.2 hp
    exact ⟨p, by omega, h2, h3⟩
  have hne : gap (Wn : Int) k r ≠ 0 := by omega
  by_cases hx1 : (k : Int) % (Wn : Int) < (r : Int) % (Wn : Int)
  · obtain ⟨q, hq, e1, e2⟩ := pix ((k : Int) % (Wn : Int) + 1) ((k : Int) / (Wn : Int)) ⟨⟨by omega, by omega⟩, c, d⟩
    exact fin q hq (.inl ⟨e2, .inr e1⟩) (by unfold gap stepD; rw [e1, e2]; omega)
  · by_cases hx2 : (r : Int) % (Wn : Int) < (k : Int) % (Wn : Int)
    · obtain ⟨q, hq, e1, e2⟩ := pix ((k : Int) % (Wn : Int) - 1) ((k : Int) / (Wn : Int)) ⟨⟨by omega, by omega⟩, c, d⟩
      exact fin q hq (.inl ⟨e2, .inl e1⟩) (by unfold gap stepD; rw [e1, e2]; omega)
    · by_cases hy1 : (k : Int) / (Wn : Int) < (r : Int) / (Wn : Int)
      · obtain ⟨q, hq, e1, e2⟩ := pix ((k : Int) % (Wn : Int)) ((k : Int) / (Wn : Int) + 1) ⟨⟨a, b⟩, by omega, by omega⟩
        exact fin q hq (.inr ⟨e1, .inr e2⟩) (by unfold gap stepD; rw [e1, e2]; omega)
      · have hy2 : (r : Int) / (Wn : Int) < (k : Int) / (Wn : Int) := by unfold gap stepD at hne; omega
        obtain ⟨q, hq, e1, e2⟩ := pix ((k : Int) % (Wn : Int)) ((k : Int) / (Wn : Int) - 1) ⟨⟨a, b⟩, by omega, by omega⟩
        exact fin q hq (.inr ⟨e1, .inl e2⟩) (by unfold gap stepD; rw [e1, e2]; omega)
/-- Whether one of the first numbers is 0; whether a neighbour among the first ones is nearer by 1. -/
def anyZ (zs : List Int) : Nat → Bool
  | 0 => false
  | k + 1 => anyZ zs k || zs[k]?.getD 0 == 0
theorem anyZ_iff (zs : List Int) (k : Nat) : anyZ zs k = true ↔ ∃ q : Nat, q < k ∧ zs[q]?.getD 0 = 0 := by
  induction k with
  | zero => simp [anyZ]
  | succ k ih =>
    unfold anyZ
    rw [Bool.or_eq_true, ih]
    constructor
    · rintro (⟨q, hq, hz⟩ | h)
      · exact ⟨q, by omega, hz⟩
      · exact ⟨k, by omega, by simpa using h⟩
    · rintro ⟨q, hq, hz⟩
      by_cases e : q = k
      · subst e; exact .inr (by simpa using hz)
      · exact .inl ⟨q, by omega, hz⟩
def nearB (D : Int) (f : Nat → Int) : Nat → Bool
  | 0 => D == 0
  | j + 1 => nearB D f j || D - f j == 1
theorem nearB_of (D : Int) (f : Nat → Int) (m : Nat) (h : D = 0 ∨ ∃ j : Nat, j < m ∧ D - f j = 1) : nearB D f m = true := by
  induction m with
  | zero =>
    rcases h with h | ⟨j, hj, -⟩
    · unfold nearB; simpa using h
    · omega
  | succ m ih =>
    unfold nearB
    rw [Bool.or_eq_true]
    rcases h with h | ⟨j, hj, e⟩
    · exact .inl (ih (.inl h))
    · by_cases c : j = m
      · subst c; exact .inr (by simpa using e)
      · exact .inl (ih (.inr ⟨j, by omega, e⟩))
end Go.Proofs.Ytghmjdmiaajbnaa
/-
  Layer 2: the statements' own comparison of an image with rows.
-/
namespace Go.Proofs.Ytghmjdmiaajbnaa
open Go.RowKit
set_option linter.unusedVariables false
set_option linter.unusedSimpArgs false

set_option maxRecDepth 100000 in
set_option maxHeartbeats 4000000 in
theorem is_true (W H : Int) (a : Option Addr) (n c : Nat) (zs : List Int) (B k : Nat) (rs : List (Nat × List Int)) (r0 : Nat × List Int) (h0 : rs[0]? = some r0) (hk : rs.length = k) (hk16 : k ≤ 16) (hl : ∀ r ∈ rs, r.2.length ≤ 16) (hW : (r0.2.length : Int) = W) (hH : (k : Int) = H) (hz : flat rs = zs) (hn : n ≤ maxLen) (w : World) (hR : Row w a n (iv zs)) (hRw : Rws w B rs) :
    Calls Try.prog 19 #[.agg #[.int .i64 W, .int .i64 H, .slice a n c], .int .i64 0, .slice (some ⟨B, 0, none⟩) k k] w fun e w' => e = .returned (.bool true) ∧ Below w.heap.size w w' := by
  have HROWS : Hid (∀ w, Rws w B rs → Calls Try.prog 16 #[.slice (some ⟨B, 0, none⟩) k k] w fun e w' => ∃ (b : Option Addr) (d : Nat), e = .returned (.agg #[.int .i64 W, .int .i64 H, .slice b (flat rs).length d]) ∧ Row w' b (flat rs).length (iv zs) ∧ Below w.heap.size w w') := fun w h => by
    have := rows_any B k rs r0 h0 hk hk16 hl w h
    rw [hW, hH, show iv (flat rs) = iv zs by rw [hz]] at this
    exact this
  have HSAME : Hid (∀ (b : Option Addr) (m d : Nat) w, Row w a n (iv zs) → Row w b m (iv zs) → Calls Try.prog 35 #[.agg #[.int .i64 W, .int .i64 H, .slice a n c], .agg #[.int .i64 W, .int .i64 H, .slice b m d]] w fun e w' => e = .returned (.bool true) ∧ Below w.heap.size w w') := fun b m d w h1 h2 => same_yes W H a b n m c d zs hn w h1 h2
  have HR := Lib.hid hR
  have HW := Lib.hid hRw
  obtain ⟨N, hN⟩ : ∃ N, (flat rs).length = N := ⟨_, rfl⟩
  rw [hN] at HROWS
  have hmx : Try.prog.follows .mixedOrders = true := by kernel_rfl
  clear h0 hk hk16 hl hW hH hz hn hR hRw hN
  go_enter Try.func19, Try.ntmps19
  go_upto_region 1 with fail
  refine wp_region_held_drew (S := fun w' => (Blk w' w.heap.size #[.int .i64 W, .int .i64 H, .slice a n c] 24 ∧ (∀ i : Nat, w'.cell? ⟨w.heap.size, i, none⟩ = (#[.int .i64 W, .int .i64 H, .slice a n c] : Array Value)[i]?)) ∧ Below w.heap.size w w') hmx ⟨Blk.full (by (repeat' (first | (with_reducible assumption) | ((with_reducible refine Blk.new ?_); first | rfl | (simp; done)) | (with_reducible refine Blk.later (by assumption) ?_) | (with_reducible refine Blk.alloc ?_) | (with_reducible refine Blk.drewN ?_) | (with_reducible refine Blk.drew ?_) | (with_reducible refine Blk.other ?_ (by first | omega | (simp; done) | (simp; omega)))))), by (repeat' (first | (with_reducible exact Below.refl _ _) | (with_reducible assumption) | (with_reducible refine belowThru ?_ (by assumption)) | (with_reducible refine belowAlloc ?_) | (with_reducible refine Below.setCell ?_ (by first | omega | (simp; done) | (simp; omega)) _) | (with_reducible refine Below.drew ?_) | (with_reducible refine below_drewN ?_ _)))⟩ (fun hHeld => ?_)
  refine wpAnyH_take (i := 0) (v := ?_) rfl (by kernel_rfl) (by kernel_rfl) (by kernel_rfl) (fun _ _ _ h => h) (Or.inl ⟨by rfl, ?hT0⟩) (by assumption) ?_
  case hT0 => ((intro w hSw; (try dsimp only at hSw); go_simp); try (with_reducible rfl))
  try simp only [Act.put, List.setIfInBounds_toArray, List.set_cons_zero, List.set_cons_succ]
  refine wpAnyH_take (i := 1) (v := ?_) rfl (by kernel_rfl) (by kernel_rfl) (by kernel_rfl) (fun _ _ _ h => h) (Or.inl ⟨by rfl, ?hT1⟩) (by assumption) ?_
  case hT1 => ((intro w hSw; (try dsimp only at hSw); go_simp); try (with_reducible rfl))
  try simp only [Act.put, List.setIfInBounds_toArray, List.set_cons_zero, List.set_cons_succ]
  refine wpAnyH_take (i := 2) (v := ?_) rfl (by kernel_rfl) (by kernel_rfl) (by kernel_rfl) (fun _ _ _ h => h) (Or.inl ⟨by rfl, ?hT2⟩) (by assumption) ?_
  case hT2 => ((intro w hSw; (try dsimp only at hSw); go_simp); try (with_reducible rfl))
  try simp only [Act.put, List.setIfInBounds_toArray, List.set_cons_zero, List.set_cons_succ]
  refine wpAnyH_take (i := 3) (v := ?_) rfl (by kernel_rfl) (by kernel_rfl) (by kernel_rfl) (fun _ _ _ h => h) (Or.inl ⟨by rfl, ?hT3⟩) (by assumption) ?_
  case hT3 => ((intro w hSw; (try dsimp only at hSw); go_simp); try (with_reducible rfl))
  try simp only [Act.put, List.setIfInBounds_toArray, List.set_cons_zero, List.set_cons_succ]
  refine wpAnyH_take (i := 4) (v := ?_) rfl (by kernel_rfl) (by kernel_rfl) (by kernel_rfl) (fun _ _ _ h => h) (Or.inl ⟨by rfl, ?hT4⟩) (by assumption) ?_
  case hT4 => ((intro w hSw; (try dsimp only at hSw); go_simp); try (with_reducible rfl))
  try simp only [Act.put, List.setIfInBounds_toArray, List.set_cons_zero, List.set_cons_succ]
  refine wpAnyH_ready (rs := [5]) (by kernel_rfl) (by simp) ?_
  refine AllReadyH.cons rfl (fun K hK => ?_) AllReadyH.nil
  go_simp
  (go_at_call 16; (with_reducible refine (HROWS.out _ (HW.out.later (by (repeat' (first | (with_reducible exact Below.refl _ _) | (with_reducible assumption) | (with_reducible refine belowThru ?_ (by assumption)) | (with_reducible refine belowAlloc ?_) | (with_reducible refine Below.setCell ?_ (by first | omega | (simp; done) | (simp; omega)) _) | (with_reducible refine Below.drew ?_) | (with_reducible refine below_drewN ?_ _)))))).mono ?_); rintro e wA ⟨b, d, rfl, hb2, hb⟩)
  refine hK.out _ _ ?_ (fun hHeldN => ?_)
  · (try dsimp only); (((first | (apply hold1; (focus assumption); intro p0 pB) | skip); refine ⟨Blk.full ?_, ?_⟩; all_goals (first | ((repeat' (first | (with_reducible assumption) | ((with_reducible refine Blk.new ?_); first | rfl | (simp; done)) | (with_reducible refine Blk.later (by assumption) ?_) | (with_reducible refine Blk.alloc ?_) | (with_reducible refine Blk.drewN ?_) | (with_reducible refine Blk.drew ?_) | (with_reducible refine Blk.other ?_ (by first | omega | (simp; done) | (simp; omega))))); done) | ((repeat' (first | (with_reducible exact Below.refl _ _) | (with_reducible assumption) | (with_reducible refine belowThru ?_ (by assumption)) | (with_reducible refine belowAlloc ?_) | (with_reducible refine Below.setCell ?_ (by first | omega | (simp; done) | (simp; omega)) _) | (with_reducible refine Below.drew ?_) | (with_reducible refine below_drewN ?_ _))); done))))
  clear hK K hHeld
  have hHeld := hHeldN
  clear hHeldN
  try simp only [Act.put, List.setIfInBounds_toArray, List.set_cons_zero, List.set_cons_succ]
  have hBA : Below w.heap.size w wA := by (repeat' (first | (with_reducible exact Below.refl _ _) | (with_reducible assumption) | (with_reducible refine belowThru ?_ (by assumption)) | (with_reducible refine belowAlloc ?_) | (with_reducible refine Below.setCell ?_ (by first | omega | (simp; done) | (simp; omega)) _) | (with_reducible refine Below.drew ?_) | (with_reducible refine below_drewN ?_ _)))
  have HB := Lib.hid hb2
  clear hb hb2
  refine wpAnyH_ready (rs := [6]) (by kernel_rfl) (by simp) ?_
  refine AllReadyH.cons rfl (fun K hK => ?_) AllReadyH.nil
  go_simp
  (go_at_call 35; (with_reducible refine (HSAME.out _ _ _ _ (HR.out.later hBA) HB.out).mono ?_); rintro e wB ⟨rfl, hb⟩)
  refine hK.out _ _ ?_ (fun hHeldN => ?_)
  · (try dsimp only); (((first | (apply hold1; (focus assumption); intro p0 pB) | skip); refine ⟨Blk.full ?_, ?_⟩; all_goals (first | ((repeat' (first | (with_reducible assumption) | ((with_reducible refine Blk.new ?_); first | rfl | (simp; done)) | (with_reducible refine Blk.later (by assumption) ?_) | (with_reducible refine Blk.alloc ?_) | (with_reducible refine Blk.drewN ?_) | (with_reducible refine Blk.drew ?_) | (with_reducible refine Blk.other ?_ (by first | omega | (simp; done) | (simp; omega))))); done) | ((repeat' (first | (with_reducible exact Below.refl _ _) | (with_reducible assumption) | (with_reducible refine belowThru ?_ (by assumption)) | (with_reducible refine belowAlloc ?_) | (with_reducible refine Below.setCell ?_ (by first | omega | (simp; done) | (simp; omega)) _) | (with_reducible refine Below.drew ?_) | (with_reducible refine below_drewN ?_ _))); done))))
  clear hK K hHeld
  have hHeld := hHeldN
  clear hHeldN
  try simp only [Act.put, List.setIfInBounds_toArray, List.set_cons_zero, List.set_cons_succ]
  clear hb
  refine wpAnyH_ready (rs := [7]) (by kernel_rfl) (by simp) ?_
  refine AllReadyH.cons rfl (fun K hK => ?_) AllReadyH.nil
  go_simp
  refine hK.out _ _ ?_ (fun hHeldN => ?_)
  · (try dsimp only); (((first | (apply hold1; (focus assumption); intro p0 pB) | skip); refine ⟨Blk.full ?_, ?_⟩; all_goals (first | ((repeat' (first | (with_reducible assumption) | ((with_reducible refine Blk.new ?_); first | rfl | (simp; done)) | (with_reducible refine Blk.later (by assumption) ?_) | (with_reducible refine Blk.alloc ?_) | (with_reducible refine Blk.drewN ?_) | (with_reducible refine Blk.drew ?_) | (with_reducible refine Blk.other ?_ (by first | omega | (simp; done) | (simp; omega))))); done) | ((repeat' (first | (with_reducible exact Below.refl _ _) | (with_reducible assumption) | (with_reducible refine belowThru ?_ (by assumption)) | (with_reducible refine belowAlloc ?_) | (with_reducible refine Below.setCell ?_ (by first | omega | (simp; done) | (simp; omega)) _) | (with_reducible refine Below.drew ?_) | (with_reducible refine below_drewN ?_ _))); done))))
  clear hK K hHeld
  have hHeld := hHeldN
  clear hHeldN
  try simp only [Act.put, List.setIfInBounds_toArray, List.set_cons_zero, List.set_cons_succ]
  refine wpAnyH_ready (rs := [8]) (by kernel_rfl) (by simp) ?_
  refine AllReadyH.cons rfl (fun K hK => ?_) AllReadyH.nil
  go_simp
  refine hK.out _ _ ?_ (fun hHeldN => ?_)
  · (try dsimp only); (((first | (apply hold1; (focus assumption); intro p0 pB) | skip); refine ⟨Blk.full ?_, ?_⟩; all_goals (first | ((repeat' (first | (with_reducible assumption) | ((with_reducible refine Blk.new ?_); first | rfl | (simp; done)) | (with_reducible refine Blk.later (by assumption) ?_) | (with_reducible refine Blk.alloc ?_) | (with_reducible refine Blk.drewN ?_) | (with_reducible refine Blk.drew ?_) | (with_reducible refine Blk.other ?_ (by first | omega | (simp; done) | (simp; omega))))); done) | ((repeat' (first | (with_reducible exact Below.refl _ _) | (with_reducible assumption) | (with_reducible refine belowThru ?_ (by assumption)) | (with_reducible refine belowAlloc ?_) | (with_reducible refine Below.setCell ?_ (by first | omega | (simp; done) | (simp; omega)) _) | (with_reducible refine Below.drew ?_) | (with_reducible refine below_drewN ?_ _))); done))))
  clear hK K hHeld
  have hHeld := hHeldN
  clear hHeldN
  try simp only [Act.put, List.setIfInBounds_toArray, List.set_cons_zero, List.set_cons_succ]
  refine wpAnyH_done (by kernel_rfl) ?_ _
  obtain ⟨-, pB⟩ := hHeld
  go_wp2_with fail
  go_ret
  exact ⟨rfl, pB⟩
end Go.Proofs.Ytghmjdmiaajbnaa
/-
  Layer 2: whether a kernel is valid, by the code and by the document.
-/
namespace Go.Proofs.Ytghmjdmiaajbnaa
open Go.RowKit
set_option linter.unusedVariables false
set_option linter.unusedSimpArgs false

/-- A kernel with these sides and factors is valid. -/
def okKn (W H : Int) (zs : List Int) : Prop := (okK W ∧ okK H) ∧ (zs.length : Int) = W * H ∧ ∀ z ∈ zs, okFa z
instance (W H : Int) (zs : List Int) : Decidable (okKn W H zs) := inferInstanceAs (Decidable (_ ∧ _))
def UptoK (zs : List Int) (k : Nat) : Prop := ∀ z ∈ zs.take k, okFa z
theorem UptoK.zero (zs : List Int) : UptoK zs 0 := fun z h => by simp at h
theorem UptoK.snoc {zs : List Int} {k : Nat} {z : Int} (h : UptoK zs k) (hz : zs[k]? = some z) (ok : okFa z) : UptoK zs (k + 1) := by
  unfold UptoK
  rw [List.take_add_one, hz]
  intro x hx
  rcases List.mem_append.1 hx with k | k
  · exact h x k
  · simp at k; subst k; exact ok
theorem UptoK.all {zs : List Int} {k : Nat} (h : UptoK zs k) (hk : zs.length ≤ k) : ∀ z ∈ zs, okFa z := by
  unfold UptoK at h; rwa [List.take_of_length_le hk] at h

set_option maxHeartbeats 1000000 in
theorem isKernel_any (W H : Int) (a : Option Addr) (n c : Nat) (zs : List Int) (hn : n ≤ maxLen) (w : World) (hR : Row w a n (iv zs)) :
    Calls Try.prog 60 #[.agg #[.int .i64 W, .int .i64 H, .slice a n c]] w fun e w' => e = .returned (.bool (decide (okKn W H zs))) ∧ Below w.heap.size w w' := by
  unfold maxLen at hn
  have hlen : zs.length = n := by have := hR.1; rwa [iv_length] at this
  have HR := Lib.hid hR
  clear hR
  by_cases hW : okK W
  · have dW : decide (okK W) = true := decide_eq_true hW
    by_cases hH : okK H
    · have dH : decide (okK H) = true := decide_eq_true hH
      have hm := okK_mul hW hH
      by_cases hL : (n : Int) = W * H
      · have hl : ((n : Int) != W * H) = false := by simpa using hL
        have HO : Hid ((okK W ∧ okK H) ∧ (zs.length : Int) = W * H) := ⟨⟨hW, hH⟩, by rw [hlen]; exact hL⟩
        have HN := Lib.hid hlen
        clear hlen hL hW hH
        go_enter Try.func60, Try.ntmps60
        go_wp2_with (go_at_call 103; (with_reducible refine (isKernelSide_any _ _).mono ?_); rintro e w1 ⟨rfl, rfl⟩)
        go_loop [29] (fun i => ∃ k : Nat, k ≤ n ∧ i = .int .i64 k ∧ Hid (UptoK zs k)) (fun i => n - (intOf i).toNat)
        case atStart => exact ⟨0, Nat.zero_le _, rfl, UptoK.zero zs⟩
        case round =>
          obtain ⟨k, hk, rfl, hu⟩ := hrel
          by_cases hlt : k < n
          · obtain ⟨b, off, z, rfl, -, hz, hc⟩ := HR.out.int hlt
            have hc := cell_alloc (o := .cells #[.int .i64 W, .int .i64 H, .slice (some ⟨b, off, none⟩) n c] 36) hc
            by_cases hv : okFa z
            · have dv : decide (okFa z) = true := decide_eq_true hv
              have hu' : Hid (UptoK zs (k + 1)) := hu.out.snoc hz hv
              clear hz hv
              go_wp2_with (go_at_call 95; (with_reducible refine (within_fa _ _).mono ?_); rintro e w1 ⟨rfl, rfl⟩)
              go_round
              case rel => exact ⟨k + 1, hlt, by go_num, hu'⟩
              case measure => simp [intOf]; omega
            · have dv : decide (okFa z) = false := decide_eq_false hv
              have he : decide (okKn W H zs) = false := decide_eq_false (fun h => hv (h.2.2 z (List.mem_of_getElem? hz)))
              clear hz hv
              go_wp2_with (go_at_call 95; (with_reducible refine (within_fa _ _).mono ?_); rintro e w1 ⟨rfl, rfl⟩)
              go_ret
              exact ⟨by first | rfl | (rw [he]; rfl), by (repeat' (first | (with_reducible exact Below.refl _ _) | (with_reducible assumption) | (with_reducible refine belowThru ?_ (by assumption)) | (with_reducible refine belowAlloc ?_) | (with_reducible refine Below.setCell ?_ (by first | omega | (simp; done) | (simp; omega)) _) | (with_reducible refine Below.drew ?_) | (with_reducible refine below_drewN ?_ _)))⟩
          · have he : decide (okKn W H zs) = true := decide_eq_true ⟨HO.out.1, HO.out.2, hu.out.all (by rw [HN.out]; omega)⟩
            go_wp2
            go_ret
            exact ⟨by first | rfl | (rw [he]; rfl), by (repeat' (first | (with_reducible exact Below.refl _ _) | (with_reducible assumption) | (with_reducible refine belowThru ?_ (by assumption)) | (with_reducible refine belowAlloc ?_) | (with_reducible refine Below.setCell ?_ (by first | omega | (simp; done) | (simp; omega)) _) | (with_reducible refine Below.drew ?_) | (with_reducible refine below_drewN ?_ _)))⟩
      · have hl : ((n : Int) != W * H) = true := by simpa using hL
        have he : decide (okKn W H zs) = false := decide_eq_false (fun h => hL (by rw [← hlen]; exact h.2.1))
        clear hlen hL hW hH
        rw [he]
        clear he
        go_enter Try.func60, Try.ntmps60
        go_wp2_with (go_at_call 103; (with_reducible refine (isKernelSide_any _ _).mono ?_); rintro e w1 ⟨rfl, rfl⟩)
        go_ret
        exact ⟨rfl, by (repeat' (first | (with_reducible exact Below.refl _ _) | (with_reducible assumption) | (with_reducible refine belowThru ?_ (by assumption)) | (with_reducible refine belowAlloc ?_) | (with_reducible refine Below.setCell ?_ (by first | omega | (simp; done) | (simp; omega)) _) | (with_reducible refine Below.drew ?_) | (with_reducible refine below_drewN ?_ _)))⟩
    · have dH : decide (okK H) = false := decide_eq_false hH
      rw [decide_eq_false (fun h => hH h.1.2 : ¬ okKn W H zs)]
      clear hlen hW hH
      go_enter Try.func60, Try.ntmps60
      go_wp2_with (go_at_call 103; (with_reducible refine (isKernelSide_any _ _).mono ?_); rintro e w1 ⟨rfl, rfl⟩)
      go_ret
      exact ⟨rfl, by (repeat' (first | (with_reducible exact Below.refl _ _) | (with_reducible assumption) | (with_reducible refine belowThru ?_ (by assumption)) | (with_reducible refine belowAlloc ?_) | (with_reducible refine Below.setCell ?_ (by first | omega | (simp; done) | (simp; omega)) _) | (with_reducible refine Below.drew ?_) | (with_reducible refine below_drewN ?_ _)))⟩
  · have dW : decide (okK W) = false := decide_eq_false hW
    rw [decide_eq_false (fun h => hW h.1.1 : ¬ okKn W H zs)]
    clear hlen hW
    go_enter Try.func60, Try.ntmps60
    go_wp2_with (go_at_call 103; (with_reducible refine (isKernelSide_any _ _).mono ?_); rintro e w1 ⟨rfl, rfl⟩)
    go_ret
    exact ⟨rfl, by (repeat' (first | (with_reducible exact Below.refl _ _) | (with_reducible assumption) | (with_reducible refine belowThru ?_ (by assumption)) | (with_reducible refine belowAlloc ?_) | (with_reducible refine Below.setCell ?_ (by first | omega | (simp; done) | (simp; omega)) _) | (with_reducible refine Below.drew ?_) | (with_reducible refine below_drewN ?_ _)))⟩

end Go.Proofs.Ytghmjdmiaajbnaa
/-
  Layer 2: the sums of a convolution.
-/
namespace Go.Proofs.Ytghmjdmiaajbnaa
open Go.RowKit
set_option linter.unusedVariables false
set_option linter.unusedSimpArgs false

/-- A product of a convolution, and the sum of the first of them. -/
def cvT (j W H : Int) (zs : List Int) (KW KH : Int) (ks : List Int) (x y : Int) (k : Nat) : Int :=
  ks[k]?.getD 0 * bey j W H zs (x - ((k : Int) % KW - KW / 2)) (y - ((k : Int) / KW - KH / 2))
def cvN (j W H : Int) (zs : List Int) (KW KH : Int) (ks : List Int) (x y : Int) : Nat → Int
  | 0 => 0
  | k + 1 => cvN j W H zs KW KH ks x y k + cvT j W H zs KW KH ks x y k
theorem pixAt_bd {W H : Int} {zs : List Int} (hI : okI W H zs) (x y : Int) : okV (pixAt W zs x y) := by
  unfold pixAt
  cases h : zs[(y * W + x).toNat]? with
  | none => exact ⟨by decide, by decide⟩
  | some z => exact hI.2.2 z (List.mem_of_getElem? h)
theorem bey_bd {j W H : Int} {zs : List Int} (hI : okI W H zs) (x y : Int) : okV (bey j W H zs x y) := by
  unfold bey
  split
  · exact pixAt_bd hI _ _
  · split
    · exact ⟨by decide, by decide⟩
    · split <;> exact pixAt_bd hI _ _
theorem fb_bd {f b : Int} (hf : okFa f) (hb : okV b) : -140737488355328 ≤ f * b ∧ f * b ≤ 140737488355328 := by
  have h0 := Int.natAbs_mul f b
  have h1 : f.natAbs ≤ 65536 := by unfold okFa at hf; omega
  have h2 : b.natAbs ≤ 2147483648 := by unfold okV at hb; omega
  have h3 := Nat.mul_le_mul h1 h2
  omega
theorem kn_get {KW KH : Int} {ks : List Int} (hK : okKn KW KH ks) (k : Nat) : okFa (ks[k]?.getD 0) := by
  cases h : ks[k]? with
  | none => exact ⟨by decide, by decide⟩
  | some z => exact hK.2.2 z (List.mem_of_getElem? h)
theorem cvT_bd {j W H KW KH : Int} {zs ks : List Int} (hI : okI W H zs) (hK : okKn KW KH ks) (x y : Int) (k : Nat) : -140737488355328 ≤ cvT j W H zs KW KH ks x y k ∧ cvT j W H zs KW KH ks x y k ≤ 140737488355328 :=
  fb_bd (kn_get hK k) (bey_bd hI _ _)
theorem cvN_fold (j W H : Int) (zs : List Int) (KW KH : Int) (ks : List Int) (x y : Int) (m : Nat) : (List.range m).foldl (fun p k => p + cvT j W H zs KW KH ks x y k) 0 = cvN j W H zs KW KH ks x y m := by
  induction m with
  | zero => rfl
  | succ m ih => rw [List.range_succ, List.foldl_append, ih]; rfl
theorem kn_sides {n : Int} (h : okK n) : 1 ≤ n ∧ n ≤ 5 := by unfold okK at h; omega
end Go.Proofs.Ytghmjdmiaajbnaa
