/-
  Layer 4: are all numbers of a list in a range?
-/
import Derived.Test.YtcafmmhjlecgpaaJRow
namespace Go.Proofs.Ytcafmmhjlecgpaa
open Go.RowKit
set_option linter.unusedVariables false
set_option linter.unusedSimpArgs false

theorem lt_of_cell {w : World} {b o : Nat} {v : Value} (h : w.cell? ⟨b, o, none⟩ = some v) : b < w.heap.size := by
  unfold World.cell? at h
  by_cases hb : b < w.heap.size
  · exact hb
  · simp [Array.getElem?_eq_none (show w.heap.size ≤ b by omega)] at h
theorem Row.one {w : World} {b : Nat} {x : Int} (h : w.cell? ⟨b, 0, none⟩ = some (.int .i64 x)) : Row w (some ⟨b, 0, none⟩) 1 (iv [x]) :=
  ⟨rfl, fun _ => ⟨b, 0, rfl, lt_of_cell h, fun j hj => by obtain rfl : j = 0 := (by omega); exact h⟩⟩
theorem Row.two {w : World} {b : Nat} {x y : Int} (h : w.cell? ⟨b, 0, none⟩ = some (.int .i64 x)) (k : w.cell? ⟨b, 1, none⟩ = some (.int .i64 y)) : Row w (some ⟨b, 0, none⟩) 2 (iv [x, y]) :=
  ⟨rfl, fun _ => ⟨b, 0, rfl, lt_of_cell h, fun j hj => by
    rcases (show j = 0 ∨ j = 1 by omega) with rfl | rfl
    · exact h
    · exact k⟩⟩
/-- All numbers are in a range. -/
def AllIn (lo hi : Int) (zs : List Int) : Prop := ∀ z ∈ zs, lo ≤ z ∧ z ≤ hi
instance (lo hi : Int) (zs : List Int) : Decidable (AllIn lo hi zs) := inferInstanceAs (Decidable (∀ z ∈ zs, _))
theorem AllIn.snoc {lo hi : Int} {zs : List Int} {k : Nat} {z : Int} (h : AllIn lo hi (zs.take k)) (hz : zs[k]? = some z) (ok : lo ≤ z ∧ z ≤ hi) : AllIn lo hi (zs.take (k + 1)) := by
  rw [List.take_add_one, hz]
  intro x hx
  rcases List.mem_append.1 hx with k | k
  · exact h x k
  · simp at k; subst k; exact ok
theorem AllIn.all {lo hi : Int} {zs : List Int} {k : Nat} (h : AllIn lo hi (zs.take k)) (hk : zs.length ≤ k) : AllIn lo hi zs := by
  rwa [List.take_of_length_le hk] at h
theorem AllIn.not {lo hi : Int} {zs : List Int} {k : Nat} {z : Int} (hz : zs[k]? = some z) (no : ¬ (lo ≤ z ∧ z ≤ hi)) : ¬ AllIn lo hi zs := fun h => no (h z (List.mem_of_getElem? hz))

set_option maxHeartbeats 2000000 in
theorem jwithin_any (lo hi : Int) (a : Option Addr) (n c : Nat) (zs : List Int) (hn : n ≤ maxLen) (w : World) (hR : Row w a n (iv zs)) :
    Calls Try.prog 58 #[.int .i64 lo, .int .i64 hi, .slice a n c] w fun e w' => e = .returned (.bool (decide (AllIn lo hi zs))) ∧ Below w.heap.size w w' := by
  unfold maxLen at hn
  have hx : zs.length = n := by have := hR.1; rwa [iv_length] at this
  have HX := Lib.hid hx; have HR := Lib.hid hR
  clear hx hR
  go_enter Try.func58, Try.ntmps58
  go_wp2
  go_loopw [8, 11] (fun v i wr => ∃ k : Nat, k ≤ n ∧ i = .int .i64 k ∧ Hid (AllIn lo hi (zs.take k)) ∧ Below w.heap.size w wr) (fun _ i _ => n - (intOf i).toNat)
  case atStart => exact ⟨0, Nat.zero_le _, rfl, (show AllIn lo hi (zs.take 0) from fun z hz => by simp at hz), by (repeat' (first | (with_reducible exact Below.refl _ _) | (with_reducible assumption) | (with_reducible refine belowThru ?_ (by assumption)) | (with_reducible refine belowAlloc ?_) | (with_reducible refine Below.setCell ?_ (by first | omega | (simp; done) | (simp; omega)) _) | (with_reducible refine Below.drew ?_) | (with_reducible refine below_drewN ?_ _)))⟩
  case round =>
    obtain ⟨k, hk, rfl, ht, hB⟩ := hrel
    by_cases hlt : k < n
    · obtain ⟨b1, o1, z1, rfl, l1, h1, c1⟩ := HR.out.int hlt
      have c1 := cell_later hB c1
      have p0 : (0 : Int) ≤ (k : Int) := by omega
      have p1 : (k : Int) < (n : Int) := by omega
      by_cases he : lo ≤ z1 ∧ z1 ≤ hi
      · have ht' : Hid (AllIn lo hi (zs.take (k + 1))) := AllIn.snoc ht.out h1 he
        obtain ⟨e1, e2⟩ := he
        clear h1
        go_wp2
        go_roundw
        case rel => exact ⟨k + 1, hlt, by go_num, ht', by (repeat' (first | (with_reducible exact Below.refl _ _) | (with_reducible assumption) | (with_reducible refine belowThru ?_ (by assumption)) | (with_reducible refine belowAlloc ?_) | (with_reducible refine Below.setCell ?_ (by first | omega | (simp; done) | (simp; omega)) _) | (with_reducible refine Below.drew ?_) | (with_reducible refine below_drewN ?_ _)))⟩
        case measure => simp [intOf]; omega
      · have hz : decide (AllIn lo hi zs) = false := decide_eq_false (AllIn.not h1 he)
        have he' : z1 < lo ∨ (lo ≤ z1 ∧ hi < z1) := by omega
        clear h1 he
        rcases he' with e1 | ⟨e1, e2⟩
        all_goals
          go_wp2
          go_ret
          exact ⟨by first | rfl | (rw [hz]; rfl), by (repeat' (first | (with_reducible exact Below.refl _ _) | (with_reducible assumption) | (with_reducible refine belowThru ?_ (by assumption)) | (with_reducible refine belowAlloc ?_) | (with_reducible refine Below.setCell ?_ (by first | omega | (simp; done) | (simp; omega)) _) | (with_reducible refine Below.drew ?_) | (with_reducible refine below_drewN ?_ _)))⟩
    · have hz : decide (AllIn lo hi zs) = true := decide_eq_true (AllIn.all (k := k) ht.out (by rw [HX.out]; omega))
      go_wp2
      go_ret
      exact ⟨by first | rfl | (rw [hz]; rfl), by (repeat' (first | (with_reducible exact Below.refl _ _) | (with_reducible assumption) | (with_reducible refine belowThru ?_ (by assumption)) | (with_reducible refine belowAlloc ?_) | (with_reducible refine Below.setCell ?_ (by first | omega | (simp; done) | (simp; omega)) _) | (with_reducible refine Below.drew ?_) | (with_reducible refine below_drewN ?_ _)))⟩
theorem jwithin_one (lo hi k : Int) (B : Nat) (w : World) (h : w.cell? ⟨B, 0, none⟩ = some (.int .i64 k)) :
    Calls Try.prog 58 #[.int .i64 lo, .int .i64 hi, .slice (some ⟨B, 0, none⟩) 1 1] w fun e w' => e = .returned (.bool (decide (lo ≤ k ∧ k ≤ hi))) ∧ Below w.heap.size w w' := by
  have := jwithin_any lo hi (some ⟨B, 0, none⟩) 1 1 [k] (by unfold maxLen; omega) w (Row.one h)
  rwa [show decide (AllIn lo hi [k]) = decide (lo ≤ k ∧ k ≤ hi) from by
    rw [Bool.eq_iff_iff, decide_eq_true_eq, decide_eq_true_eq]
    exact ⟨fun h => h k (by simp), fun h z hz => by simp at hz; subst hz; exact h⟩] at this
end Go.Proofs.Ytcafmmhjlecgpaa
