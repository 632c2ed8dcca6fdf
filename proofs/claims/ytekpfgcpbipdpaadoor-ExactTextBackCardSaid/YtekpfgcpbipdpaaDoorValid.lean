/-
  The law's own test of some fractions: whether all are valid.
-/
import Derived.Test.YtekpfgcpbipdpaaDoorRef3
namespace Go.Proofs.YtekpfgcpbipdpaaDoor
open Go.RowKit

set_option maxRecDepth 100000 in
set_option maxHeartbeats 2000000 in
theorem valid_any (l : List (Int × Int)) (hl : ∀ p ∈ l, -9223372036854775808 ≤ p.1 ∧ p.1 ≤ 9223372036854775807) (v : Bool) (hv : v = true ↔ ∀ p ∈ l, okF p.1 p.2) (B off n c : Nat) (hn : n = l.length) (hn1 : n ≤ 100) (w : World)
    (hc : ∀ i, i < n → w.cell? ⟨B, off + i * 2, none⟩ = some (.int .i64 (l.getD i (0, 0)).1) ∧ w.cell? ⟨B, off + i * 2 + 1, none⟩ = some (.int .i64 (l.getD i (0, 0)).2)) :
    Calls Tryd.prog 32 #[.slice (some ⟨B, off, none⟩) n c] w fun e w' => e = .returned (.bool v) ∧ Below w.heap.size w w' := by
  have HC := Lib.hid hc; clear hc
  have HV := Lib.hid hv; clear hv
  have HN := Lib.hid (And.intro hn hl); clear hn hl
  go_enter Tryd.func32, Tryd.ntmps32
  go_wp2
  go_loopw [3] (fun i wr => ∃ k : Nat, k ≤ n ∧ i = .int .i64 k ∧ Hid (∀ j, j < k → okF (l.getD j (0, 0)).1 (l.getD j (0, 0)).2) ∧ Below w.heap.size w wr) (fun i _ => n - (intOf i).toNat)
  case atStart => exact ⟨0, Nat.zero_le _, rfl, Lib.hid (fun j h => absurd h (by omega)), by (repeat' (first | (with_reducible exact Below.refl _ _) | (with_reducible assumption) | (with_reducible refine belowThru ?_ (by assumption)) | (with_reducible refine belowAlloc ?_) | (with_reducible refine Below.setCell ?_ (by first | omega | (simp; done) | (simp; omega)) _) | (with_reducible refine Below.drew ?_) | (with_reducible refine below_drewN ?_ _)))⟩
  case round =>
    obtain ⟨k, hk, rfl, hok, hB⟩ := hrel
    by_cases hlt : k < n
    · obtain ⟨x, y, hxy⟩ : ∃ x y, l.getD k (0, 0) = (x, y) := ⟨_, _, rfl⟩
      have hm : (x, y) ∈ l := by
        have HL := HN.out.1
        rw [List.getD_eq_getElem?_getD, List.getElem?_eq_getElem (by omega)] at hxy
        have : l[k] = (x, y) := hxy
        rw [← this]; exact List.getElem_mem _
      obtain ⟨g0, g1⟩ := HC.out k hlt
      rw [hxy] at g0 g1
      have g0 := cell_later (hB.mono (Nat.le_refl _)) g0
      have g1 := cell_later (hB.mono (Nat.le_refl _)) g1
      have hb := HN.out.2 _ hm
      by_cases h : okF x y
      · have HT : Hid (∀ w, Calls Tryd.prog 61 #[.agg #[.int .i64 x, .int .i64 y]] w fun e w' => e = .returned (.bool true) ∧ Below w.heap.size w w') := by
          obtain ⟨q, fq, rfl, rfl⟩ := (okF_iff _ _).1 h
          exact Lib.hid (fun w => rvalid_true q fq w)
        have hok' : Hid (∀ j, j < k + 1 → okF (l.getD j (0, 0)).1 (l.getD j (0, 0)).2) := by
          refine Lib.hid (fun j hj => ?_)
          by_cases e : j = k
          · subst e; rw [hxy]; exact h
          · exact hok.out j (by omega)
        clear h hb hm hxy hok
        go_wp2_with (go_at_call 61; (with_reducible refine (HT.out _).mono ?_); rintro e w1 ⟨rfl, hb⟩)
        go_roundw
        case rel => exact ⟨k + 1, hlt, by go_num, hok', by (repeat' (first | (with_reducible exact Below.refl _ _) | (with_reducible assumption) | (with_reducible refine belowThru ?_ (by assumption)) | (with_reducible refine belowAlloc ?_) | (with_reducible refine Below.setCell ?_ (by first | omega | (simp; done) | (simp; omega)) _) | (with_reducible refine Below.drew ?_) | (with_reducible refine below_drewN ?_ _)))⟩
        case measure => simp [intOf] <;> omega
      · have HT : Hid (∀ w, Calls Tryd.prog 61 #[.agg #[.int .i64 x, .int .i64 y]] w fun e w' => e = .returned (.bool false) ∧ Below w.heap.size w w') :=
          Lib.hid (fun w => rvalid_false x y h hb.1 hb.2 w)
        obtain rfl : v = false := by
          cases v with
          | false => rfl
          | true => exact absurd (HV.out.1 rfl _ hm) h
        clear h hb hm hxy hok HV
        go_wp2_with (go_at_call 61; (with_reducible refine (HT.out _).mono ?_); rintro e w1 ⟨rfl, hb⟩)
        go_ret
        exact ⟨rfl, by (repeat' (first | (with_reducible exact Below.refl _ _) | (with_reducible assumption) | (with_reducible refine belowThru ?_ (by assumption)) | (with_reducible refine belowAlloc ?_) | (with_reducible refine Below.setCell ?_ (by first | omega | (simp; done) | (simp; omega)) _) | (with_reducible refine Below.drew ?_) | (with_reducible refine below_drewN ?_ _)))⟩
    · obtain rfl : v = true := HV.out.2 (fun p hp => by
        obtain ⟨j, hj, e⟩ := List.getElem_of_mem hp
        have := hok.out j (by have := HN.out.1; omega)
        rw [List.getD_eq_getElem?_getD, List.getElem?_eq_getElem hj] at this
        rw [← e]; exact this)
      clear hok HV
      go_wp2
      go_ret
      exact ⟨rfl, by (repeat' (first | (with_reducible exact Below.refl _ _) | (with_reducible assumption) | (with_reducible refine belowThru ?_ (by assumption)) | (with_reducible refine belowAlloc ?_) | (with_reducible refine Below.setCell ?_ (by first | omega | (simp; done) | (simp; omega)) _) | (with_reducible refine Below.drew ?_) | (with_reducible refine below_drewN ?_ _)))⟩
end Go.Proofs.YtekpfgcpbipdpaaDoor
