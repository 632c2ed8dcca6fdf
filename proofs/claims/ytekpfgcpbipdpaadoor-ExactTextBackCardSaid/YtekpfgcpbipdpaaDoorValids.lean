/-
  The law's own test of one, two, three fractions; the arithmetic on any fractions.
-/
import Derived.Test.YtekpfgcpbipdpaaDoorValid
import Derived.Test.YtekpfgcpbipdpaaDoorApi
import Derived.Test.YtekpfgcpbipdpaaDoorProd
namespace Go.Proofs.YtekpfgcpbipdpaaDoor
open Go.RowKit

theorem valid_1 (x0 y0 : Int) (l0 : -9223372036854775808 ≤ x0) (u0 : x0 ≤ 9223372036854775807) (v : Bool) (hv : v = true ↔ okF x0 y0) (B : Nat) (w : World) (c0 : w.cell? ⟨B, 0, none⟩ = some (.int .i64 x0)) (c1 : w.cell? ⟨B, 1, none⟩ = some (.int .i64 y0)) :
    Calls Tryd.prog 32 #[.slice (some ⟨B, 0, none⟩) 1 1] w fun e w' => e = .returned (.bool v) ∧ Below w.heap.size w w' := by
  refine valid_any [(x0, y0)] (fun p hp => ?_) v (hv.trans ⟨fun h p hp => ?_, fun h => ?_⟩) B 0 1 1 rfl (by omega) w (fun i hi => ?_)
  · simp at hp; rcases hp with rfl; exact ⟨by assumption, by assumption⟩
  · simp at hp; rcases hp with rfl; exact h
  · exact h (x0, y0) (by simp)
  · obtain rfl : i = 0 := by omega
    exact ⟨c0, c1⟩

theorem valid_2 (x0 y0 x1 y1 : Int) (l0 : -9223372036854775808 ≤ x0) (u0 : x0 ≤ 9223372036854775807) (l1 : -9223372036854775808 ≤ x1) (u1 : x1 ≤ 9223372036854775807) (v : Bool) (hv : v = true ↔ okF x0 y0 ∧ okF x1 y1) (B : Nat) (w : World) (c0 : w.cell? ⟨B, 0, none⟩ = some (.int .i64 x0)) (c1 : w.cell? ⟨B, 1, none⟩ = some (.int .i64 y0)) (c2 : w.cell? ⟨B, 2, none⟩ = some (.int .i64 x1)) (c3 : w.cell? ⟨B, 3, none⟩ = some (.int .i64 y1)) :
    Calls Tryd.prog 32 #[.slice (some ⟨B, 0, none⟩) 2 2] w fun e w' => e = .returned (.bool v) ∧ Below w.heap.size w w' := by
  refine valid_any [(x0, y0), (x1, y1)] (fun p hp => ?_) v (hv.trans ⟨fun h p hp => ?_, fun h => ?_⟩) B 0 2 2 rfl (by omega) w (fun i hi => ?_)
  · simp at hp; rcases hp with rfl | rfl <;> exact ⟨by assumption, by assumption⟩
  · simp at hp; rcases hp with rfl | rfl
    · exact h.1
    · exact h.2
  · exact ⟨h (x0, y0) (by simp), h (x1, y1) (by simp)⟩
  · obtain rfl | rfl : i = 0 ∨ i = 1 := by omega
    · exact ⟨c0, c1⟩
    · exact ⟨c2, c3⟩

theorem valid_3 (x0 y0 x1 y1 x2 y2 : Int) (l0 : -9223372036854775808 ≤ x0) (u0 : x0 ≤ 9223372036854775807) (l1 : -9223372036854775808 ≤ x1) (u1 : x1 ≤ 9223372036854775807) (l2 : -9223372036854775808 ≤ x2) (u2 : x2 ≤ 9223372036854775807) (v : Bool) (hv : v = true ↔ okF x0 y0 ∧ okF x1 y1 ∧ okF x2 y2) (B : Nat) (w : World) (c0 : w.cell? ⟨B, 0, none⟩ = some (.int .i64 x0)) (c1 : w.cell? ⟨B, 1, none⟩ = some (.int .i64 y0)) (c2 : w.cell? ⟨B, 2, none⟩ = some (.int .i64 x1)) (c3 : w.cell? ⟨B, 3, none⟩ = some (.int .i64 y1)) (c4 : w.cell? ⟨B, 4, none⟩ = some (.int .i64 x2)) (c5 : w.cell? ⟨B, 5, none⟩ = some (.int .i64 y2)) :
    Calls Tryd.prog 32 #[.slice (some ⟨B, 0, none⟩) 3 3] w fun e w' => e = .returned (.bool v) ∧ Below w.heap.size w w' := by
  refine valid_any [(x0, y0), (x1, y1), (x2, y2)] (fun p hp => ?_) v (hv.trans ⟨fun h p hp => ?_, fun h => ?_⟩) B 0 3 3 rfl (by omega) w (fun i hi => ?_)
  · simp at hp; rcases hp with rfl | rfl | rfl <;> exact ⟨by assumption, by assumption⟩
  · simp at hp; rcases hp with rfl | rfl | rfl
    · exact h.1
    · exact h.2.1
    · exact h.2.2
  · exact ⟨h (x0, y0) (by simp), h (x1, y1) (by simp), h (x2, y2) (by simp)⟩
  · obtain rfl | rfl | rfl : i = 0 ∨ i = 1 ∨ i = 2 := by omega
    · exact ⟨c0, c1⟩
    · exact ⟨c2, c3⟩
    · exact ⟨c4, c5⟩

/-- A sum, a difference, a product of any fractions, as a call answers. -/
def Op2 (f : FuncId) (x1 y1 x2 y2 zn zd e : Int) : Prop := ∀ w, Calls Tryd.prog f #[.agg #[.int .i64 x1, .int .i64 y1], .agg #[.int .i64 x2, .int .i64 y2]] w fun e' w' => e' = .returned (.tuple #[.agg #[.int .i64 zn, .int .i64 zd], .int .i64 e]) ∧ Below w.heap.size w w'
theorem okF_zero : ¬ okF 0 0 := fun h => absurd h.1 (by decide)
theorem okF_whole (n : Int) (h1 : -4611686018427387903 ≤ n) (h2 : n ≤ 4611686018427387903) : okF n 1 := ⟨by decide, by decide, h1, h2, by unfold gcdI; rw [Int.gcd_one_right]; rfl⟩
theorem fn_int (n : Int) : fn (n : Rat) = n := rfl
theorem fd_int (n : Int) : fd (n : Rat) = 1 := rfl
theorem fits_int (n : Int) (h1 : -4611686018427387903 ≤ n) (h2 : n ≤ 4611686018427387903) : fits (n : Rat) := by
  unfold fits; rw [fn_int, fd_int]; exact ⟨h1, h2, by decide⟩
end Go.Proofs.YtekpfgcpbipdpaaDoor
