/-
  Layer 9: the reference's comparisons of equal tracks and of equal fates.
-/
import Derived.Test.YtnkpejinnbiocaaVApi
namespace Go.Proofs.Ytnkpejinnbiocaa
open Go.RowKit Go.Shelf
set_option linter.unusedVariables false
set_option linter.unusedSimpArgs false


theorem RowK.fate {w : World} {a : Option Addr} {n : Nat} {xs : List Ft} (h : RowK 3 ft1 w a n xs) {j : Nat} (hj : j < n) :
    ∃ b off x, a = some ⟨b, off, none⟩ ∧ xs[j]? = some x ∧ w.cell? ⟨b, off + j * 3, none⟩ = some (.int .i64 x.1) ∧ w.cell? ⟨b, off + j * 3 + 1, none⟩ = some (.int .u8 x.2.1) ∧ w.cell? ⟨b, off + j * 3 + 2, none⟩ = some (.bool x.2.2) := by
  obtain ⟨b, off, x, ha, -, hx, hc⟩ := h.at hj
  exact ⟨b, off, x, ha, hx, hc 0 _ rfl, hc 1 _ rfl, hc 2 _ rfl⟩
set_option maxRecDepth 100000 in
set_option maxHeartbeats 16000000 in
theorem sameFates_eq (a b : Option Addr) (n c d : Nat) (xs : List Ft) (hn : n ≤ 1099511627776) (w : World) (hR : RowK 3 ft1 w a n xs) (hS : RowK 3 ft1 w b n xs) :
    Calls Try.prog 21 #[.slice a n c, .slice b n d] w fun e w' => e = .returned (.bool true) ∧ Below w.heap.size w w' := by
  have HR := Lib.hid hR; have HS := Lib.hid hS
  clear hR hS
  have d0 : ((n : Int) != (n : Int)) = false := by simp
  go_enter Try.func21, Try.ntmps21
  go_wp2_with fail
  go_loopw [5] (fun v wr => ∃ i : Nat, i ≤ n ∧ v = .int .i64 i ∧ Below w.heap.size w wr) (fun v _ => n - (intOf v).toNat)
  case atStart => exact ⟨0, Nat.zero_le _, rfl, Below.refl _ _⟩
  case round =>
    obtain ⟨i, hi, rfl, hB⟩ := hrel
    by_cases hlt : i < n
    · obtain ⟨b1, o1, x, rfl, hx, f0, f1, f2⟩ := HR.out.fate hlt
      obtain ⟨b2, o2, y, rfl, hy, g0, g1, g2⟩ := HS.out.fate hlt
      have hxy : y = x := by rw [hx] at hy; exact (Option.some.inj hy).symm
      subst hxy
      obtain ⟨x1, x2, x3⟩ := y
      have f0 := cell_later hB f0; have f1 := cell_later hB f1; have f2 := cell_later hB f2
      have g0 := cell_later hB g0; have g1 := cell_later hB g1; have g2 := cell_later hB g2
      have p0 : (0 : Int) ≤ (i : Int) := by omega
      have p1 : (i : Int) < (n : Int) := by omega
      have qe : ∀ w, Sem.run Try.prog (binOp .neq 74 (.agg #[.int .i64 x1, .int .u8 x2, .bool x3]) (.agg #[.int .i64 x1, .int .u8 x2, .bool x3])) w = .ok (.bool false) w := fun w => by simp [go_sem, Sem.run]
      clear hx hy
      go_wp2_with fail
      go_quiet (fail)
      go_wp2_with fail
      go_roundw
      case rel => exact ⟨i + 1, hlt, by go_num, by (repeat' (first | (with_reducible exact Below.refl _ _) | (with_reducible assumption) | (with_reducible refine belowThru ?_ (by assumption)) | (with_reducible refine belowAlloc ?_) | (with_reducible refine Below.setCell ?_ (by first | omega | (simp; done) | (simp; omega)) _) | (with_reducible refine Below.drew ?_) | (with_reducible refine below_drewN ?_ _)))⟩
      case measure => simp [intOf]; omega
    · go_wp2_with fail
      go_ret
      exact ⟨rfl, by (repeat' (first | (with_reducible exact Below.refl _ _) | (with_reducible assumption) | (with_reducible refine belowThru ?_ (by assumption)) | (with_reducible refine belowAlloc ?_) | (with_reducible refine Below.setCell ?_ (by first | omega | (simp; done) | (simp; omega)) _) | (with_reducible refine Below.drew ?_) | (with_reducible refine below_drewN ?_ _)))⟩
set_option maxRecDepth 100000 in
set_option maxHeartbeats 16000000 in
theorem same_eq (s p g l c nx : Int) (a b : Option Addr) (n ca cb : Nat) (xs : List Sn) (hn : n ≤ 1099511627776) (w : World) (hR : RowK 4 sn1 w a n xs) (hS : RowK 4 sn1 w b n xs) :
    Calls Try.prog 16 #[.agg #[.int .i64 s, .int .i64 p, .int .i64 g, .int .i64 l, .int .i64 c, .int .i64 nx, .slice a n ca], .agg #[.int .i64 s, .int .i64 p, .int .i64 g, .int .i64 l, .int .i64 c, .int .i64 nx, .slice b n cb]] w fun e w' => e = .returned (.bool true) ∧ Below w.heap.size w w' := by
  have HR := Lib.hid hR; have HS := Lib.hid hS
  clear hR hS
  have d0 : ((n : Int) != (n : Int)) = false := by simp
  have d1 : (c != c) = false := by simp
  have d2 : (nx != nx) = false := by simp
  have qb : ∀ w, Sem.run Try.prog (binOp .neq 23 (.agg #[.int .i64 s, .int .i64 p, .int .i64 g, .int .i64 l]) (.agg #[.int .i64 s, .int .i64 p, .int .i64 g, .int .i64 l])) w = .ok (.bool false) w := fun w => by simp [go_sem, Sem.run]
  go_enter Try.func16, Try.ntmps16
  go_wp2_with fail
  have kA : Blk ((w.alloc (.cells #[.int .i64 s, .int .i64 p, .int .i64 g, .int .i64 l, .int .i64 c, .int .i64 nx, .slice a n ca] 26)).alloc (.cells #[.int .i64 s, .int .i64 p, .int .i64 g, .int .i64 l, .int .i64 c, .int .i64 nx, .slice b n cb] 26)) w.heap.size #[.int .i64 s, .int .i64 p, .int .i64 g, .int .i64 l, .int .i64 c, .int .i64 nx, .slice a n ca] 26 := Blk.alloc (Blk.new rfl)
  have kB : Blk ((w.alloc (.cells #[.int .i64 s, .int .i64 p, .int .i64 g, .int .i64 l, .int .i64 c, .int .i64 nx, .slice a n ca] 26)).alloc (.cells #[.int .i64 s, .int .i64 p, .int .i64 g, .int .i64 l, .int .i64 c, .int .i64 nx, .slice b n cb] 26)) (w.heap.size + 1) #[.int .i64 s, .int .i64 p, .int .i64 g, .int .i64 l, .int .i64 c, .int .i64 nx, .slice b n cb] 26 := Blk.new (by simp)
  have hB0 : Below w.heap.size w ((w.alloc (.cells #[.int .i64 s, .int .i64 p, .int .i64 g, .int .i64 l, .int .i64 c, .int .i64 nx, .slice a n ca] 26)).alloc (.cells #[.int .i64 s, .int .i64 p, .int .i64 g, .int .i64 l, .int .i64 c, .int .i64 nx, .slice b n cb] 26)) := belowAlloc (belowAlloc (Below.refl _ _))
  try (obtain ⟨aA, bA⟩ := kA.read; have yA := kA.lt; obtain ⟨aB, bB⟩ := kB.read; have yB := kB.lt)
  go_wp2_with fail
  clear aA bA yA aB bB yB
  go_loopw [5] (fun v wr => ∃ i : Nat, i ≤ n ∧ v = .int .i64 i ∧ Blk wr w.heap.size #[.int .i64 s, .int .i64 p, .int .i64 g, .int .i64 l, .int .i64 c, .int .i64 nx, .slice a n ca] 26 ∧ Blk wr (w.heap.size + 1) #[.int .i64 s, .int .i64 p, .int .i64 g, .int .i64 l, .int .i64 c, .int .i64 nx, .slice b n cb] 26 ∧ Below w.heap.size w wr) (fun v _ => n - (intOf v).toNat)
  case atStart => exact ⟨0, Nat.zero_le _, rfl, kA, kB, hB0⟩
  case round =>
    clear kA kB hB0
    obtain ⟨i, hi, rfl, kA, kB, hB⟩ := hrel
    obtain ⟨aA, bA⟩ := kA.read; have yA := kA.lt; obtain ⟨aB, bB⟩ := kB.read; have yB := kB.lt
    by_cases hlt : i < n
    · obtain ⟨b1, o1, x1, x2, x3, x4, rfl, -, hx, f0, f1, f2, f3⟩ := HR.out.seen hlt
      obtain ⟨b2, o2, y1, y2, y3, y4, rfl, -, hy, g0, g1, g2, g3⟩ := HS.out.seen hlt
      rw [hx] at hy
      cases hy
      have f0 := cell_later hB f0; have f1 := cell_later hB f1; have f2 := cell_later hB f2; have f3 := cell_later hB f3
      have g0 := cell_later hB g0; have g1 := cell_later hB g1; have g2 := cell_later hB g2; have g3 := cell_later hB g3
      have p0 : (0 : Int) ≤ (i : Int) := by omega
      have p1 : (i : Int) < (n : Int) := by omega
      have qe : ∀ w, Sem.run Try.prog (binOp .neq 43 (.agg #[.int .i64 x1, .int .i64 x2, .int .u8 x3, .bool x4]) (.agg #[.int .i64 x1, .int .i64 x2, .int .u8 x3, .bool x4])) w = .ok (.bool false) w := fun w => by simp [go_sem, Sem.run]
      clear hx
      go_wp2_with fail
      go_quiet (fail)
      go_wp2_with fail
      go_roundw
      case rel => exact ⟨i + 1, hlt, by go_num, kA.drewN, kB.drewN, by (repeat' (first | (with_reducible exact Below.refl _ _) | (with_reducible assumption) | (with_reducible refine belowThru ?_ (by assumption)) | (with_reducible refine belowAlloc ?_) | (with_reducible refine Below.setCell ?_ (by first | omega | (simp; done) | (simp; omega)) _) | (with_reducible refine Below.drew ?_) | (with_reducible refine below_drewN ?_ _)))⟩
      case measure => simp [intOf]; omega
    · obtain rfl : i = n := by omega
      go_wp2_with fail
      go_ret
      exact ⟨rfl, by (repeat' (first | (with_reducible exact Below.refl _ _) | (with_reducible assumption) | (with_reducible refine belowThru ?_ (by assumption)) | (with_reducible refine belowAlloc ?_) | (with_reducible refine Below.setCell ?_ (by first | omega | (simp; done) | (simp; omega)) _) | (with_reducible refine Below.drew ?_) | (with_reducible refine below_drewN ?_ _)))⟩
end Go.Proofs.Ytnkpejinnbiocaa
