/-
  Layer 9: a count of the true belt (the law BeltCatches), walked.
-/
import Derived.Deep.CutBlock
import Derived.Test.YtbcnoklaaigclaaVMov
import Derived.Test.YtbcnoklaaigclaaVSme
import Derived.Test.YtbcnoklaaigclaaVCaM
import Derived.Test.YtbcnoklaaigclaaVKeA
namespace Go.Proofs.Ytbcnoklaaigclaa
open Go.RowKit Go.Shelf
set_option linter.unusedVariables false
set_option linter.unusedSimpArgs false


def th1 (y : Th) : List Value := [.int .i64 y.1, .int .i64 y.2.1, .int .i64 y.2.2.1, .int .u8 y.2.2.2.1, .bool y.2.2.2.2]
theorem elem_th : Elem Try.prog 125 87 5 th1 where
  hk := fun _ => rfl
  k0 := by decide
  one := fun x u hu => by simp [th1] at hu; rcases hu with rfl | rfl | rfl | rfl | rfl <;> rfl
  und := Try.underlying87
  info := by
    have h : (Try.prog.info? 125).map (fun i => (i.zero, i.size, i.bytes)) = some (some (.agg #[.int .i64 0, .int .i64 0, .int .i64 0, .int .u8 0, .bool false]), 5, 32) := by kernel_rfl
    obtain ⟨i0, hi, hz0, hz1, hz2⟩ := info_parts h
    exact ⟨i0, _, hi, hz0, hz1, by omega, rfl⟩
theorem rowOf' {w : World} {B n : Nat} {a : Option Addr} {cap : Nat} {xs : List Sn} (h : OwnK 68 4 sn1 B w (.slice a n cap) xs) : RowK 4 sn1 w a n xs := by
  obtain ⟨a', c, e, hr, hc, -⟩ := h.row elem_sn
  have e : Value.slice a n cap = Value.slice a' xs.length c := e
  cases e
  exact hr
theorem rowOfT {w : World} {B n : Nat} {a : Option Addr} {cap : Nat} {xs : List Th} (h : OwnK 125 5 th1 B w (.slice a n cap) xs) : RowK 5 th1 w a n xs := by
  obtain ⟨a', c, e, hr, hc, -⟩ := h.row elem_th
  have e : Value.slice a n cap = Value.slice a' xs.length c := e
  cases e
  exact hr
theorem run_append_1t (ty : TypeId) {B : Nat} {w : World} {u : Value} {ys : List Th} (x : Th) (hO : OwnK 125 5 th1 B w u ys) (hl : ys.length ≤ 1000000) (hB : B ≤ w.heap.size) :
    ∃ r w', (Builtin.append_ #[87, 87] ty #[u, .slice (some ⟨w.heap.size, 0, none⟩) 1 1]).run Try.prog (w.alloc (.cells (th1 x).toArray 125)) = .ok r w' ∧ (OwnK 125 5 th1 B w' r (ys ++ [x]) ∧ Below B w w') := by
  obtain ⟨r, w', h1, h2, -, h4, -⟩ := run_append_1 elem_th ty x hO hl hB
  exact ⟨r, w', h1, h2, h4⟩
/-- A part of the true belt, read. -/
theorem RowK.thing {w : World} {a : Option Addr} {n : Nat} {xs : List Th} (h : RowK 5 th1 w a n xs) {j : Nat} (hj : j < n) :
    ∃ b off y1 y2 y3 y4 y5, a = some ⟨b, off, none⟩ ∧ b < w.heap.size ∧ xs[j]? = some (y1, y2, y3, y4, y5) ∧ w.cell? ⟨b, off + j * 5, none⟩ = some (.int .i64 y1) ∧ w.cell? ⟨b, off + j * 5 + 1, none⟩ = some (.int .i64 y2) ∧ w.cell? ⟨b, off + j * 5 + 2, none⟩ = some (.int .i64 y3) ∧ w.cell? ⟨b, off + j * 5 + 3, none⟩ = some (.int .u8 y4) ∧ w.cell? ⟨b, off + j * 5 + 4, none⟩ = some (.bool y5) := by
  obtain ⟨b, off, ⟨y1, y2, y3, y4, y5⟩, ha, hb, hx, hc⟩ := h.at hj
  exact ⟨b, off, y1, y2, y3, y4, y5, ha, hb, hx, hc 0 _ rfl, hc 1 _ rfl, hc 2 _ rfl, hc 3 _ rfl, hc 4 _ rfl⟩
theorem Blk.w7 {w : World} {b : Nat} {x0 x1 x2 x3 x4 x5 x6 x7 x8 x9 x10 : Value} {t : TypeId} (h : Blk w b #[x0, x1, x2, x3, x4, x5, x6, x7, x8, x9, x10] t) (y0 y1 y2 y3 y4 y5 y6 : Value) :
    Blk (((((((w.setCell ⟨b, 0, none⟩ y0).setCell ⟨b, 1, none⟩ y1).setCell ⟨b, 2, none⟩ y2).setCell ⟨b, 3, none⟩ y3).setCell ⟨b, 4, none⟩ y4).setCell ⟨b, 5, none⟩ y5).setCell ⟨b, 6, none⟩ y6) b #[y0, y1, y2, y3, y4, y5, y6, x7, x8, x9, x10] t := by
  have h0 : Blk _ b #[y0, x1, x2, x3, x4, x5, x6, x7, x8, x9, x10] t := Blk.set (i := 0) (v := y0) h
  have h1 : Blk _ b #[y0, y1, x2, x3, x4, x5, x6, x7, x8, x9, x10] t := Blk.set (i := 1) (v := y1) h0
  have h2 : Blk _ b #[y0, y1, y2, x3, x4, x5, x6, x7, x8, x9, x10] t := Blk.set (i := 2) (v := y2) h1
  have h3 : Blk _ b #[y0, y1, y2, y3, x4, x5, x6, x7, x8, x9, x10] t := Blk.set (i := 3) (v := y3) h2
  have h4 : Blk _ b #[y0, y1, y2, y3, y4, x5, x6, x7, x8, x9, x10] t := Blk.set (i := 4) (v := y4) h3
  have h5 : Blk _ b #[y0, y1, y2, y3, y4, y5, x6, x7, x8, x9, x10] t := Blk.set (i := 5) (v := y5) h4
  exact (Blk.set (i := 6) (v := y6) h5 : Blk _ b #[y0, y1, y2, y3, y4, y5, y6, x7, x8, x9, x10] t)
theorem Blk.drew1 {w : World} {b : Nat} {c : Array Value} {t : TypeId} (h : Blk w b c t) : Blk w.drew b c t := h
theorem grownBy_set {w : World} (g : Nat) (i : Nat) (v : Value) : w.grownBy (w.setCell ⟨g, i, none⟩ v) (some g) := grownBy_set2 (World.grownBy.refl w _) i v
/-- A row that stands behind stores into another block. -/
theorem OwnK.past {α : Type} {t t' : TypeId} {k : Nat} {en : α → List Value} {B b : Nat} {w w' : World} {v : Value} {xs : List α} {c : Array Value} (h : OwnK t k en B w v xs) (kb : Blk w b c t') (ht : t' ≠ t) (hg : w.grownBy w' (some b)) : OwnK t k en B w' v xs := OwnK.but h hg (.inr (OwnK.ne h kb ht))
/-- The true belt, in memory. -/
def StW (s p g l : Int) (am : Option Addr) (nm cm BW : Nat) (w0 : World) (c nx : Int) (xs : List Sn) (ys : List Th) (w : World) : Prop :=
  ∃ ax cx ay cy, Blk w BW #[.int .i64 s, .int .i64 p, .int .i64 g, .int .i64 l, .int .i64 c, .int .i64 nx, .slice ax xs.length cx, .slice ay ys.length cy, .slice am nm cm, .int .i64 c, .int .i64 l] 89 ∧ OwnK 68 4 sn1 w0.heap.size w (.slice ax xs.length cx) xs ∧ OwnK 125 5 th1 w0.heap.size w (.slice ay ys.length cy) ys ∧ Below w0.heap.size w0 w ∧ w0.heap.size ≤ BW
end Go.Proofs.Ytbcnoklaaigclaa
