/-
  Layer 2: what memory holds of images; what a round of a loop over an iterator keeps.
-/
import Derived.RangeFuncNested
import Derived.RangeFuncBound
import Derived.RangeFuncCalls
import Derived.RangeFuncLeaves
import Derived.Shelf.Abstract
import Derived.Shelf.AbstractIn
import Derived.Shelf.RegionOpen
import Derived.OwnWalkIn
import Derived.TacticsInMore
import Derived.LoopNIn
import Derived.LoopIn
import Derived.Deep.RegionHeld3
import Derived.Deep.QuietTactic
import Derived.BigQuiet
import Derived.Lib.Hide
import Derived.Test.YtihefdlolfpbnaaProg
import Derived.Test.YtihefdlolfpbnaaBlk
namespace Go.Proofs.Ytihefdlolfpbnaa
open Go.RowKit
set_option linter.unusedVariables false
set_option linter.unusedSimpArgs false

/-- The cells of some numbers. -/
def ints (zs : List Int) : Array Value := (zs.map (Value.int .i64)).toArray
theorem ints_size (zs : List Int) : (ints zs).size = zs.length := by simp [ints]
theorem ints_get (zs : List Int) (j : Nat) : (ints zs)[j]? = zs[j]?.map (Value.int .i64) := by simp [ints]
/-- A slice value that reads as these numbers. -/
def Reads (w : World) (v : Value) (zs : List Int) : Prop :=
  (zs = [] ∧ ∃ a c, v = .slice a 0 c) ∨ ∃ b off c, v = .slice (some ⟨b, off, none⟩) zs.length c ∧ b < w.heap.size ∧ ∀ j, j < zs.length → w.cell? ⟨b, off + j, none⟩ = some (.int .i64 (zs[j]?.getD 0))
theorem Reads.later {w w' : World} (hb : Below w.heap.size w w') {v : Value} {zs : List Int} (h : Reads w v zs) : Reads w' v zs := by
  rcases h with h | ⟨b, off, c, hv, hlt, hc⟩
  · exact .inl h
  · exact .inr ⟨b, off, c, hv, Nat.lt_of_lt_of_le hlt hb.size, fun j hj => cell_later hb (hc j hj)⟩
theorem Reads.of_blk {w : World} {b c : Nat} {zs : List Int} {t : TypeId} (h : Blk w b (ints zs) t) : Reads w (.slice (some ⟨b, 0, none⟩) zs.length c) zs := by
  refine .inr ⟨b, 0, c, rfl, h.lt, fun j hj => ?_⟩
  rw [h.cells, ints_get, Nat.zero_add, List.getElem?_eq_getElem hj]; rfl
theorem cell_alloc {w : World} {o : Obj} {a : Addr} {v : Value} (h : w.cell? a = some v) : (w.alloc o).cell? a = some v := cell_later (belowAlloc (Below.refl _ _)) h
theorem KeepsFrom.of_below {B : Nat} {W W' : World} (h : Below W.heap.size W W') : KeepsFrom B W W' :=
  ⟨h.size, fun k o _ hk _ => (h.block k (Array.getElem?_eq_some_iff.1 hk).1).trans hk⟩
theorem Below.wide {w : World} {W W' : World} (h : Below w.heap.size w W) (k : Below W.heap.size W W') : Below w.heap.size W W' := k.mono h.size
end Go.Proofs.Ytihefdlolfpbnaa
