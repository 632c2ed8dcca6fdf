/-
  A block of the memory that is known whole, and what leaves it so.
-/
import Derived.WalkKit
import Derived.WalkSpells
import Derived.WalkSmall
import Derived.OneCell
import Derived.Deep.Draws
import Derived.Laws.AppendOwn
namespace Go.Proofs.Ytnkpejinnbiocaa
open Go.RowKit

/-- Block b holds these cells, and may be written. -/
def Blk (w : World) (b : Nat) (c : Array Value) (t : TypeId) : Prop := w.heap[b]? = some (.cells c t (0, 0))
theorem Blk.lt {w : World} {b : Nat} {c : Array Value} {t : TypeId} (h : Blk w b c t) : b < w.heap.size := lt_of_block h
theorem Blk.later {w wx : World} {b : Nat} {c : Array Value} {t : TypeId} (hb : Below w.heap.size w wx) (h : Blk w b c t) : Blk wx b c t := (hb.block b h.lt).trans h
theorem Blk.below {B : Nat} {w wx : World} {b : Nat} {c : Array Value} {t : TypeId} (hb : Below B w wx) (hB : b < B) (h : Blk w b c t) : Blk wx b c t := (hb.block b hB).trans h
theorem Blk.new {w : World} {n : Nat} {c : Array Value} {t : TypeId} (hn : n = w.heap.size) : Blk (w.alloc (.cells c t)) n c t := by
  subst hn
  show (w.heap.push _)[w.heap.size]? = _
  simp
theorem Blk.alloc {w : World} {o : Obj} {b : Nat} {c : Array Value} {t : TypeId} (h : Blk w b c t) : Blk (w.alloc o) b c t := by
  have := h.lt
  exact (Below.heap_alloc w o b this).trans h
theorem Blk.drewN {w : World} {n b : Nat} {c : Array Value} {t : TypeId} (h : Blk w b c t) : Blk (w.drewN n) b c t := h
theorem Blk.drew {w : World} {b : Nat} {c : Array Value} {t : TypeId} (h : Blk w b c t) : Blk w.drew b c t := h
theorem Blk.other {w : World} {a : Addr} {v : Value} {b : Nat} {c : Array Value} {t : TypeId} (h : Blk w b c t) (ha : b ≠ a.block) : Blk (w.setCell a v) b c t :=
  (Below.heap_setCell w a v b ha).trans h
theorem Blk.set {w : World} {i b : Nat} {v : Value} {c : Array Value} {t : TypeId} (h : Blk w b c t) : Blk (w.setCell ⟨b, i, none⟩ v) b (c.setIfInBounds i v) t := by
  have hlt := h.lt
  have h' : w.heap[b] = .cells c t (0, 0) := by
    have : w.heap[b]? = some (.cells c t (0, 0)) := h
    simpa [Array.getElem?_eq_getElem hlt] using this
  show (w.heap.modify b _)[b]? = _
  rw [Array.getElem?_eq_getElem (by simpa using hlt), Array.getElem_modify_self, h']
  rfl
theorem Blk.keep {w W w1 : World} {b : Nat} {c : Array Value} {t : TypeId} (hb : Below W.heap.size W w1) (k : Blk w b c t) (h : Blk w b c t → Blk W b c t) : Blk w1 b c t := Blk.later hb (h k)
theorem Blk.keepG {w W w1 : World} {b : Nat} {c : Array Value} {t : TypeId} {G : Prop} (hb : Below W.heap.size W w1) (k : Blk w b c t) (h : Blk w b c t → Blk W b c t) (g : Blk w1 b c t → G) : G := g (Blk.later hb (h k))
theorem Blk.cells {w : World} {b : Nat} {c : Array Value} {t : TypeId} (h : Blk w b c t) (i : Nat) : w.cell? ⟨b, i, none⟩ = c[i]? := by
  have h' : w.heap[b]? = some (.cells c t (0, 0)) := h
  simp [World.cell?, h']
theorem Blk.free {w : World} {b : Nat} {c : Array Value} {t : TypeId} (h : Blk w b c t) (i : Nat) : w.frozen? ⟨b, i, none⟩ = false := by
  have h' : w.heap[b]? = some (.cells c t (0, 0)) := h
  simp [World.frozen?, h']
theorem Blk.full {w : World} {b : Nat} {c : Array Value} {t : TypeId} (h : Blk w b c t) : Blk w b c t ∧ (∀ i : Nat, w.cell? ⟨b, i, none⟩ = c[i]?) := ⟨h, h.cells⟩
theorem Blk.read {w : World} {b : Nat} {c : Array Value} {t : TypeId} (h : Blk w b c t) : (∀ i, w.cell? ⟨b, i, none⟩ = c[i]?) ∧ (∀ i, w.frozen? ⟨b, i, none⟩ = false) := ⟨h.cells, h.free⟩
theorem belowThru {w W w1 : World} (h : Below w.heap.size w W) (hb : Below W.heap.size W w1) : Below w.heap.size w w1 := h.trans (hb.mono h.size)
theorem belowAlloc {w W : World} {o : Obj} (h : Below w.heap.size w W) : Below w.heap.size w (W.alloc o) := h.alloc h.size o
/-- A pointer to a block from a number on that holds these cells. -/
def At (wx : World) (lo : Nat) (c : Array Value) (t : TypeId) (s : Value) : Prop := ∃ b : Nat, s = .pointer (some ⟨b, 0, none⟩) ∧ lo ≤ b ∧ Blk wx b c t
theorem At.mk {wx : World} {lo b : Nat} {c : Array Value} {t : TypeId} (h : lo ≤ b) (k : Blk wx b c t) : At wx lo c t (.pointer (some ⟨b, 0, none⟩)) := ⟨b, rfl, h, k⟩
/-- Two pointers to two blocks from a number on. -/
def At2 (wx : World) (lo : Nat) (c d : Array Value) (t : TypeId) (s u : Value) : Prop := ∃ a b : Nat, s = .pointer (some ⟨a, 0, none⟩) ∧ u = .pointer (some ⟨b, 0, none⟩) ∧ lo ≤ a ∧ lo ≤ b ∧ a ≠ b ∧ Blk wx a c t ∧ Blk wx b d t
theorem At2.mk {wx : World} {lo a b : Nat} {c d : Array Value} {t : TypeId} (ha : lo ≤ a) (hb : lo ≤ b) (hn : a ≠ b) (k : Blk wx a c t) (l : Blk wx b d t) : At2 wx lo c d t (.pointer (some ⟨a, 0, none⟩)) (.pointer (some ⟨b, 0, none⟩)) := ⟨a, b, rfl, rfl, ha, hb, hn, k, l⟩
/-- What is held of two blocks, handed on. -/
theorem hold2 {w : World} {b0 b1 : Nat} {c0 c1 : Array Value} {t0 t1 : TypeId} {B D E G : Prop} (h : (Blk w b0 c0 t0 ∧ B) ∧ (Blk w b1 c1 t1 ∧ D) ∧ E) (g : Blk w b0 c0 t0 → Blk w b1 c1 t1 → E → G) : G := g h.1.1 h.2.1.1 h.2.2
theorem hold1 {w : World} {b0 : Nat} {c0 : Array Value} {t0 : TypeId} {B E G : Prop} (h : (Blk w b0 c0 t0 ∧ B) ∧ E) (g : Blk w b0 c0 t0 → E → G) : G := g h.1.1 h.2
theorem hold3 {w : World} {b0 b1 b2 : Nat} {c0 c1 c2 : Array Value} {t0 t1 t2 : TypeId} {B D F E G : Prop} (h : (Blk w b0 c0 t0 ∧ B) ∧ (Blk w b1 c1 t1 ∧ D) ∧ (Blk w b2 c2 t2 ∧ F) ∧ E) (g : Blk w b0 c0 t0 → Blk w b1 c1 t1 → Blk w b2 c2 t2 → E → G) : G := g h.1.1 h.2.1.1 h.2.2.1.1 h.2.2.2
end Go.Proofs.Ytnkpejinnbiocaa
