/-
  Layer 2: what a call has made anew.
-/
import Derived.Test.YtihefdlolfpbnaaISpoil
import Derived.Test.YtihefdlolfpbnaaIWarps
namespace Go.Proofs.Ytihefdlolfpbnaa
open Go.RowKit
set_option linter.unusedVariables false
set_option linter.unusedSimpArgs false

theorem New.row {B : Nat} {w : World} {a : Option Addr} {n : Nat} {zs : List Int} (h : New B w a n zs) : Row w a n (iv zs) := by
  obtain ⟨hl, h⟩ := h
  rcases h with ⟨rfl, rfl⟩ | ⟨b, rfl, -, k⟩
  · obtain rfl : zs = [] := List.eq_nil_of_length_eq_zero hl
    exact Row.nil _ _
  · subst hl; exact Row.of_blk k
theorem New.later {B : Nat} {w w' : World} (hb : Below w.heap.size w w') {a : Option Addr} {n : Nat} {zs : List Int} (h : New B w a n zs) : New B w' a n zs :=
  ⟨h.1, h.2.imp id (fun ⟨b, e, l, k⟩ => ⟨b, e, l, Blk.later hb k⟩)⟩
theorem New.mono {B B' : Nat} {w : World} {a : Option Addr} {n : Nat} {zs : List Int} (hB : B' ≤ B) (h : New B w a n zs) : New B' w a n zs :=
  ⟨h.1, h.2.imp id (fun ⟨b, e, l, k⟩ => ⟨b, e, Nat.le_trans hB l, k⟩)⟩
theorem New.set {B : Nat} {w : World} {a : Option Addr} {n : Nat} {zs : List Int} (h : New B w a n zs) {b i : Nat} {c : Array Value} {t : TypeId} (k : Blk w b c t) (ht : t ≠ 3) (v : Value) : New B (w.setCell ⟨b, i, none⟩ v) a n zs :=
  ⟨h.1, h.2.imp id (fun ⟨g, e, l, kg⟩ => ⟨g, e, l, Blk.other kg (Blk.ne kg k (fun e => ht e.symm))⟩)⟩
theorem New.set3 {B : Nat} {w : World} {a : Option Addr} {n : Nat} {zs : List Int} (h : New B w a n zs) {b : Nat} {c : Array Value} {t : TypeId} (k : Blk w b c t) (ht : t ≠ 3) (x y z : Value) : New B (((w.setCell ⟨b, 0, none⟩ x).setCell ⟨b, 1, none⟩ y).setCell ⟨b, 2, none⟩ z) a n zs :=
  ((h.set k ht x).set (Blk.set k) ht y).set (Blk.set (Blk.set k)) ht z
theorem New.blk {B : Nat} {w : World} {a : Option Addr} {n : Nat} {zs : List Int} (h : New B w a n zs) : ∀ g, a.map (·.block) = some g → B ≤ g ∧ Blk w g (ints zs) 3 := by
  intro g e
  rcases h.2 with ⟨rfl, -⟩ | ⟨b, rfl, l, k⟩
  · cases e
  · cases e; exact ⟨l, k⟩
end Go.Proofs.Ytihefdlolfpbnaa
