/-
  Slices that read as lists; what a call keeps.
-/
import Derived.Deep.RegionHeld3
import Derived.Deep.QuietTactic
import Derived.BigQuiet
import Derived.Lib.Hide
import Derived.Test.YtnkpejinnbiocaaProg
import Derived.Test.YtnkpejinnbiocaaBlk
namespace Go.Proofs.Ytnkpejinnbiocaa
open Go.RowKit
set_option linter.unusedVariables false
set_option linter.unusedSimpArgs false

/-- The cells of some numbers. -/
def ints (zs : List Int) : Array Value := (zs.map (Value.int .i64)).toArray
theorem ints_size (zs : List Int) : (ints zs).size = zs.length := by simp [ints]
theorem ints_get (zs : List Int) (j : Nat) : (ints zs)[j]? = zs[j]?.map (Value.int .i64) := by simp [ints]
theorem cell_alloc {w : World} {o : Obj} {a : Addr} {v : Value} (h : w.cell? a = some v) : (w.alloc o).cell? a = some v := cell_later (belowAlloc (Below.refl _ _)) h
theorem ret_int {k : IntKind} {a b : Int} (h : a = b) : Ending.returned (.int k a) = .returned (.int k b) := by rw [h]
/-- A slice that reads as these values; its address is known only where it has an element. -/
def Row (w : World) (a : Option Addr) (n : Nat) (vs : List Value) : Prop :=
  vs.length = n ∧ (0 < n → ∃ b off, a = some ⟨b, off, none⟩ ∧ b < w.heap.size ∧ ∀ j, j < n → w.cell? ⟨b, off + j, none⟩ = vs[j]?)
/-- Whole numbers, and truth values, as values. -/
def iv (zs : List Int) : List Value := zs.map (Value.int .i64)
def bv (zs : List Bool) : List Value := zs.map Value.bool
theorem iv_length (zs : List Int) : (iv zs).length = zs.length := by simp [iv]
theorem bv_length (zs : List Bool) : (bv zs).length = zs.length := by simp [bv]
theorem iv_get (zs : List Int) (j : Nat) : (iv zs)[j]? = zs[j]?.map (Value.int .i64) := by simp [iv]
theorem bv_get (zs : List Bool) (j : Nat) : (bv zs)[j]? = zs[j]?.map Value.bool := by simp [bv]
theorem Row.later {w w' : World} (hb : Below w.heap.size w w') {a : Option Addr} {n : Nat} {vs : List Value} (h : Row w a n vs) : Row w' a n vs :=
  ⟨h.1, fun hn => by
    obtain ⟨b, off, ha, hlt, hc⟩ := h.2 hn
    exact ⟨b, off, ha, Nat.lt_of_lt_of_le hlt hb.size, fun j hj => (World.cell?_of_block (w := w) (hb.block b hlt)).trans (hc j hj)⟩⟩
theorem Row.drew {w : World} {a : Option Addr} {n : Nat} {vs : List Value} (h : Row w a n vs) : Row w.drew a n vs := h
theorem Row.int {w : World} {a : Option Addr} {n : Nat} {zs : List Int} (h : Row w a n (iv zs)) {k : Nat} (hk : k < n) :
    ∃ b off z, a = some ⟨b, off, none⟩ ∧ b < w.heap.size ∧ zs[k]? = some z ∧ w.cell? ⟨b, off + k, none⟩ = some (.int .i64 z) := by
  obtain ⟨b, off, ha, hlt, hc⟩ := h.2 (by omega)
  have hl : k < zs.length := by have := h.1; rw [iv_length] at this; omega
  refine ⟨b, off, zs[k], ha, hlt, List.getElem?_eq_getElem hl, ?_⟩
  rw [hc k hk, iv_get, List.getElem?_eq_getElem hl]; rfl
theorem Row.bool {w : World} {a : Option Addr} {n : Nat} {zs : List Bool} (h : Row w a n (bv zs)) {k : Nat} (hk : k < n) :
    ∃ b off z, a = some ⟨b, off, none⟩ ∧ b < w.heap.size ∧ zs[k]? = some z ∧ w.cell? ⟨b, off + k, none⟩ = some (.bool z) := by
  obtain ⟨b, off, ha, hlt, hc⟩ := h.2 (by omega)
  have hl : k < zs.length := by have := h.1; rw [bv_length] at this; omega
  refine ⟨b, off, zs[k], ha, hlt, List.getElem?_eq_getElem hl, ?_⟩
  rw [hc k hk, bv_get, List.getElem?_eq_getElem hl]; rfl
theorem Row.of_blk {w : World} {b : Nat} {zs : List Int} {t : TypeId} (h : Blk w b (ints zs) t) : Row w (some ⟨b, 0, none⟩) zs.length (iv zs) :=
  ⟨iv_length zs, fun _ => ⟨b, 0, rfl, h.lt, fun j _ => by rw [h.cells, ints_get, iv_get, Nat.zero_add]⟩⟩
theorem Row.nil (w : World) (a : Option Addr) : Row w a 0 [] := ⟨rfl, fun h => absurd h (by omega)⟩

end Go.Proofs.Ytnkpejinnbiocaa
