/-
  Layer 2: slices that read as lists; valid images.
-/
import Derived.Test.YtihefdlolfpbnaaILeaf
namespace Go.Proofs.Ytihefdlolfpbnaa
open Go.RowKit
set_option linter.unusedVariables false
set_option linter.unusedSimpArgs false

/-- A slice that reads as these values; its address is known only where it has an element. -/
def Row (w : World) (a : Option Addr) (n : Nat) (vs : List Value) : Prop :=
  vs.length = n ∧ (0 < n → ∃ b off, a = some ⟨b, off, none⟩ ∧ b < w.heap.size ∧ ∀ j, j < n → w.cell? ⟨b, off + j, none⟩ = vs[j]?)
/-- Whole numbers, and truth values, as values. -/
def iv (zs : List Int) : List Value := zs.map (Value.int .i64)
def bv (zs : List Bool) : List Value := zs.map Value.bool
theorem iv_length (zs : List Int) : (iv zs).length = zs.length := by simp [iv]
theorem bv_length (zs : List Bool) : (bv zs).length = zs.length := by simp [bv]
theorem iv_get (zs : List Int) (j : Nat) : (iv zs)[j]? = zs[j]?.map (Value.int .i64) := by simp [iv]
theorem bv_get (zs : List Bool) (j : Nat) : (bv zs)[j]? = zs[j]?.map Value.bool := by simp [bv]
theorem Row.later {w w' : World} (hb : Below w.heap.size w w') {a : Option Addr} {n : Nat} {vs : List Value} (h : Row w a n vs) : Row w' a n vs :=
  ⟨h.1, fun hn => by
    obtain ⟨b, off, ha, hlt, hc⟩ := h.2 hn
    exact ⟨b, off, ha, Nat.lt_of_lt_of_le hlt hb.size, fun j hj => (World.cell?_of_block (w := w) (hb.block b hlt)).trans (hc j hj)⟩⟩
theorem Row.drew {w : World} {a : Option Addr} {n : Nat} {vs : List Value} (h : Row w a n vs) : Row w.drew a n vs := h
theorem Row.int {w : World} {a : Option Addr} {n : Nat} {zs : List Int} (h : Row w a n (iv zs)) {k : Nat} (hk : k < n) :
    ∃ b off z, a = some ⟨b, off, none⟩ ∧ b < w.heap.size ∧ zs[k]? = some z ∧ w.cell? ⟨b, off + k, none⟩ = some (.int .i64 z) := by
  obtain ⟨b, off, ha, hlt, hc⟩ := h.2 (by omega)
  have hl : k < zs.length := by have := h.1; rw [iv_length] at this; omega
  refine ⟨b, off, zs[k], ha, hlt, List.getElem?_eq_getElem hl, ?_⟩
  rw [hc k hk, iv_get, List.getElem?_eq_getElem hl]; rfl
theorem Row.bool {w : World} {a : Option Addr} {n : Nat} {zs : List Bool} (h : Row w a n (bv zs)) {k : Nat} (hk : k < n) :
    ∃ b off z, a = some ⟨b, off, none⟩ ∧ b < w.heap.size ∧ zs[k]? = some z ∧ w.cell? ⟨b, off + k, none⟩ = some (.bool z) := by
  obtain ⟨b, off, ha, hlt, hc⟩ := h.2 (by omega)
  have hl : k < zs.length := by have := h.1; rw [bv_length] at this; omega
  refine ⟨b, off, zs[k], ha, hlt, List.getElem?_eq_getElem hl, ?_⟩
  rw [hc k hk, bv_get, List.getElem?_eq_getElem hl]; rfl
theorem Row.of_blk {w : World} {b : Nat} {zs : List Int} {t : TypeId} (h : Blk w b (ints zs) t) : Row w (some ⟨b, 0, none⟩) zs.length (iv zs) :=
  ⟨iv_length zs, fun _ => ⟨b, 0, rfl, h.lt, fun j _ => by rw [h.cells, ints_get, iv_get, Nat.zero_add]⟩⟩
theorem Row.nil (w : World) (a : Option Addr) : Row w a 0 [] := ⟨rfl, fun h => absurd h (by omega)⟩

/-- An image with these sides and values is valid. -/
def okI (W H : Int) (zs : List Int) : Prop := (okS W ∧ okS H) ∧ (zs.length : Int) = W * H ∧ ∀ z ∈ zs, okV z
instance (W H : Int) (zs : List Int) : Decidable (okI W H zs) := inferInstanceAs (Decidable (_ ∧ _))
def ckI (W H : Int) (zs : List Int) : Int := if okI W H zs then 0 else 20
theorem ckI_ok {W H : Int} {zs : List Int} (h : okI W H zs) : ckI W H zs = 0 := if_pos h
theorem ckI_no {W H : Int} {zs : List Int} (h : ¬ okI W H zs) : ckI W H zs = 20 := if_neg h
/-- The first numbers are all values of an image. -/
def Upto (zs : List Int) (k : Nat) : Prop := ∀ z ∈ zs.take k, okV z
theorem Upto.zero (zs : List Int) : Upto zs 0 := fun z h => by simp at h
theorem Upto.snoc {zs : List Int} {k : Nat} {z : Int} (h : Upto zs k) (hz : zs[k]? = some z) (ok : okV z) : Upto zs (k + 1) := by
  unfold Upto
  rw [List.take_add_one, hz]
  intro x hx
  rcases List.mem_append.1 hx with k | k
  · exact h x k
  · simp at k; subst k; exact ok
theorem Upto.all {zs : List Int} {k : Nat} (h : Upto zs k) (hk : zs.length ≤ k) : ∀ z ∈ zs, okV z := by
  unfold Upto at h; rwa [List.take_of_length_le hk] at h
theorem okS_mul {W H : Int} (h1 : okS W) (h2 : okS H) : 1 ≤ W * H ∧ W * H ≤ 256 := by
  obtain ⟨a, b⟩ := h1
  obtain ⟨c, d⟩ := h2
  have h1 := Int.mul_le_mul a c (by omega) (by omega)
  have h2 := Int.mul_le_mul b d (by omega) (by omega)
  omega
end Go.Proofs.Ytihefdlolfpbnaa
