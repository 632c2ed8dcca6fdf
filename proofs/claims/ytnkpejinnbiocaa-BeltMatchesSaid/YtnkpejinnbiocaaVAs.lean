/-
  Layer 9: assignments, over lists; what is in memory while they are sought.
-/
import Derived.Test.YtnkpejinnbiocaaVMat
namespace Go.Proofs.Ytnkpejinnbiocaa
open Go.RowKit Go.Shelf
set_option linter.unusedVariables false
set_option linter.unusedSimpArgs false


/-- An index may follow. -/
def okI (s p : Int) (zs us : List Int) (part fr i : Nat) : Bool := (part == 0) || agrB s p (zs.getD i 0 - zs.getD (fr - 1) 0) (us.getD part 0 - us.getD (part - 1) 0)
/-- All assignments that begin with some indices; k parts are left. -/
def asgB (s p : Int) (zs us : List Int) (n : Nat) : Nat → List Int → Nat → Nat → List (List Int)
  | 0, x, _, _ => [x]
  | k + 1, x, part, fr => (List.range' fr (n - fr)).flatMap fun i => if okI s p zs us part fr i then asgB s p zs us n k (x ++ [(i : Int)]) (part + 1) (i + 1) else []
theorem flR_zero {α : Type} (f : Nat → List α) (fr : Nat) : (List.range' fr (fr - fr)).flatMap f = [] := by simp
theorem flR_succ {α : Type} (f : Nat → List α) (fr i : Nat) (h : fr ≤ i) : (List.range' fr (i + 1 - fr)).flatMap f = (List.range' fr (i - fr)).flatMap f ++ f i := by
  rw [show i + 1 - fr = (i - fr) + 1 by omega, List.range'_1_concat, List.flatMap_append, show fr + (i - fr) = i by omega]
  simp
/-! ### Memory -/
abbrev Sl := Option Addr × Nat × Nat
def slv (h : Sl) : Value := .slice h.1 h.2.1 h.2.2
def sl1 (h : Sl) : List Value := [slv h]
theorem elem_sl : Elem Try.prog 56 57 1 sl1 where
  hk := fun _ => rfl
  k0 := by decide
  one := fun x u hu => by simp [sl1] at hu; rcases hu with rfl; rfl
  und := Try.underlying57
  info := by
    have h : (Try.prog.info? 56).map (fun i => (i.zero, i.size, i.bytes)) = some (some (.slice none 0 0), 1, 24) := by kernel_rfl
    obtain ⟨i0, hi, hz0, hz1, hz2⟩ := info_parts h
    exact ⟨i0, _, hi, hz0, hz1, by omega, rfl⟩
theorem OwnK.kept {α : Type} {t : TypeId} {k : Nat} {en : α → List Value} {B : Nat} {w w' : World} {v : Value} {xs : List α} (h : OwnK t k en B w v xs) (hk : ∀ b, B ≤ b → b < w.heap.size → w'.heap[b]? = w.heap[b]?) : OwnK t k en B w' v xs := by
  refine ⟨h.1, ?_⟩
  rcases h.2 with h0 | ⟨g, cap, cur, rfl, hb1, hh, hr⟩
  · exact .inl h0
  · exact .inr ⟨g, cap, cur, rfl, hb1, by rw [hk g hb1 (lt_of_block hh)]; exact hh, hr⟩
/-- A list of lists, in memory that was made behind a mark. -/
def AllR (B : Nat) (w : World) (v : Value) (L : List (List Int)) : Prop := ∃ hs : List Sl, OwnK 56 1 sl1 B w v hs ∧ hs.length = L.length ∧ ∀ (i : Nat) (h : Sl) (y : List Int), hs[i]? = some h → L[i]? = some y → OwnK 3 1 in1 B w (slv h) y
theorem AllR.kept {B : Nat} {w w' : World} {v : Value} {L : List (List Int)} (h : AllR B w v L) (hk : ∀ b, B ≤ b → b < w.heap.size → w'.heap[b]? = w.heap[b]?) : AllR B w' v L := by
  obtain ⟨hs, h1, h2, h3⟩ := h
  exact ⟨hs, h1.kept hk, h2, fun i h y hi hy => (h3 i h y hi hy).kept hk⟩
theorem AllR.later {B : Nat} {w w' : World} {v : Value} {L : List (List Int)} (hb : Below w.heap.size w w') (h : AllR B w v L) : AllR B w' v L := h.kept fun b _ hb2 => hb.block b hb2
theorem AllR.set {B : Nat} {w : World} {v : Value} {L : List (List Int)} (h : AllR B w v L) {p : Addr} (hp : p.block < B) (u : Value) : AllR B (w.setCell p u) v L := h.kept fun b hb _ => Below.heap_setCell w p u b (by omega)
theorem AllR.nil (B : Nat) (w : World) : AllR B w (.slice none 0 0) [] := ⟨[], OwnK.nil _ _, rfl, fun i h y hi _ => by cases hi⟩
theorem AllR.snoc {B : Nat} {w w' : World} {v v' : Value} {L : List (List Int)} {h : Sl} {y : List Int} (hL : AllR B w v L) (hy : OwnK 3 1 in1 B w (slv h) y) (hg : w.grownBy w' v.ownBlock) (ho : ∀ hs, OwnK 56 1 sl1 B w v hs → OwnK 56 1 sl1 B w' v' (hs ++ [h])) : AllR B w' v' (L ++ [y]) := by
  obtain ⟨hs, h1, h2, h3⟩ := hL
  refine ⟨hs ++ [h], ho hs h1, by rw [List.length_append, List.length_append, h2]; rfl, fun i h' y' hi hy' => ?_⟩
  rcases Nat.lt_trichotomy i L.length with hlt | heq | hgt
  · rw [List.getElem?_append_left (by omega)] at hi
    rw [List.getElem?_append_left hlt] at hy'
    exact (h3 i h' y' hi hy').but hg ((h3 i h' y' hi hy').apart h1 (by decide))
  · subst heq
    rw [List.getElem?_append_right (by omega), h2, Nat.sub_self] at hi
    rw [List.getElem?_append_right (Nat.le_refl _), Nat.sub_self] at hy'
    cases hi; cases hy'
    exact hy.but hg (hy.apart h1 (by decide))
  · rw [List.getElem?_append_right (by omega), List.getElem?_eq_none (by simp; omega)] at hi
    cases hi
end Go.Proofs.Ytnkpejinnbiocaa
