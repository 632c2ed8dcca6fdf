/-
  The texts that the laws of this seat share, merged: part 1.
-/
import Derived.BigQuiet
import Derived.ChangeSame
import Derived.Deep.DeepHandedRow
import Derived.Deep.Draws
import Derived.Deep.Grids
import Derived.Deep.QuietTactic
import Derived.Deep.RegionHeld3
import Derived.LaidSub
import Derived.Laws.AppendOwn
import Derived.Lay
import Derived.Lib.Hide
import Derived.Lib.SmallJoins
import Derived.LoopIn
import Derived.LoopNIn
import Derived.OneCell
import Derived.OpenShut
import Derived.OwnWalkIn
import Derived.ProofKit
import Derived.RangeFuncBound
import Derived.RangeFuncCalls
import Derived.RangeFuncLeaves
import Derived.RangeFuncNested
import Derived.Shelf.Abstract
import Derived.Shelf.AbstractIn
import Derived.Shelf.RegionOpen
import Derived.TacticsInMore
import Derived.Test.YtghmjdmiaajbnaaProg
import Derived.Test.YtghmjdmiaajbnaaRows
import Derived.WalkKit
import Derived.WalkSmall
import Derived.WalkSpells
/-
  A block of the memory that is known whole, and what leaves it so.
-/
namespace Go.Proofs.Ytghmjdmiaajbnaa
open Go.RowKit

/-- Block b holds these cells, and may be written. -/
def Blk (w : World) (b : Nat) (c : Array Value) (t : TypeId) : Prop := w.heap[b]? = some (.cells c t (0, 0))
theorem Blk.lt {w : World} {b : Nat} {c : Array Value} {t : TypeId} (h : Blk w b c t) : b < w.heap.size := lt_of_block h
theorem Blk.later {w wx : World} {b : Nat} {c : Array Value} {t : TypeId} (hb : Below w.heap.size w wx) (h : Blk w b c t) : Blk wx b c t := (hb.block b h.lt).trans h
theorem Blk.below {B : Nat} {w wx : World} {b : Nat} {c : Array Value} {t : TypeId} (hb : Below B w wx) (hB : b < B) (h : Blk w b c t) : Blk wx b c t := (hb.block b hB).trans h
theorem Blk.new {w : World} {n : Nat} {c : Array Value} {t : TypeId} (hn : n = w.heap.size) : Blk (w.alloc (.cells c t)) n c t := by
  subst hn
  show (w.heap.push _)[w.heap.size]? = _
  simp
theorem Blk.alloc {w : World} {o : Obj} {b : Nat} {c : Array Value} {t : TypeId} (h : Blk w b c t) : Blk (w.alloc o) b c t := by
  have := h.lt
  exact (Below.heap_alloc w o b this).trans h
theorem Blk.drewN {w : World} {n b : Nat} {c : Array Value} {t : TypeId} (h : Blk w b c t) : Blk (w.drewN n) b c t := h
theorem Blk.drew {w : World} {b : Nat} {c : Array Value} {t : TypeId} (h : Blk w b c t) : Blk w.drew b c t := h
theorem Blk.other {w : World} {a : Addr} {v : Value} {b : Nat} {c : Array Value} {t : TypeId} (h : Blk w b c t) (ha : b ≠ a.block) : Blk (w.setCell a v) b c t :=
  (Below.heap_setCell w a v b ha).trans h
theorem Blk.set {w : World} {i b : Nat} {v : Value} {c : Array Value} {t : TypeId} (h : Blk w b c t) : Blk (w.setCell ⟨b, i, none⟩ v) b (c.setIfInBounds i v) t := by
  have hlt := h.lt
  have h' : w.heap[b] = .cells c t (0, 0) := by
    have : w.heap[b]? = some (.cells c t (0, 0)) := h
    simpa [Array.getElem?_eq_getElem hlt] using this
  show (w.heap.modify b _)[b]? = _
  rw [Array.getElem?_eq_getElem (by simpa using hlt), Array.getElem_modify_self, h']
  rfl
theorem Blk.keepG {w W w1 : World} {b : Nat} {c : Array Value} {t : TypeId} {G : Prop} (hb : Below W.heap.size W w1) (k : Blk w b c t) (h : Blk w b c t → Blk W b c t) (g : Blk w1 b c t → G) : G := g (Blk.later hb (h k))
theorem Blk.cells {w : World} {b : Nat} {c : Array Value} {t : TypeId} (h : Blk w b c t) (i : Nat) : w.cell? ⟨b, i, none⟩ = c[i]? := by
  have h' : w.heap[b]? = some (.cells c t (0, 0)) := h
  simp [World.cell?, h']
theorem Blk.free {w : World} {b : Nat} {c : Array Value} {t : TypeId} (h : Blk w b c t) (i : Nat) : w.frozen? ⟨b, i, none⟩ = false := by
  have h' : w.heap[b]? = some (.cells c t (0, 0)) := h
  simp [World.frozen?, h']
theorem Blk.full {w : World} {b : Nat} {c : Array Value} {t : TypeId} (h : Blk w b c t) : Blk w b c t ∧ (∀ i : Nat, w.cell? ⟨b, i, none⟩ = c[i]?) := ⟨h, h.cells⟩
theorem Blk.read {w : World} {b : Nat} {c : Array Value} {t : TypeId} (h : Blk w b c t) : (∀ i, w.cell? ⟨b, i, none⟩ = c[i]?) ∧ (∀ i, w.frozen? ⟨b, i, none⟩ = false) := ⟨h.cells, h.free⟩
theorem belowThru {w W w1 : World} (h : Below w.heap.size w W) (hb : Below W.heap.size W w1) : Below w.heap.size w w1 := h.trans (hb.mono h.size)
theorem belowAlloc {w W : World} {o : Obj} (h : Below w.heap.size w W) : Below w.heap.size w (W.alloc o) := h.alloc h.size o
/-- What is held of two blocks, handed on. -/
theorem hold2 {w : World} {b0 b1 : Nat} {c0 c1 : Array Value} {t0 t1 : TypeId} {B D E G : Prop} (h : (Blk w b0 c0 t0 ∧ B) ∧ (Blk w b1 c1 t1 ∧ D) ∧ E) (g : Blk w b0 c0 t0 → Blk w b1 c1 t1 → E → G) : G := g h.1.1 h.2.1.1 h.2.2
theorem hold1 {w : World} {b0 : Nat} {c0 : Array Value} {t0 : TypeId} {B E G : Prop} (h : (Blk w b0 c0 t0 ∧ B) ∧ E) (g : Blk w b0 c0 t0 → E → G) : G := g h.1.1 h.2
theorem hold3 {w : World} {b0 b1 b2 : Nat} {c0 c1 c2 : Array Value} {t0 t1 t2 : TypeId} {B D F E G : Prop} (h : (Blk w b0 c0 t0 ∧ B) ∧ (Blk w b1 c1 t1 ∧ D) ∧ (Blk w b2 c2 t2 ∧ F) ∧ E) (g : Blk w b0 c0 t0 → Blk w b1 c1 t1 → Blk w b2 c2 t2 → E → G) : G := g h.1.1 h.2.1.1 h.2.2.1.1 h.2.2.2
end Go.Proofs.Ytghmjdmiaajbnaa
/-
  Layer 2: what memory holds of images; what a round of a loop over an iterator keeps.
-/
namespace Go.Proofs.Ytghmjdmiaajbnaa
open Go.RowKit
set_option linter.unusedVariables false
set_option linter.unusedSimpArgs false

/-- The cells of some numbers. -/
def ints (zs : List Int) : Array Value := (zs.map (Value.int .i64)).toArray
theorem ints_get (zs : List Int) (j : Nat) : (ints zs)[j]? = zs[j]?.map (Value.int .i64) := by simp [ints]
/-- A slice value that reads as these numbers. -/
def Reads (w : World) (v : Value) (zs : List Int) : Prop :=
  (zs = [] ∧ ∃ a c, v = .slice a 0 c) ∨ ∃ b off c, v = .slice (some ⟨b, off, none⟩) zs.length c ∧ b < w.heap.size ∧ ∀ j, j < zs.length → w.cell? ⟨b, off + j, none⟩ = some (.int .i64 (zs[j]?.getD 0))
theorem Reads.later {w w' : World} (hb : Below w.heap.size w w') {v : Value} {zs : List Int} (h : Reads w v zs) : Reads w' v zs := by
  rcases h with h | ⟨b, off, c, hv, hlt, hc⟩
  · exact .inl h
  · exact .inr ⟨b, off, c, hv, Nat.lt_of_lt_of_le hlt hb.size, fun j hj => cell_later hb (hc j hj)⟩
theorem Reads.of_blk {w : World} {b c : Nat} {zs : List Int} {t : TypeId} (h : Blk w b (ints zs) t) : Reads w (.slice (some ⟨b, 0, none⟩) zs.length c) zs := by
  refine .inr ⟨b, 0, c, rfl, h.lt, fun j hj => ?_⟩
  rw [h.cells, ints_get, Nat.zero_add, List.getElem?_eq_getElem hj]; rfl
theorem cell_alloc {w : World} {o : Obj} {a : Addr} {v : Value} (h : w.cell? a = some v) : (w.alloc o).cell? a = some v := cell_later (belowAlloc (Below.refl _ _)) h
theorem KeepsFrom.of_below {B : Nat} {W W' : World} (h : Below W.heap.size W W') : KeepsFrom B W W' :=
  ⟨h.size, fun k o _ hk _ => (h.block k (Array.getElem?_eq_some_iff.1 hk).1).trans hk⟩
theorem Below.wide {w : World} {W W' : World} (h : Below w.heap.size w W) (k : Below W.heap.size W W') : Below w.heap.size W W' := k.mono h.size
end Go.Proofs.Ytghmjdmiaajbnaa
/-
  Layer 2: ranges, quotients, places.
-/
namespace Go.Proofs.Ytghmjdmiaajbnaa
open Go.RowKit
set_option linter.unusedVariables false
set_option linter.unusedSimpArgs false

theorem ret_int {k : IntKind} {a b : Int} (h : a = b) : Ending.returned (.int k a) = .returned (.int k b) := by rw [h]
/-! ### Numbers in ranges -/
set_option maxHeartbeats 400000 in
theorem within_yes (n m : Int) (h0 : 0 ≤ m) (h1 : m ≤ 4294967296) (h : -m ≤ n ∧ n ≤ m) (w : World) :
    Calls Try.prog 95 #[.int .i64 n, .int .i64 m] w fun e w' => e = .returned (.bool true) ∧ w = w' := by
  obtain ⟨k1, k2⟩ := h
  go_enter Try.func95, Try.ntmps95
  go_wp2
  go_ret
  exact ⟨rfl, rfl⟩
set_option maxHeartbeats 400000 in
theorem within_no (n m : Int) (h0 : 0 ≤ m) (h1 : m ≤ 4294967296) (h : n < -m ∨ m < n) (w : World) :
    Calls Try.prog 95 #[.int .i64 n, .int .i64 m] w fun e w' => e = .returned (.bool false) ∧ w = w' := by
  rcases h with h | h
  · go_enter Try.func95, Try.ntmps95
    go_wp2
    go_ret
    exact ⟨rfl, rfl⟩
  · have k : -m ≤ n := by omega
    have hd : decide (n ≤ m) = false := by simp; omega
    go_enter Try.func95, Try.ntmps95
    go_wp2
    go_ret
    exact ⟨by simp, rfl⟩
/-- A number may be a value of an image. -/
def okV (n : Int) : Prop := -2147483648 ≤ n ∧ n ≤ 2147483648
instance (n : Int) : Decidable (okV n) := inferInstanceAs (Decidable (_ ∧ _))
set_option maxHeartbeats 400000 in
theorem isValue_any (n : Int) (w : World) :
    Calls Try.prog 80 #[.int .i64 n] w fun e w' => e = .returned (.bool (decide (okV n))) ∧ w = w' := by
  by_cases h : okV n
  · rw [decide_eq_true h]
    obtain ⟨h1, h2⟩ := h
    go_enter Try.func80, Try.ntmps80
    go_wp2_with (go_at_call 95; (with_reducible refine (within_yes n 2147483648 (by omega) (by omega) ⟨h1, h2⟩ _).mono ?_); rintro e w1 ⟨rfl, rfl⟩)
    go_ret
    exact ⟨rfl, rfl⟩
  · rw [decide_eq_false h]
    have h' : n < -2147483648 ∨ 2147483648 < n := by unfold okV at h; omega
    clear h
    go_enter Try.func80, Try.ntmps80
    go_wp2_with (go_at_call 95; (with_reducible refine (within_no n 2147483648 (by omega) (by omega) h' _).mono ?_); rintro e w1 ⟨rfl, rfl⟩)
    go_ret
    exact ⟨rfl, rfl⟩
/-- A number may be a side of an image. -/
def okS (n : Int) : Prop := 1 ≤ n ∧ n ≤ 16
instance (n : Int) : Decidable (okS n) := inferInstanceAs (Decidable (_ ∧ _))
set_option maxHeartbeats 400000 in
theorem isSide_any (n : Int) (w : World) :
    Calls Try.prog 79 #[.int .i64 n] w fun e w' => e = .returned (.bool (decide (okS n))) ∧ w = w' := by
  by_cases h1 : 1 ≤ n
  · by_cases h2 : n ≤ 16
    · rw [decide_eq_true (show okS n from ⟨h1, h2⟩)]
      go_enter Try.func79, Try.ntmps79
      go_wp2
      go_ret
      exact ⟨rfl, rfl⟩
    · rw [decide_eq_false (fun k : okS n => h2 k.2)]
      go_enter Try.func79, Try.ntmps79
      go_wp2
      go_ret
      exact ⟨rfl, rfl⟩
  · rw [decide_eq_false (fun k : okS n => h1 k.1)]
    go_enter Try.func79, Try.ntmps79
    go_wp2
    go_ret
    exact ⟨rfl, rfl⟩
/-- A number brought into a range. -/
def inR (n lo hi : Int) : Int := max lo (min n hi)
set_option maxHeartbeats 400000 in
theorem bring_any (n lo hi : Int) (w : World) :
    Calls Try.prog 55 #[.int .i64 n, .int .i64 lo, .int .i64 hi] w fun e w' => e = .returned (.int .i64 (inR n lo hi)) ∧ w = w' := by
  go_enter Try.func55, Try.ntmps55
  go_wp2
  all_goals
    go_ret
    exact ⟨ret_int (by unfold inR; omega), rfl⟩
end Go.Proofs.Ytghmjdmiaajbnaa
/-
  Layer 2: slices that read as lists; valid images.
-/
namespace Go.Proofs.Ytghmjdmiaajbnaa
open Go.RowKit
set_option linter.unusedVariables false
set_option linter.unusedSimpArgs false

/-- A slice that reads as these values; its address is known only where it has an element. -/
def Row (w : World) (a : Option Addr) (n : Nat) (vs : List Value) : Prop :=
  vs.length = n ∧ (0 < n → ∃ b off, a = some ⟨b, off, none⟩ ∧ b < w.heap.size ∧ ∀ j, j < n → w.cell? ⟨b, off + j, none⟩ = vs[j]?)
/-- Whole numbers, and truth values, as values. -/
def iv (zs : List Int) : List Value := zs.map (Value.int .i64)
def bv (zs : List Bool) : List Value := zs.map Value.bool
theorem iv_length (zs : List Int) : (iv zs).length = zs.length := by simp [iv]
theorem bv_length (zs : List Bool) : (bv zs).length = zs.length := by simp [bv]
theorem iv_get (zs : List Int) (j : Nat) : (iv zs)[j]? = zs[j]?.map (Value.int .i64) := by simp [iv]
theorem bv_get (zs : List Bool) (j : Nat) : (bv zs)[j]? = zs[j]?.map Value.bool := by simp [bv]
theorem Row.later {w w' : World} (hb : Below w.heap.size w w') {a : Option Addr} {n : Nat} {vs : List Value} (h : Row w a n vs) : Row w' a n vs :=
  ⟨h.1, fun hn => by
    obtain ⟨b, off, ha, hlt, hc⟩ := h.2 hn
    exact ⟨b, off, ha, Nat.lt_of_lt_of_le hlt hb.size, fun j hj => (World.cell?_of_block (w := w) (hb.block b hlt)).trans (hc j hj)⟩⟩
theorem Row.drew {w : World} {a : Option Addr} {n : Nat} {vs : List Value} (h : Row w a n vs) : Row w.drew a n vs := h
theorem Row.int {w : World} {a : Option Addr} {n : Nat} {zs : List Int} (h : Row w a n (iv zs)) {k : Nat} (hk : k < n) :
    ∃ b off z, a = some ⟨b, off, none⟩ ∧ b < w.heap.size ∧ zs[k]? = some z ∧ w.cell? ⟨b, off + k, none⟩ = some (.int .i64 z) := by
  obtain ⟨b, off, ha, hlt, hc⟩ := h.2 (by omega)
  have hl : k < zs.length := by have := h.1; rw [iv_length] at this; omega
  refine ⟨b, off, zs[k], ha, hlt, List.getElem?_eq_getElem hl, ?_⟩
  rw [hc k hk, iv_get, List.getElem?_eq_getElem hl]; rfl
theorem Row.bool {w : World} {a : Option Addr} {n : Nat} {zs : List Bool} (h : Row w a n (bv zs)) {k : Nat} (hk : k < n) :
    ∃ b off z, a = some ⟨b, off, none⟩ ∧ b < w.heap.size ∧ zs[k]? = some z ∧ w.cell? ⟨b, off + k, none⟩ = some (.bool z) := by
  obtain ⟨b, off, ha, hlt, hc⟩ := h.2 (by omega)
  have hl : k < zs.length := by have := h.1; rw [bv_length] at this; omega
  refine ⟨b, off, zs[k], ha, hlt, List.getElem?_eq_getElem hl, ?_⟩
  rw [hc k hk, bv_get, List.getElem?_eq_getElem hl]; rfl
theorem Row.of_blk {w : World} {b : Nat} {zs : List Int} {t : TypeId} (h : Blk w b (ints zs) t) : Row w (some ⟨b, 0, none⟩) zs.length (iv zs) :=
  ⟨iv_length zs, fun _ => ⟨b, 0, rfl, h.lt, fun j _ => by rw [h.cells, ints_get, iv_get, Nat.zero_add]⟩⟩
theorem Row.nil (w : World) (a : Option Addr) : Row w a 0 [] := ⟨rfl, fun h => absurd h (by omega)⟩

/-- An image with these sides and values is valid. -/
def okI (W H : Int) (zs : List Int) : Prop := (okS W ∧ okS H) ∧ (zs.length : Int) = W * H ∧ ∀ z ∈ zs, okV z
instance (W H : Int) (zs : List Int) : Decidable (okI W H zs) := inferInstanceAs (Decidable (_ ∧ _))
def ckI (W H : Int) (zs : List Int) : Int := if okI W H zs then 0 else 20
theorem ckI_ok {W H : Int} {zs : List Int} (h : okI W H zs) : ckI W H zs = 0 := if_pos h
theorem ckI_no {W H : Int} {zs : List Int} (h : ¬ okI W H zs) : ckI W H zs = 20 := if_neg h
/-- The first numbers are all values of an image. -/
def Upto (zs : List Int) (k : Nat) : Prop := ∀ z ∈ zs.take k, okV z
theorem Upto.zero (zs : List Int) : Upto zs 0 := fun z h => by simp at h
theorem Upto.snoc {zs : List Int} {k : Nat} {z : Int} (h : Upto zs k) (hz : zs[k]? = some z) (ok : okV z) : Upto zs (k + 1) := by
  unfold Upto
  rw [List.take_add_one, hz]
  intro x hx
  rcases List.mem_append.1 hx with k | k
  · exact h x k
  · simp at k; subst k; exact ok
theorem Upto.all {zs : List Int} {k : Nat} (h : Upto zs k) (hk : zs.length ≤ k) : ∀ z ∈ zs, okV z := by
  unfold Upto at h; rwa [List.take_of_length_le hk] at h
theorem okS_mul {W H : Int} (h1 : okS W) (h2 : okS H) : 1 ≤ W * H ∧ W * H ≤ 256 := by
  obtain ⟨a, b⟩ := h1
  obtain ⟨c, d⟩ := h2
  have h1 := Int.mul_le_mul a c (by omega) (by omega)
  have h2 := Int.mul_le_mul b d (by omega) (by omega)
  omega
end Go.Proofs.Ytghmjdmiaajbnaa
/-
  What every plain law of the seat asks beside its walk, whatever its arguments: the answer true in a world in which all that was there reads as before.
-/
namespace Go.Proofs.Ytghmjdmiaajbnaa
open Go.ChangeShapes Go.WideShapes Go.ChangeAt Go.RowKit
set_option linter.unusedVariables false
set_option linter.unusedSimpArgs false

theorem own : ownKnob Try.prog.godebug = none := by kernel_rfl
theorem laidOut : laidOutB Try.prog = true := by kernel_rfl

section
variable {H : Type} {enc : TypeId × Value → H}
/-- All that was there reads as before. -/
theorem trodAll_keep {P : Program} (hl : laidOutB P = true) {W W' : World} (hb : Below W.heap.size W W') (sp : Nat → Bool) (ts : List TypeId) :
    ∀ (vs : List Value) (ds : List (DataW H)) (ps : List MemPlace), (ts.all fun t => P.readableRec t && decide (t < P.types.size)) = true → DataW.TrodAll enc P W 0 (fun _ => true) true ts vs ds ps → (∀ x ∈ ps, x.block < W.heap.size) → (∀ x ∈ ps, sp x.block = true) →
    DataW.TrodAll enc P W' 0 sp true ts vs ds ps := by
  induction ts with
  | nil =>
    intro vs ds ps _ h _ _
    obtain ⟨rfl, rfl, rfl⟩ := trodAll_nil h
    exact trodAll_mk0
  | cons t ts ih =>
    intro vs ds ps hr h hlt hsp
    obtain ⟨v, vs, d, ds, p, q, rfl, rfl, rfl, h0, h1⟩ := trodAll_cons h
    rw [List.all_cons, Bool.and_eq_true, Bool.and_eq_true, decide_eq_true_eq] at hr
    exact trodAll_cons_mk (WideElems.Trod_stays hl hr.1.1 hr.1.2 h0 (fun x hx => hb.same (hlt x (List.mem_append_left _ hx))) (fun x hx => hsp x (List.mem_append_left _ hx)))
      (ih vs ds q hr.2 h1 (fun x hx => hlt x (List.mem_append_right _ hx)) (fun x hx => hsp x (List.mem_append_right _ hx)))

set_option maxRecDepth 100000 in
/-- The answer is true, and what was there is as it was. -/
theorem post_keep {fn : Func} {s : ChangeSpec} {apart : Bool} {W W' : World} {args : Array Value} {ds : List (DataW H)} {before : List MemPlace}
    (hW : DataW.Whole enc Try.prog fn.params.toList s.vars apart W args.toList ds [] before) (hv : s.vars = []) (hr : fn.resultTypes = #[4])
    (hs : s.fn H ds = { results := [.lit (.bool true)], args := ds })
    (hp : (fn.params.toList.all fun t => Try.prog.readableRec t && decide (t < Try.prog.types.size)) = true)
    (hb : Below W.heap.size W W') : s.post enc Try.prog fn apart true false false W args (.bool true) W' := by
  have hbool : Try.prog.underlying 4 = some .bool := by kernel_rfl
  have hlt : ∀ p ∈ before, p.block < W.heap.size := fun p hp => hW.lt p hp
  have hold : ∀ p ∈ before, (fun b => decide (b < W.heap.size)) p.block = true := fun p hp => by simpa using hlt p hp
  have hW0 := hW
  obtain ⟨pa, pv, hA, hV, rfl, hz, hn⟩ := hW0
  have hV' := hV
  rw [hv] at hV'
  obtain ⟨-, rfl⟩ := trodVars_none hV'
  have hres : ∀ (b : Nat) (sp : Nat → Bool) (hd : Bool), DataW.TrodAll enc Try.prog W' b sp hd fn.resultTypes.toList ((Value.bool true).resultList fn.resultTypes.size) (s.fn H (ds ++ [])).results [] := by
    intro b sp hd
    rw [List.append_nil, hs, hr]
    exact trodAll_cons_mk (shut_bool hbool _) trodAll_mk0
  have hargs : ∀ sp : Nat → Bool, (∀ p ∈ pa, sp p.block = true) → DataW.TrodAll enc Try.prog W' 0 sp true fn.params.toList args.toList (s.fn H (ds ++ [])).args pa := by
    intro sp hsp
    rw [List.append_nil, hs]
    exact trodAll_keep laidOut hb sp _ _ _ _ hp hA (fun x hx => hlt x (by simpa using hx)) hsp
  have hvars : ∀ sp : Nat → Bool, DataW.TrodVars enc Try.prog W' sp s.vars (s.fn H (ds ++ [])).vars [] := by
    intro sp
    rw [hv, List.append_nil, hs]
    exact rfl
  have hk : Value.okWide Try.prog W' .any 0 4 (.bool true) := okWide_bool_mk hbool true
  have hok := ok_one (P := Try.prog) (W' := W') (f := fn) (v := .bool true) hr (by simp [Value.resultList]) hk
  refine ⟨ds, [], pa ++ [], [], pa, [], hW, hres _ _ _, hargs _ (fun p hp => hold p (by simpa using hp)), hvars _, World.keptBut_mono (fun p hp => ⟨hp, ?_⟩) (hb.frame (· ∈ pa ++ [])), fun _ => ?_⟩
  · rw [List.mem_append] at hp
    exact Or.inr hp
  · refine ⟨hok, _, _, ([] ++ pa) ++ [], ⟨[] ++ pa, [], trodAll_append (hargs _ (fun _ _ => rfl)) (hres _ _ _), hvars _, rfl, ?_, ?_⟩, ?_⟩
    · intro b off hp
      have hin : MemPlace.cell b off ∈ pa ++ [] := by simpa using hp
      rw [hb.frozen (hlt _ hin)]
      exact hz b off hin
    · intro ha
      have := hn ha
      simpa using this
    · intro p hp _
      simpa using hp

/-! ### An image among the arguments -/
/-- Whole numbers that came in: a slice value that reads as them. -/
theorem open_row {W : World} {fuel : Nat} {v : Value} {x : DataW H × List MemPlace} (h : DataW.trod enc Try.prog W 0 (fun _ => true) true fuel 22 [v] = some x) :
    ∃ (a : Option Addr) (n c : Nat) (zs : List Int), v = .slice a n c ∧ n ≤ c ∧ c ≤ maxLen ∧ Row W a n (iv zs) ∧ ((x.1.weights Try.prog 22).all (· ≤ reachBytes) = true → n * 8 ≤ 140737488351232) := by
  rcases open_ints Try.underlying22 Try.underlying3 (by kernel_rfl) h with ⟨hcs, _⟩ | ⟨a, len, cap, zs, hcs, _, hl, hm, hz, hxx, hcell, hwz⟩
  · simp only [List.cons.injEq, and_true] at hcs
    exact ⟨none, 0, 0, [], hcs, Nat.le_refl _, Nat.zero_le _, Row.nil _ _, fun _ => by omega⟩
  · simp only [List.cons.injEq, and_true] at hcs
    have hz' : zs.length = cap := by simpa using hz
    have hlen : (zs.take len).length = len := by rw [List.length_take]; omega
    refine ⟨some a, len, cap, zs.take len, hcs, hl, hm, ⟨by rw [iv_length]; exact hlen, fun h0 => ?_⟩, fun hw => ?_⟩
    case refine_2 =>
      rw [hxx] at hw
      simp only [DataW.weights, Try.underlying22, List.all_cons, Bool.and_eq_true, decide_eq_true_eq] at hw
      have hb : Try.prog.bytesOf 3 = 8 := by kernel_rfl
      have h1 := hw.1
      rw [hb] at h1
      simp only [lits, List.length_map, List.length_take, List.length_drop] at h1
      unfold reachBytes at h1
      omega
    obtain ⟨b, off, rfl, hc⟩ := ints_at hcell (by omega)
    refine ⟨b, off, rfl, ?_, fun j hj => ?_⟩
    · have := hc 0 (by omega)
      unfold World.cell? at this
      by_cases hb : b < W.heap.size
      · exact hb
      · simp [Array.getElem?_eq_none (show W.heap.size ≤ b by omega)] at this
    · have := hc j (by omega)
      rw [this, iv_get, List.getElem?_take_of_lt hj, List.getD_eq_getElem?_getD, List.getElem?_eq_getElem (show j < zs.length by omega)]
      rfl
set_option maxRecDepth 100000 in
/-- An image that came in. -/
theorem open_image {W : World} {b0 : Nat} {r : Reach} {v : Value} {d : DataW H} {p : List MemPlace} (hval : Value.okWide Try.prog W r b0 24 v) (h : DataW.Trod enc Try.prog W 0 (fun _ => true) true 24 v d p) :
    ∃ (w h : Int) (a : Option Addr) (n c : Nat) (zs : List Int), v = .agg #[.int .i64 w, .int .i64 h, .slice a n c] ∧ (Lit.int .i64 w).wf = true ∧ (Lit.int .i64 h).wf = true ∧ n ≤ c ∧ c ≤ maxLen ∧ Row W a n (iv zs) ∧ ((d.weights Try.prog 24).all (· ≤ reachBytes) = true → n * 8 ≤ 140737488351232) := by
  obtain ⟨v0, v1, v2, y0, y1, y2, n, rfl, rfl, rfl, h0, h1, h2⟩ := Joins.open_agg3 Try.underlying24 (by kernel_rfl) (by kernel_rfl) hval h
  obtain ⟨w, e0, hy0, w0⟩ := DataW.trod_int Try.underlying3 h0
  obtain ⟨g, e1, hy1, w1⟩ := DataW.trod_int Try.underlying3 h1
  obtain ⟨a, m, c, zs, rfl, q1, q2, q3, q4⟩ := open_row h2
  simp only [List.cons.injEq, and_true] at e0 e1
  subst e0 e1
  refine ⟨w, g, a, m, c, zs, rfl, w0, w1, q1, q2, q3, fun hw => q4 ?_⟩
  simp only [DataW.weights, Try.underlying24, DataW.weightsEach, List.map_cons, List.map_nil, List.append_nil, List.all_append, Bool.and_eq_true] at hw
  exact hw.2.2

/-! ### A struct of whole numbers among the arguments -/
def numV : Value → Int
  | .int _ n => n
  | _ => 0
theorem open_nums {P : Program} {ti : TypeId} (hti : P.underlying ti = some (.int .i64)) {W : World} {b0 : Nat} {r : Reach} {t : TypeId} {fs : Array Field} {v : Value} {d : DataW H} {p : List MemPlace} (hs : P.underlying t = some (.struct fs)) (hone : Deep.oneCellFields P fs = true) (hC : P.cellsOf t = fs.size) (hty : (fs.all fun f => f.type == ti) = true)
    (hval : Value.okWide P W r b0 t v) (h : DataW.Trod enc P W 0 (fun _ => true) true t v d p) :
    ∃ zs : List Int, zs.length = fs.size ∧ v = .agg (ints zs) ∧ ∀ z ∈ zs, (Lit.int .i64 z).wf = true := by
  obtain ⟨cs, rfl, hsz⟩ := okWide_struct hs hval
  obtain ⟨fuel, hf⟩ := h
  obtain ⟨xs, n, _, hx, _, hlen, hg⟩ := DataW.trod_struct hs hf
  have each : ∀ j, j < cs.size → ∃ z, cs[j]? = some (.int .i64 z) ∧ (Lit.int .i64 z).wf = true := by
    intro j hj
    have hjf : j < fs.size := by omega
    have hfj : fs[j]? = some fs[j] := Array.getElem?_eq_getElem hjf
    obtain ⟨ho, hk⟩ := Deep.hone_of hone j fs[j] hfj
    have h1 := hg j fs[j] hfj
    have ht : fs[j].type = ti := by simpa using (Array.all_eq_true.1 hty) j hjf
    rw [ho, hk, ht] at h1
    have e : ((Value.agg cs).cells.toList.drop j).take 1 = [cs[j]] := by
      show (cs.toList.drop j).take 1 = _
      rw [List.drop_eq_getElem_cons (by simpa using hj)]
      simp
    rw [e, List.getElem?_eq_getElem (show j < xs.length by omega)] at h1
    obtain ⟨z, hz, -, wz⟩ := DataW.trod_int hti h1
    simp only [List.cons.injEq, and_true] at hz
    exact ⟨z, by rw [Array.getElem?_eq_getElem hj, hz], wz⟩
  refine ⟨cs.toList.map numV, by simp; omega, ?_, ?_⟩
  · congr 1
    apply Array.ext'
    apply List.ext_getElem?
    intro j
    unfold ints
    simp only [List.map_map, List.getElem?_map]
    by_cases hj : j < cs.size
    · obtain ⟨z, hz, -⟩ := each j hj
      rw [Array.getElem?_toList, hz]; rfl
    · rw [List.getElem?_eq_none (by simpa using hj)]; rfl
  · intro z hz
    obtain ⟨u, hu, rfl⟩ := List.mem_map.1 hz
    obtain ⟨j, hj, rfl⟩ := List.mem_iff_getElem.1 hu
    obtain ⟨z, hz', wz⟩ := each j (by simpa using hj)
    have : cs.toList[j] = .int .i64 z := by
      have h2 : cs.toList[j]? = some (.int .i64 z) := by rw [Array.getElem?_toList, hz']
      rw [List.getElem?_eq_getElem hj] at h2; exact Option.some.inj h2
    rw [this]; exact wz
end
end Go.Proofs.Ytghmjdmiaajbnaa
/-
  A shape among the arguments.
-/
namespace Go.Proofs.Ytghmjdmiaajbnaa
open Go.ChangeShapes Go.WideShapes Go.ChangeAt Go.RowKit
set_option linter.unusedVariables false
set_option linter.unusedSimpArgs false
variable {H : Type} {enc : TypeId × Value → H}

theorem open_brow {W : World} {fuel : Nat} {v : Value} {x : DataW H × List MemPlace} (h : DataW.trod enc Try.prog W 0 (fun _ => true) true fuel 41 [v] = some x) :
    ∃ (a : Option Addr) (n c : Nat) (zs : List Bool), v = .slice a n c ∧ n ≤ c ∧ c ≤ maxLen ∧ Row W a n (bv zs) := by
  rcases Go.Deep.open_bools Try.underlying41 Try.underlying4 (by kernel_rfl) h with ⟨hcs, _⟩ | ⟨a, len, cap, B, hcs, _, hl, hm, _, hcell⟩
  · simp only [List.cons.injEq, and_true] at hcs
    exact ⟨none, 0, 0, [], hcs, Nat.le_refl _, Nat.zero_le _, Row.nil _ _⟩
  · simp only [List.cons.injEq, and_true] at hcs
    refine ⟨some a, len, cap, (List.range len).map B, hcs, hl, hm, ⟨by rw [bv_length]; simp, fun h0 => ?_⟩⟩
    obtain ⟨b, off, spot⟩ := a
    have hspot : spot = none := by simpa [Addr.add] using World.cell?_spot (hcell 0 (by omega))
    subst hspot
    refine ⟨b, off, rfl, ?_, fun j hj => ?_⟩
    · have := hcell 0 (by omega)
      rw [Go.WideShapes.add_plain] at this
      unfold World.cell? at this
      by_cases hb : b < W.heap.size
      · exact hb
      · simp [Array.getElem?_eq_none (show W.heap.size ≤ b by omega)] at this
    · rw [← Go.WideShapes.add_plain, hcell j (by omega), bv_get]
      simp [hj]
set_option maxRecDepth 100000 in
/-- A shape that came in. -/
theorem open_shape {W : World} {b0 : Nat} {r : Reach} {v : Value} {d : DataW H} {p : List MemPlace} (hval : Value.okWide Try.prog W r b0 43 v) (h : DataW.Trod enc Try.prog W 0 (fun _ => true) true 43 v d p) :
    ∃ (w h : Int) (a : Option Addr) (n c : Nat) (zs : List Bool), v = .agg #[.int .i64 w, .int .i64 h, .slice a n c] ∧ (Lit.int .i64 w).wf = true ∧ (Lit.int .i64 h).wf = true ∧ n ≤ c ∧ c ≤ maxLen ∧ Row W a n (bv zs) := by
  obtain ⟨v0, v1, v2, y0, y1, y2, n, rfl, rfl, rfl, h0, h1, h2⟩ := Joins.open_agg3 Try.underlying43 (by kernel_rfl) (by kernel_rfl) hval h
  obtain ⟨w, e0, hy0, w0⟩ := DataW.trod_int Try.underlying3 h0
  obtain ⟨g, e1, hy1, w1⟩ := DataW.trod_int Try.underlying3 h1
  obtain ⟨a, m, c, zs, rfl, q1, q2, q3⟩ := open_brow h2
  simp only [List.cons.injEq, and_true] at e0 e1
  subst e0 e1
  exact ⟨w, g, a, m, c, zs, rfl, w0, w1, q1, q2, q3⟩
end Go.Proofs.Ytghmjdmiaajbnaa
/-
  Layer 2: places and pixels.
-/
namespace Go.Proofs.Ytghmjdmiaajbnaa
open Go.RowKit
set_option linter.unusedVariables false
set_option linter.unusedSimpArgs false

set_option maxHeartbeats 400000 in
theorem plus_any (x y a b : Int) (hx : -4294967296 ≤ x ∧ x ≤ 4294967296) (hy : -4294967296 ≤ y ∧ y ≤ 4294967296) (ha : -4294967296 ≤ a ∧ a ≤ 4294967296) (hb : -4294967296 ≤ b ∧ b ≤ 4294967296) (w : World) :
    Calls Try.prog 66 #[.agg #[.int .i64 x, .int .i64 y], .agg #[.int .i64 a, .int .i64 b]] w fun e w' => e = .returned (.agg #[.int .i64 (x + a), .int .i64 (y + b)]) ∧ Below w.heap.size w w' := by
  go_enter Try.func66, Try.ntmps66
  go_wp2
  exact bodyPost_ret (v := .agg #[.int .i64 (x + a), .int .i64 (y + b)]) (by simp only [results, Try.results66]; go_simp) rfl ⟨rfl, by (repeat' (first | (with_reducible exact Below.refl _ _) | (with_reducible assumption) | (with_reducible refine belowThru ?_ (by assumption)) | (with_reducible refine belowAlloc ?_) | (with_reducible refine Below.setCell ?_ (by first | omega | (simp; done) | (simp; omega)) _) | (with_reducible refine Below.drew ?_) | (with_reducible refine below_drewN ?_ _)))⟩
set_option maxHeartbeats 400000 in
theorem minus_any (x y a b : Int) (hx : -4294967296 ≤ x ∧ x ≤ 4294967296) (hy : -4294967296 ≤ y ∧ y ≤ 4294967296) (ha : -4294967296 ≤ a ∧ a ≤ 4294967296) (hb : -4294967296 ≤ b ∧ b ≤ 4294967296) (w : World) :
    Calls Try.prog 64 #[.agg #[.int .i64 x, .int .i64 y], .agg #[.int .i64 a, .int .i64 b]] w fun e w' => e = .returned (.agg #[.int .i64 (x - a), .int .i64 (y - b)]) ∧ Below w.heap.size w w' := by
  go_enter Try.func64, Try.ntmps64
  go_wp2
  exact bodyPost_ret (v := .agg #[.int .i64 (x - a), .int .i64 (y - b)]) (by simp only [results, Try.results64]; go_simp) rfl ⟨rfl, by (repeat' (first | (with_reducible exact Below.refl _ _) | (with_reducible assumption) | (with_reducible refine belowThru ?_ (by assumption)) | (with_reducible refine belowAlloc ?_) | (with_reducible refine Below.setCell ?_ (by first | omega | (simp; done) | (simp; omega)) _) | (with_reducible refine Below.drew ?_) | (with_reducible refine below_drewN ?_ _)))⟩

/-- A product of small numbers. -/
theorem small_mul (y W : Int) (y0 : 0 ≤ y) (y1 : y ≤ 64) (w0 : 0 ≤ W) (w1 : W ≤ 64) : 0 ≤ y * W ∧ y * W ≤ 4096 :=
  ⟨Int.mul_nonneg y0 w0, Int.le_trans (Int.mul_le_mul y1 w1 w0 (by omega)) (by omega)⟩

set_option maxHeartbeats 400000 in
theorem index_any (W H x y : Int) (p : Nat) (a : Option Addr) (n c : Nat) (hP : Hid (y * W + x = (p : Int))) (y0 : 0 ≤ y) (y1 : y ≤ 64) (w0 : 0 ≤ W) (w1 : W ≤ 64) (x0 : 0 ≤ x) (x1 : x ≤ 64) (w : World) :
    Calls Try.prog 96 #[.agg #[.int .i64 W, .int .i64 H, .slice a n c], .agg #[.int .i64 x, .int .i64 y]] w fun e w' => e = .returned (.int .i64 p) ∧ Below w.heap.size w w' := by
  obtain ⟨m0, m1⟩ := small_mul y W y0 y1 w0 w1
  rw [← hP.out]
  clear hP
  go_enter Try.func96, Try.ntmps96
  go_wp2
  go_ret
  exact ⟨rfl, by (repeat' (first | (with_reducible exact Below.refl _ _) | (with_reducible assumption) | (with_reducible refine belowThru ?_ (by assumption)) | (with_reducible refine belowAlloc ?_) | (with_reducible refine Below.setCell ?_ (by first | omega | (simp; done) | (simp; omega)) _) | (with_reducible refine Below.drew ?_) | (with_reducible refine below_drewN ?_ _)))⟩

set_option maxHeartbeats 1000000 in
/-- The value of a pixel. -/
theorem at_any (W H x y : Int) (p b off n c : Nat) (v : Int) (hP : Hid (y * W + x = (p : Int))) (y0 : 0 ≤ y) (y1 : y ≤ 64) (w0 : 0 ≤ W) (w1 : W ≤ 64) (x0 : 0 ≤ x) (x1 : x ≤ 64) (hp : p < n) (w : World) (hc : w.cell? ⟨b, off + p, none⟩ = some (.int .i64 v)) :
    Calls Try.prog 57 #[.agg #[.int .i64 W, .int .i64 H, .slice (some ⟨b, off, none⟩) n c], .agg #[.int .i64 x, .int .i64 y]] w fun e w' => e = .returned (.int .i64 v) ∧ Below w.heap.size w w' := by
  have HC := Lib.hid hc
  have HI := Lib.hid (fun w => index_any W H x y p (some ⟨b, off, none⟩) n c hP y0 y1 w0 w1 x0 x1 w)
  have p0 : (0 : Int) ≤ (p : Int) := by omega
  have p1 : (p : Int) < (n : Int) := by omega
  clear hP y0 y1 w0 w1 x0 x1 hc
  go_enter Try.func57, Try.ntmps57
  go_wp2
  go_region_held3 (fun w' => (Blk w' w.heap.size #[.int .i64 W, .int .i64 H, .slice (some ⟨b, off, none⟩) n c] 86 ∧ (∀ i : Nat, w'.cell? ⟨w.heap.size, i, none⟩ = (#[.int .i64 W, .int .i64 H, .slice (some ⟨b, off, none⟩) n c] : Array Value)[i]?)) ∧ (Blk w' (w.heap.size + 1) #[.int .i64 x, .int .i64 y] 83 ∧ (∀ i : Nat, w'.cell? ⟨w.heap.size + 1, i, none⟩ = (#[.int .i64 x, .int .i64 y] : Array Value)[i]?)) ∧ w'.cell? ⟨b, off + p, none⟩ = some (.int .i64 v) ∧ Below w.heap.size w w')
    (((first | (apply hold2; (focus assumption); intro p0 p1 pB; obtain ⟨pc, pB⟩ := pB) | skip); refine ⟨Blk.full ?_, Blk.full ?_, ?_, ?_⟩; all_goals (first | ((repeat' (first | (with_reducible assumption) | ((with_reducible refine Blk.new ?_); first | rfl | (simp; done)) | (with_reducible refine Blk.later (by assumption) ?_) | (with_reducible refine Blk.alloc ?_) | (with_reducible refine Blk.drewN ?_) | (with_reducible refine Blk.drew ?_) | (with_reducible refine Blk.other ?_ (by first | omega | (simp; done) | (simp; omega))))); done) | ((repeat' (first | (with_reducible exact Below.refl _ _) | (with_reducible assumption) | (with_reducible refine belowThru ?_ (by assumption)) | (with_reducible refine belowAlloc ?_) | (with_reducible refine Below.setCell ?_ (by first | omega | (simp; done) | (simp; omega)) _) | (with_reducible refine Below.drew ?_) | (with_reducible refine below_drewN ?_ _))); done) | (exact cell_later (by (repeat' (first | (with_reducible exact Below.refl _ _) | (with_reducible assumption) | (with_reducible refine belowThru ?_ (by assumption)) | (with_reducible refine belowAlloc ?_) | (with_reducible refine Below.setCell ?_ (by first | omega | (simp; done) | (simp; omega)) _) | (with_reducible refine Below.drew ?_) | (with_reducible refine below_drewN ?_ _)))) HC.out))))
    (first
    | (go_at_call 96; (with_reducible refine (HI.out _).mono ?_); rintro e w1 ⟨rfl, hb⟩))
  all_goals
    apply hold2; (focus assumption); intro p0 p1 pB; obtain ⟨pc, pB⟩ := pB
    go_wp2_with fail
    go_ret
    exact ⟨rfl, pB⟩
end Go.Proofs.Ytghmjdmiaajbnaa
/-
  Layer 2: the iterator over the pixels of an image.
-/
namespace Go.Proofs.Ytghmjdmiaajbnaa
open Go.RowKit Go.Shelf
set_option linter.unusedVariables false
set_option linter.unusedSimpArgs false

attribute [local go_sem] Oper.semAt_some

/-- What lies there of an image that is gone through: its box, and of each value what R says. -/
def PixG (Bm b off len c : Nat) (Wd Hd : Int) (R : Nat → Int → Prop) (W : World) : Prop :=
  W.cell? ⟨Bm, 0, none⟩ = some (.int .i64 Wd) ∧ W.cell? ⟨Bm, 1, none⟩ = some (.int .i64 Hd) ∧ W.cell? ⟨Bm, 2, none⟩ = some (.slice (some ⟨b, off, none⟩) len c) ∧ ∀ j, j < len → ∃ z, R j z ∧ W.cell? ⟨b, off + j, none⟩ = some (.int .i64 z)
/-- An element that the iterator hands on: an index below the length, and its value. -/
abbrev Pel (len : Nat) (R : Nat → Int → Prop) := { x : Nat × Int // x.1 < len ∧ R x.1 x.2 }
def pxEnc {len : Nat} {R : Nat → Int → Prop} (Wd : Int) (x : Pel len R) : Array Value := #[.agg #[.int .i64 ((x.1.1 : Int) % Wd), .int .i64 ((x.1.1 : Int) / Wd)], .int .i64 x.1.2]
/-- All of them have come, in order. -/
def PixAll {len : Nat} {R : Nat → Int → Prop} (k : Nat) (xs : List (Pel len R)) : Prop := xs.map (fun x => x.1.1) = List.range k
theorem PixAll.snoc {len : Nat} {R : Nat → Int → Prop} {k : Nat} {xs : List (Pel len R)} (h : PixAll k xs) (x : Pel len R) (hx : x.1.1 = k) : PixAll (k + 1) (xs ++ [x]) := by
  unfold PixAll at *
  rw [List.map_append, h, List.range_succ, List.map_singleton, hx]
theorem PixAll.length {len : Nat} {R : Nat → Int → Prop} {k : Nat} {xs : List (Pel len R)} (h : PixAll k xs) : xs.length = k := by
  have := congrArg List.length h
  simpa using this
theorem PixG.drew {Bm b off len c : Nat} {Wd Hd : Int} {R : Nat → Int → Prop} {W : World} (h : PixG Bm b off len c Wd Hd R W) : PixG Bm b off len c Wd Hd R W.drew := h

/-- The word of a round, in one piece. -/
def Went (J Jx : World → Prop) (g : Bool) (W : World) : Prop := (g = true ∧ J W) ∨ (g = false ∧ Jx W)

theorem small_div (k : Nat) (Wd : Int) (h : 1 ≤ Wd) (hk : (k : Int) ≤ 4096) : IntKind.i64.wrap ((k : Int) / Wd) = (k : Int) / Wd ∧ (k : Int).tmod Wd = (k : Int) % Wd ∧ 0 ≤ (k : Int) / Wd ∧ (k : Int) / Wd ≤ k ∧ 0 ≤ (k : Int) % Wd ∧ (k : Int) % Wd < Wd := by
  have a := Int.ediv_nonneg (show (0 : Int) ≤ k by omega) (show 0 ≤ Wd by omega)
  have b := Int.ediv_le_self Wd (show (0 : Int) ≤ k by omega)
  have c := Int.emod_nonneg (k : Int) (show Wd ≠ 0 by omega)
  have d := Int.emod_lt_of_pos (k : Int) (show 0 < Wd by omega)
  have f : (k : Int) % Wd ≤ k := by
    have := Int.mul_ediv_add_emod (k : Int) Wd
    have := Int.mul_nonneg (show 0 ≤ Wd by omega) a
    omega
  exact ⟨IntWalk.i64_in _ (by omega), Int.tmod_eq_emod_of_nonneg (by omega), a, b, c, d⟩

set_option maxRecDepth 100000 in
set_option maxHeartbeats 2000000 in
theorem pix1_in (n l Bm b off len c : Nat) (Wd Hd : Int) (R : Nat → Int → Prop) (hn : 1 ≤ n) (hW : 1 ≤ Wd) (hlen : len ≤ 4096) (J Jx : List (Pel len R) → World → Prop) (B : Nat)
    (hJ : AbidesFrom B J)
    (hY : ∀ pre x W, J pre W → pre.length < len → YieldAt Fence.wide (n - 1) Try.prog l (pxEnc Wd x) W fun e W' =>
      (e = .returned (.bool true) ∧ J (pre ++ [x]) W' ∧ (PixG Bm b off len c Wd Hd R W → PixG Bm b off len c Wd Hd R W')) ∨ (e = .returned (.bool false) ∧ Jx (pre ++ [x]) W'))
    (W : World) (hG : PixG Bm b off len c Wd Hd R W) (h0 : J [] W) :
    CallsIn Fence.wide n Try.prog 110 #[.func (.yield l) #[] #[], .pointer (some ⟨Bm, 0, none⟩)] W fun e W' => (∃ v, e = .returned v) ∧
      ((∃ xs, PixAll len xs ∧ J xs W') ∨ (∃ pre, True ∧ Jx pre W')) := by
  have HY := Lib.hid hY
  clear hY
  have hmx : Try.prog.follows .mixedOrders = true := by kernel_rfl
  obtain ⟨g0, g1, g2, g3⟩ := hG
  have HG := Lib.hid (⟨g0, g1, g2, g3⟩ : PixG Bm b off len c Wd Hd R W)
  clear g3
  refine callsIn_of_wp Try.func110 rfl trivial ?_ rfl
  simp only [Try.ntmps110, List.size_toArray, List.length_cons, List.length_nil, Nat.reduceAdd, Nat.reduceSub, Array.replicate_succ, Array.replicate_zero, List.push_toArray, List.append_toArray, List.nil_append, List.cons_append]
  gi_wp2
  clear g0 g1 g2
  gi_loopw [8] (fun i wr => ∃ k : Nat, k ≤ len ∧ i = .int .i64 k ∧ ∃ pre, PixAll k pre ∧ J pre wr ∧ Hid (PixG Bm b off len c Wd Hd R wr))
    (fun i _ => len - (intOf i).toNat)
  case atStart => exact ⟨0, Nat.zero_le _, rfl, [], rfl, h0, HG⟩
  case round =>
    obtain ⟨k, hk, rfl, pre, hpre, hJs, HG'⟩ := hrel
    clear HG h0
    by_cases hlt : k < len
    · obtain ⟨c0, c1, c2, c3⟩ := HG'.out
      obtain ⟨z, hz, cz⟩ := c3 k hlt
      clear c3
      obtain ⟨v1, v2, v3, v4, v5, v6⟩ := small_div k Wd hW (by omega)
      have hne : ¬ Wd = 0 := by omega
      have hJd : J pre wr.drew := hJ pre wr wr.drew none hJs ⟨rfl, rfl, rfl, Nat.le_refl _, fun _ _ _ => rfl⟩ (fun r e => by cases e)
      obtain ⟨fn, tmps, assign, body, hy, hR⟩ := HY.out pre ⟨(k, z), hlt, hz⟩ wr.drew hJd (by rw [hpre.length]; exact hlt)
      dsimp only [pxEnc] at hy
      have hR' : RoundIn Fence.wide (n - 1) Try.prog l fn tmps assign body wr.drew (fun e W' => ∃ g, e = .returned (.bool g) ∧ Went (fun W' => J (pre ++ [⟨(k, z), hlt, hz⟩]) W' ∧ Hid (PixG Bm b off len c Wd Hd R W')) (fun W' => Jx (pre ++ [⟨(k, z), hlt, hz⟩]) W') g W') := by
        refine hR.mono ?_
        rintro e W3 (⟨rfl, hJ3, hk3⟩ | ⟨rfl, hJx3⟩)
        · exact ⟨true, rfl, .inl ⟨rfl, hJ3, Lib.hid (hk3 HG'.out.drew)⟩⟩
        · exact ⟨false, rfl, .inr ⟨rfl, hJx3⟩⟩
      clear hR
      gi_wp2
      gi_region_with_o (refine hR'.mono ?_; rintro e W3 ⟨g, rfl, hW3⟩)
      all_goals
        rcases hW3 with ⟨rfl, hJ3, hG3⟩ | ⟨rfl, hJx3⟩
        · gi_wp2
          go_roundw
          case rel => exact ⟨k + 1, by omega, by go_num, _, hpre.snoc _ rfl, hJ3, hG3⟩
          case measure => simp [intOf]; omega
        · gi_wp2
          refine bodyPost_ret (results_none rfl _ _ _) rfl ?_
          exact ⟨⟨_, rfl⟩, .inr ⟨_, trivial, hJx3⟩⟩
    · obtain rfl : k = len := by omega
      gi_wp2
      go_end0
      exact ⟨⟨_, rfl⟩, .inl ⟨pre, hpre, hJs⟩⟩

set_option maxHeartbeats 1000000 in
theorem pixels_any (W H : Int) (a : Option Addr) (n c : Nat) (w : World) :
    Calls Try.prog 69 #[.agg #[.int .i64 W, .int .i64 H, .slice a n c]] w fun e w' => e = .returned (.func (.func 110) #[] #[.pointer (some ⟨w.heap.size, 0, none⟩)]) ∧ w' = w.alloc (.cells #[.int .i64 W, .int .i64 H, .slice a n c] 86) := by
  go_enter Try.func69, Try.ntmps69
  go_wp2
  go_ret
  exact ⟨rfl, rfl⟩

/-- What a loop over the pixels may count on. -/
theorem pix_stops (n Bm b off len c : Nat) (Wd Hd : Int) (R : Nat → Int → Prop) (hn : 1 ≤ n) (hW : 1 ≤ Wd) (hlen : len ≤ 4096) (w : World) (hB : Bm < w.heap.size) (hb : b < w.heap.size) (hG : PixG Bm b off len c Wd Hd R w) :
    SeqStopsK Fence.wide n Try.prog 110 #[.pointer (some ⟨Bm, 0, none⟩)] (pxEnc (len := len) (R := R) Wd) (fun A C => PixG Bm b off len c Wd Hd R A → PixG Bm b off len c Wd Hd R C) (PixAll len) (fun _ => True) len w := fun l J Jx W hW' hJ _ hY h0 => by
  have hG' : PixG Bm b off len c Wd Hd R W := by
    obtain ⟨g0, g1, g2, g3⟩ := hG
    exact ⟨cell_later hW' g0, cell_later hW' g1, cell_later hW' g2, fun j hj => by obtain ⟨z, hz, cz⟩ := g3 j hj; exact ⟨z, hz, cell_later hW' cz⟩⟩
  exact pix1_in n l Bm b off len c Wd Hd R hn hW hlen J Jx _ hJ hY W hG' h0
end Go.Proofs.Ytghmjdmiaajbnaa
/-
  Layer 2: the iterator over the offsets of a kernel or a shape.
-/
namespace Go.Proofs.Ytghmjdmiaajbnaa
open Go.RowKit Go.Shelf
set_option linter.unusedVariables false
set_option linter.unusedSimpArgs false

attribute [local go_sem] Oper.semAt_some

/-- The boxes that the iterator reads. -/
def OffG (Bw Bh : Nat) (Wd Hd : Int) (W : World) : Prop :=
  W.cell? ⟨Bw, 0, none⟩ = some (.int .i64 Wd) ∧ W.cell? ⟨Bh, 0, none⟩ = some (.int .i64 Hd)
def ofEnc {len : Nat} (Wd Hd : Int) (x : Pel len (fun _ _ => True)) : Array Value := #[.int .i64 x.1.1, .agg #[.int .i64 ((x.1.1 : Int) % Wd - Wd / 2), .int .i64 ((x.1.1 : Int) / Wd - Hd / 2)]]

set_option maxRecDepth 100000 in
set_option maxHeartbeats 2000000 in
theorem offs1_in (n l Bw Bh len : Nat) (Wd Hd : Int) (hn : 1 ≤ n) (hW : 1 ≤ Wd) (hW2 : Wd ≤ 64) (hH : 1 ≤ Hd) (hH2 : Hd ≤ 64) (hm : Wd * Hd = (len : Int)) (hlen : len ≤ 4096) (J Jx : List (Pel len (fun _ _ => True)) → World → Prop) (B : Nat)
    (hJ : AbidesFrom B J)
    (hY : ∀ pre x W, J pre W → pre.length < len → YieldAt Fence.wide (n - 1) Try.prog l (ofEnc Wd Hd x) W fun e W' =>
      (e = .returned (.bool true) ∧ J (pre ++ [x]) W' ∧ (OffG Bw Bh Wd Hd W → OffG Bw Bh Wd Hd W')) ∨ (e = .returned (.bool false) ∧ Jx (pre ++ [x]) W'))
    (W : World) (hG : OffG Bw Bh Wd Hd W) (h0 : J [] W) :
    CallsIn Fence.wide n Try.prog 107 #[.func (.yield l) #[] #[], .pointer (some ⟨Bw, 0, none⟩), .pointer (some ⟨Bh, 0, none⟩)] W fun e W' => (∃ v, e = .returned v) ∧
      ((∃ xs, PixAll len xs ∧ J xs W') ∨ (∃ pre, True ∧ Jx pre W')) := by
  have HY := Lib.hid hY
  clear hY
  have hmx : Try.prog.follows .mixedOrders = true := by kernel_rfl
  obtain ⟨g0, g1⟩ := hG
  have HG := Lib.hid (⟨g0, g1⟩ : OffG Bw Bh Wd Hd W)
  have hw : IntKind.i64.wrap (Wd * Hd) = (len : Int) := by rw [hm]; exact IntWalk.i64_in _ (by omega)
  have t7 : Wd.tdiv 2 = Wd / 2 := Int.tdiv_eq_ediv_of_nonneg (by omega)
  have t8 : Hd.tdiv 2 = Hd / 2 := Int.tdiv_eq_ediv_of_nonneg (by omega)
  have v7 : IntKind.i64.wrap (Wd / 2) = Wd / 2 := IntWalk.i64_in _ (by omega)
  have v8 : IntKind.i64.wrap (Hd / 2) = Hd / 2 := IntWalk.i64_in _ (by omega)
  clear hm
  refine callsIn_of_wp Try.func107 rfl trivial ?_ rfl
  simp only [Try.ntmps107, List.size_toArray, List.length_cons, List.length_nil, Nat.reduceAdd, Nat.reduceSub, Array.replicate_succ, Array.replicate_zero, List.push_toArray, List.append_toArray, List.nil_append, List.cons_append]
  gi_wp2
  clear g0 g1
  gi_loopw [8] (fun i wr => ∃ k : Nat, k ≤ len ∧ i = .int .i64 k ∧ ∃ pre, PixAll k pre ∧ J pre wr ∧ Hid (OffG Bw Bh Wd Hd wr))
    (fun i _ => len - (intOf i).toNat)
  case atStart => exact ⟨0, Nat.zero_le _, rfl, [], rfl, h0, HG⟩
  case round =>
    obtain ⟨k, hk, rfl, pre, hpre, hJs, HG'⟩ := hrel
    clear HG h0
    by_cases hlt : k < len
    · obtain ⟨c0, c1⟩ := HG'.out
      obtain ⟨v1, v2, v3, v4, v5, v6⟩ := small_div k Wd hW (by omega)
      have v9 : IntKind.i64.wrap ((k : Int) % Wd - Wd / 2) = (k : Int) % Wd - Wd / 2 := IntWalk.i64_in _ (by omega)
      have va : IntKind.i64.wrap ((k : Int) / Wd - Hd / 2) = (k : Int) / Wd - Hd / 2 := IntWalk.i64_in _ (by omega)
      have hne : ¬ Wd = 0 := by omega
      have hJd : J pre wr.drew := hJ pre wr wr.drew none hJs ⟨rfl, rfl, rfl, Nat.le_refl _, fun _ _ _ => rfl⟩ (fun r e => by cases e)
      obtain ⟨fn, tmps, assign, body, hy, hR⟩ := HY.out pre ⟨(k, 0), hlt, trivial⟩ wr.drew hJd (by rw [hpre.length]; exact hlt)
      dsimp only [ofEnc] at hy
      have hR' : RoundIn Fence.wide (n - 1) Try.prog l fn tmps assign body wr.drew (fun e W' => ∃ g, e = .returned (.bool g) ∧ Went (fun W' => J (pre ++ [⟨(k, 0), hlt, trivial⟩]) W' ∧ Hid (OffG Bw Bh Wd Hd W')) (fun W' => Jx (pre ++ [⟨(k, 0), hlt, trivial⟩]) W') g W') := by
        refine hR.mono ?_
        rintro e W3 (⟨rfl, hJ3, hk3⟩ | ⟨rfl, hJx3⟩)
        · exact ⟨true, rfl, .inl ⟨rfl, hJ3, Lib.hid (hk3 HG'.out)⟩⟩
        · exact ⟨false, rfl, .inr ⟨rfl, hJx3⟩⟩
      clear hR
      gi_wp2
      gi_region_with_o (refine hR'.mono ?_; rintro e W3 ⟨g, rfl, hW3⟩)
      all_goals
        rcases hW3 with ⟨rfl, hJ3, hG3⟩ | ⟨rfl, hJx3⟩
        · gi_wp2
          go_roundw
          case rel => exact ⟨k + 1, by omega, by go_num, _, hpre.snoc _ rfl, hJ3, hG3⟩
          case measure => simp [intOf]; omega
        · gi_wp2
          refine bodyPost_ret (results_none rfl _ _ _) rfl ?_
          exact ⟨⟨_, rfl⟩, .inr ⟨_, trivial, hJx3⟩⟩
    · obtain rfl : k = len := by omega
      gi_wp2
      go_end0
      exact ⟨⟨_, rfl⟩, .inl ⟨pre, hpre, hJs⟩⟩

set_option maxHeartbeats 1000000 in
theorem offsets_any (Wd Hd : Int) (w : World) :
    Calls Try.prog 63 #[.int .i64 Wd, .int .i64 Hd] w fun e w' => e = .returned (.func (.func 107) #[] #[.pointer (some ⟨w.heap.size, 0, none⟩), .pointer (some ⟨w.heap.size + 1, 0, none⟩)]) ∧ w' = (w.alloc (.cells #[.int .i64 Wd] 3)).alloc (.cells #[.int .i64 Hd] 3) := by
  go_enter Try.func63, Try.ntmps63
  go_wp2
  go_ret
  exact ⟨rfl, rfl⟩

/-- What a loop over the offsets may count on. -/
theorem offs_stops (n Bw Bh len : Nat) (Wd Hd : Int) (hn : 1 ≤ n) (hW : 1 ≤ Wd) (hW2 : Wd ≤ 64) (hH : 1 ≤ Hd) (hH2 : Hd ≤ 64) (hm : Wd * Hd = (len : Int)) (hlen : len ≤ 4096) (w : World) (hBw : Bw < w.heap.size) (hBh : Bh < w.heap.size) (hG : OffG Bw Bh Wd Hd w) :
    SeqStopsK Fence.wide n Try.prog 107 #[.pointer (some ⟨Bw, 0, none⟩), .pointer (some ⟨Bh, 0, none⟩)] (ofEnc (len := len) Wd Hd) (fun A C => OffG Bw Bh Wd Hd A → OffG Bw Bh Wd Hd C) (PixAll len) (fun _ => True) len w := fun l J Jx W hW' hJ _ hY h0 => by
  exact offs1_in n l Bw Bh len Wd Hd hn hW hW2 hH hH2 hm hlen J Jx _ hJ hY W ⟨cell_later hW' hG.1, cell_later hW' hG.2⟩ h0
end Go.Proofs.Ytghmjdmiaajbnaa
