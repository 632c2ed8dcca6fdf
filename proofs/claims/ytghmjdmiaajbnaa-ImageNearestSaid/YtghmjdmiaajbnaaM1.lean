/-
  The texts that the laws of this seat share, merged: part 1.
-/
import Derived.BigQuiet
import Derived.ChangeSame
import Derived.Deep.DeepHandedRow
import Derived.Deep.Draws
import Derived.Deep.QuietTactic
import Derived.Deep.RegionHeld3
import Derived.LaidSub
import Derived.Laws.AppendOwn
import Derived.Lay
import Derived.Lib.Hide
import Derived.Lib.SmallJoins
import Derived.LoopIn
import Derived.LoopNIn
import Derived.OneCell
import Derived.OpenShut
import Derived.Orders
import Derived.OwnWalkIn
import Derived.ProofKit
import Derived.RangeFuncBound
import Derived.RangeFuncCalls
import Derived.RangeFuncLeaves
import Derived.RangeFuncNested
import Derived.Shelf.Abstract
import Derived.Shelf.AbstractIn
import Derived.Shelf.RegionOpen
import Derived.TacticsInMore
import Derived.Test.YtghmjdmiaajbnaaProg
import Derived.Test.YtghmjdmiaajbnaaRows
import Derived.WalkKit
import Derived.WalkSmall
import Derived.WalkSpells
/-
  A block of the memory that is known whole, and what leaves it so.
-/
namespace Go.Proofs.Ytghmjdmiaajbnaa
open Go.RowKit

/-- Block b holds these cells, and may be written. -/
def Blk (w : World) (b : Nat) (c : Array Value) (t : TypeId) : Prop := w.heap[b]? = some (.cells c t (0, 0))
theorem Blk.lt {w : World} {b : Nat} {c : Array Value} {t : TypeId} (h : Blk w b c t) : b < w.heap.size := lt_of_block h
theorem Blk.later {w wx : World} {b : Nat} {c : Array Value} {t : TypeId} (hb : Below w.heap.size w wx) (h : Blk w b c t) : Blk wx b c t := (hb.block b h.lt).trans h
theorem Blk.below {B : Nat} {w wx : World} {b : Nat} {c : Array Value} {t : TypeId} (hb : Below B w wx) (hB : b < B) (h : Blk w b c t) : Blk wx b c t := (hb.block b hB).trans h
theorem Blk.new {w : World} {n : Nat} {c : Array Value} {t : TypeId} (hn : n = w.heap.size) : Blk (w.alloc (.cells c t)) n c t := by
  subst hn
  show (w.heap.push _)[w.heap.size]? = _
  simp
theorem Blk.alloc {w : World} {o : Obj} {b : Nat} {c : Array Value} {t : TypeId} (h : Blk w b c t) : Blk (w.alloc o) b c t := by
  have := h.lt
  exact (Below.heap_alloc w o b this).trans h
theorem Blk.drewN {w : World} {n b : Nat} {c : Array Value} {t : TypeId} (h : Blk w b c t) : Blk (w.drewN n) b c t := h
theorem Blk.drew {w : World} {b : Nat} {c : Array Value} {t : TypeId} (h : Blk w b c t) : Blk w.drew b c t := h
theorem Blk.other {w : World} {a : Addr} {v : Value} {b : Nat} {c : Array Value} {t : TypeId} (h : Blk w b c t) (ha : b ≠ a.block) : Blk (w.setCell a v) b c t :=
  (Below.heap_setCell w a v b ha).trans h
theorem Blk.set {w : World} {i b : Nat} {v : Value} {c : Array Value} {t : TypeId} (h : Blk w b c t) : Blk (w.setCell ⟨b, i, none⟩ v) b (c.setIfInBounds i v) t := by
  have hlt := h.lt
  have h' : w.heap[b] = .cells c t (0, 0) := by
    have : w.heap[b]? = some (.cells c t (0, 0)) := h
    simpa [Array.getElem?_eq_getElem hlt] using this
  show (w.heap.modify b _)[b]? = _
  rw [Array.getElem?_eq_getElem (by simpa using hlt), Array.getElem_modify_self, h']
  rfl
theorem Blk.keepG {w W w1 : World} {b : Nat} {c : Array Value} {t : TypeId} {G : Prop} (hb : Below W.heap.size W w1) (k : Blk w b c t) (h : Blk w b c t → Blk W b c t) (g : Blk w1 b c t → G) : G := g (Blk.later hb (h k))
theorem Blk.cells {w : World} {b : Nat} {c : Array Value} {t : TypeId} (h : Blk w b c t) (i : Nat) : w.cell? ⟨b, i, none⟩ = c[i]? := by
  have h' : w.heap[b]? = some (.cells c t (0, 0)) := h
  simp [World.cell?, h']
theorem Blk.free {w : World} {b : Nat} {c : Array Value} {t : TypeId} (h : Blk w b c t) (i : Nat) : w.frozen? ⟨b, i, none⟩ = false := by
  have h' : w.heap[b]? = some (.cells c t (0, 0)) := h
  simp [World.frozen?, h']
theorem Blk.full {w : World} {b : Nat} {c : Array Value} {t : TypeId} (h : Blk w b c t) : Blk w b c t ∧ (∀ i : Nat, w.cell? ⟨b, i, none⟩ = c[i]?) := ⟨h, h.cells⟩
theorem Blk.read {w : World} {b : Nat} {c : Array Value} {t : TypeId} (h : Blk w b c t) : (∀ i, w.cell? ⟨b, i, none⟩ = c[i]?) ∧ (∀ i, w.frozen? ⟨b, i, none⟩ = false) := ⟨h.cells, h.free⟩
theorem belowThru {w W w1 : World} (h : Below w.heap.size w W) (hb : Below W.heap.size W w1) : Below w.heap.size w w1 := h.trans (hb.mono h.size)
theorem belowAlloc {w W : World} {o : Obj} (h : Below w.heap.size w W) : Below w.heap.size w (W.alloc o) := h.alloc h.size o
/-- What is held of two blocks, handed on. -/
theorem hold2 {w : World} {b0 b1 : Nat} {c0 c1 : Array Value} {t0 t1 : TypeId} {B D E G : Prop} (h : (Blk w b0 c0 t0 ∧ B) ∧ (Blk w b1 c1 t1 ∧ D) ∧ E) (g : Blk w b0 c0 t0 → Blk w b1 c1 t1 → E → G) : G := g h.1.1 h.2.1.1 h.2.2
theorem hold1 {w : World} {b0 : Nat} {c0 : Array Value} {t0 : TypeId} {B E G : Prop} (h : (Blk w b0 c0 t0 ∧ B) ∧ E) (g : Blk w b0 c0 t0 → E → G) : G := g h.1.1 h.2
theorem hold3 {w : World} {b0 b1 b2 : Nat} {c0 c1 c2 : Array Value} {t0 t1 t2 : TypeId} {B D F E G : Prop} (h : (Blk w b0 c0 t0 ∧ B) ∧ (Blk w b1 c1 t1 ∧ D) ∧ (Blk w b2 c2 t2 ∧ F) ∧ E) (g : Blk w b0 c0 t0 → Blk w b1 c1 t1 → Blk w b2 c2 t2 → E → G) : G := g h.1.1 h.2.1.1 h.2.2.1.1 h.2.2.2
end Go.Proofs.Ytghmjdmiaajbnaa
/-
  Layer 2: what memory holds of images; what a round of a loop over an iterator keeps.
-/
namespace Go.Proofs.Ytghmjdmiaajbnaa
open Go.RowKit
set_option linter.unusedVariables false
set_option linter.unusedSimpArgs false

/-- The cells of some numbers. -/
def ints (zs : List Int) : Array Value := (zs.map (Value.int .i64)).toArray
theorem ints_get (zs : List Int) (j : Nat) : (ints zs)[j]? = zs[j]?.map (Value.int .i64) := by simp [ints]
/-- A slice value that reads as these numbers. -/
def Reads (w : World) (v : Value) (zs : List Int) : Prop :=
  (zs = [] ∧ ∃ a c, v = .slice a 0 c) ∨ ∃ b off c, v = .slice (some ⟨b, off, none⟩) zs.length c ∧ b < w.heap.size ∧ ∀ j, j < zs.length → w.cell? ⟨b, off + j, none⟩ = some (.int .i64 (zs[j]?.getD 0))
theorem Reads.later {w w' : World} (hb : Below w.heap.size w w') {v : Value} {zs : List Int} (h : Reads w v zs) : Reads w' v zs := by
  rcases h with h | ⟨b, off, c, hv, hlt, hc⟩
  · exact .inl h
  · exact .inr ⟨b, off, c, hv, Nat.lt_of_lt_of_le hlt hb.size, fun j hj => cell_later hb (hc j hj)⟩
theorem Reads.of_blk {w : World} {b c : Nat} {zs : List Int} {t : TypeId} (h : Blk w b (ints zs) t) : Reads w (.slice (some ⟨b, 0, none⟩) zs.length c) zs := by
  refine .inr ⟨b, 0, c, rfl, h.lt, fun j hj => ?_⟩
  rw [h.cells, ints_get, Nat.zero_add, List.getElem?_eq_getElem hj]; rfl
theorem cell_alloc {w : World} {o : Obj} {a : Addr} {v : Value} (h : w.cell? a = some v) : (w.alloc o).cell? a = some v := cell_later (belowAlloc (Below.refl _ _)) h
theorem KeepsFrom.of_below {B : Nat} {W W' : World} (h : Below W.heap.size W W') : KeepsFrom B W W' :=
  ⟨h.size, fun k o _ hk _ => (h.block k (Array.getElem?_eq_some_iff.1 hk).1).trans hk⟩
theorem Below.wide {w : World} {W W' : World} (h : Below w.heap.size w W) (k : Below W.heap.size W W') : Below w.heap.size W W' := k.mono h.size
end Go.Proofs.Ytghmjdmiaajbnaa
/-
  Layer 2: ranges, quotients, places.
-/
namespace Go.Proofs.Ytghmjdmiaajbnaa
open Go.RowKit
set_option linter.unusedVariables false
set_option linter.unusedSimpArgs false

theorem ret_int {k : IntKind} {a b : Int} (h : a = b) : Ending.returned (.int k a) = .returned (.int k b) := by rw [h]
/-! ### Numbers in ranges -/
set_option maxHeartbeats 400000 in
theorem within_yes (n m : Int) (h0 : 0 ≤ m) (h1 : m ≤ 4294967296) (h : -m ≤ n ∧ n ≤ m) (w : World) :
    Calls Try.prog 95 #[.int .i64 n, .int .i64 m] w fun e w' => e = .returned (.bool true) ∧ w = w' := by
  obtain ⟨k1, k2⟩ := h
  go_enter Try.func95, Try.ntmps95
  go_wp2
  go_ret
  exact ⟨rfl, rfl⟩
set_option maxHeartbeats 400000 in
theorem within_no (n m : Int) (h0 : 0 ≤ m) (h1 : m ≤ 4294967296) (h : n < -m ∨ m < n) (w : World) :
    Calls Try.prog 95 #[.int .i64 n, .int .i64 m] w fun e w' => e = .returned (.bool false) ∧ w = w' := by
  rcases h with h | h
  · go_enter Try.func95, Try.ntmps95
    go_wp2
    go_ret
    exact ⟨rfl, rfl⟩
  · have k : -m ≤ n := by omega
    have hd : decide (n ≤ m) = false := by simp; omega
    go_enter Try.func95, Try.ntmps95
    go_wp2
    go_ret
    exact ⟨by simp, rfl⟩
/-- A number may be a value of an image. -/
def okV (n : Int) : Prop := -2147483648 ≤ n ∧ n ≤ 2147483648
instance (n : Int) : Decidable (okV n) := inferInstanceAs (Decidable (_ ∧ _))
set_option maxHeartbeats 400000 in
theorem isValue_any (n : Int) (w : World) :
    Calls Try.prog 80 #[.int .i64 n] w fun e w' => e = .returned (.bool (decide (okV n))) ∧ w = w' := by
  by_cases h : okV n
  · rw [decide_eq_true h]
    obtain ⟨h1, h2⟩ := h
    go_enter Try.func80, Try.ntmps80
    go_wp2_with (go_at_call 95; (with_reducible refine (within_yes n 2147483648 (by omega) (by omega) ⟨h1, h2⟩ _).mono ?_); rintro e w1 ⟨rfl, rfl⟩)
    go_ret
    exact ⟨rfl, rfl⟩
  · rw [decide_eq_false h]
    have h' : n < -2147483648 ∨ 2147483648 < n := by unfold okV at h; omega
    clear h
    go_enter Try.func80, Try.ntmps80
    go_wp2_with (go_at_call 95; (with_reducible refine (within_no n 2147483648 (by omega) (by omega) h' _).mono ?_); rintro e w1 ⟨rfl, rfl⟩)
    go_ret
    exact ⟨rfl, rfl⟩
/-- A number may be a side of an image. -/
def okS (n : Int) : Prop := 1 ≤ n ∧ n ≤ 16
instance (n : Int) : Decidable (okS n) := inferInstanceAs (Decidable (_ ∧ _))
set_option maxHeartbeats 400000 in
theorem isSide_any (n : Int) (w : World) :
    Calls Try.prog 79 #[.int .i64 n] w fun e w' => e = .returned (.bool (decide (okS n))) ∧ w = w' := by
  by_cases h1 : 1 ≤ n
  · by_cases h2 : n ≤ 16
    · rw [decide_eq_true (show okS n from ⟨h1, h2⟩)]
      go_enter Try.func79, Try.ntmps79
      go_wp2
      go_ret
      exact ⟨rfl, rfl⟩
    · rw [decide_eq_false (fun k : okS n => h2 k.2)]
      go_enter Try.func79, Try.ntmps79
      go_wp2
      go_ret
      exact ⟨rfl, rfl⟩
  · rw [decide_eq_false (fun k : okS n => h1 k.1)]
    go_enter Try.func79, Try.ntmps79
    go_wp2
    go_ret
    exact ⟨rfl, rfl⟩
/-- A number brought into a range. -/
def inR (n lo hi : Int) : Int := max lo (min n hi)
set_option maxHeartbeats 400000 in
theorem bring_any (n lo hi : Int) (w : World) :
    Calls Try.prog 55 #[.int .i64 n, .int .i64 lo, .int .i64 hi] w fun e w' => e = .returned (.int .i64 (inR n lo hi)) ∧ w = w' := by
  go_enter Try.func55, Try.ntmps55
  go_wp2
  all_goals
    go_ret
    exact ⟨ret_int (by unfold inR; omega), rfl⟩
end Go.Proofs.Ytghmjdmiaajbnaa
/-
  Layer 2: slices that read as lists; valid images.
-/
namespace Go.Proofs.Ytghmjdmiaajbnaa
open Go.RowKit
set_option linter.unusedVariables false
set_option linter.unusedSimpArgs false

/-- A slice that reads as these values; its address is known only where it has an element. -/
def Row (w : World) (a : Option Addr) (n : Nat) (vs : List Value) : Prop :=
  vs.length = n ∧ (0 < n → ∃ b off, a = some ⟨b, off, none⟩ ∧ b < w.heap.size ∧ ∀ j, j < n → w.cell? ⟨b, off + j, none⟩ = vs[j]?)
/-- Whole numbers, and truth values, as values. -/
def iv (zs : List Int) : List Value := zs.map (Value.int .i64)
def bv (zs : List Bool) : List Value := zs.map Value.bool
theorem iv_length (zs : List Int) : (iv zs).length = zs.length := by simp [iv]
theorem bv_length (zs : List Bool) : (bv zs).length = zs.length := by simp [bv]
theorem iv_get (zs : List Int) (j : Nat) : (iv zs)[j]? = zs[j]?.map (Value.int .i64) := by simp [iv]
theorem bv_get (zs : List Bool) (j : Nat) : (bv zs)[j]? = zs[j]?.map Value.bool := by simp [bv]
theorem Row.later {w w' : World} (hb : Below w.heap.size w w') {a : Option Addr} {n : Nat} {vs : List Value} (h : Row w a n vs) : Row w' a n vs :=
  ⟨h.1, fun hn => by
    obtain ⟨b, off, ha, hlt, hc⟩ := h.2 hn
    exact ⟨b, off, ha, Nat.lt_of_lt_of_le hlt hb.size, fun j hj => (World.cell?_of_block (w := w) (hb.block b hlt)).trans (hc j hj)⟩⟩
theorem Row.drew {w : World} {a : Option Addr} {n : Nat} {vs : List Value} (h : Row w a n vs) : Row w.drew a n vs := h
theorem Row.int {w : World} {a : Option Addr} {n : Nat} {zs : List Int} (h : Row w a n (iv zs)) {k : Nat} (hk : k < n) :
    ∃ b off z, a = some ⟨b, off, none⟩ ∧ b < w.heap.size ∧ zs[k]? = some z ∧ w.cell? ⟨b, off + k, none⟩ = some (.int .i64 z) := by
  obtain ⟨b, off, ha, hlt, hc⟩ := h.2 (by omega)
  have hl : k < zs.length := by have := h.1; rw [iv_length] at this; omega
  refine ⟨b, off, zs[k], ha, hlt, List.getElem?_eq_getElem hl, ?_⟩
  rw [hc k hk, iv_get, List.getElem?_eq_getElem hl]; rfl
theorem Row.bool {w : World} {a : Option Addr} {n : Nat} {zs : List Bool} (h : Row w a n (bv zs)) {k : Nat} (hk : k < n) :
    ∃ b off z, a = some ⟨b, off, none⟩ ∧ b < w.heap.size ∧ zs[k]? = some z ∧ w.cell? ⟨b, off + k, none⟩ = some (.bool z) := by
  obtain ⟨b, off, ha, hlt, hc⟩ := h.2 (by omega)
  have hl : k < zs.length := by have := h.1; rw [bv_length] at this; omega
  refine ⟨b, off, zs[k], ha, hlt, List.getElem?_eq_getElem hl, ?_⟩
  rw [hc k hk, bv_get, List.getElem?_eq_getElem hl]; rfl
theorem Row.of_blk {w : World} {b : Nat} {zs : List Int} {t : TypeId} (h : Blk w b (ints zs) t) : Row w (some ⟨b, 0, none⟩) zs.length (iv zs) :=
  ⟨iv_length zs, fun _ => ⟨b, 0, rfl, h.lt, fun j _ => by rw [h.cells, ints_get, iv_get, Nat.zero_add]⟩⟩
theorem Row.nil (w : World) (a : Option Addr) : Row w a 0 [] := ⟨rfl, fun h => absurd h (by omega)⟩

/-- An image with these sides and values is valid. -/
def okI (W H : Int) (zs : List Int) : Prop := (okS W ∧ okS H) ∧ (zs.length : Int) = W * H ∧ ∀ z ∈ zs, okV z
instance (W H : Int) (zs : List Int) : Decidable (okI W H zs) := inferInstanceAs (Decidable (_ ∧ _))
def ckI (W H : Int) (zs : List Int) : Int := if okI W H zs then 0 else 20
theorem ckI_ok {W H : Int} {zs : List Int} (h : okI W H zs) : ckI W H zs = 0 := if_pos h
theorem ckI_no {W H : Int} {zs : List Int} (h : ¬ okI W H zs) : ckI W H zs = 20 := if_neg h
/-- The first numbers are all values of an image. -/
def Upto (zs : List Int) (k : Nat) : Prop := ∀ z ∈ zs.take k, okV z
theorem Upto.zero (zs : List Int) : Upto zs 0 := fun z h => by simp at h
theorem Upto.snoc {zs : List Int} {k : Nat} {z : Int} (h : Upto zs k) (hz : zs[k]? = some z) (ok : okV z) : Upto zs (k + 1) := by
  unfold Upto
  rw [List.take_add_one, hz]
  intro x hx
  rcases List.mem_append.1 hx with k | k
  · exact h x k
  · simp at k; subst k; exact ok
theorem Upto.all {zs : List Int} {k : Nat} (h : Upto zs k) (hk : zs.length ≤ k) : ∀ z ∈ zs, okV z := by
  unfold Upto at h; rwa [List.take_of_length_le hk] at h
theorem okS_mul {W H : Int} (h1 : okS W) (h2 : okS H) : 1 ≤ W * H ∧ W * H ≤ 256 := by
  obtain ⟨a, b⟩ := h1
  obtain ⟨c, d⟩ := h2
  have h1 := Int.mul_le_mul a c (by omega) (by omega)
  have h2 := Int.mul_le_mul b d (by omega) (by omega)
  omega
end Go.Proofs.Ytghmjdmiaajbnaa
/-
  What every plain law of the seat asks beside its walk, whatever its arguments: the answer true in a world in which all that was there reads as before.
-/
namespace Go.Proofs.Ytghmjdmiaajbnaa
open Go.ChangeShapes Go.WideShapes Go.ChangeAt Go.RowKit
set_option linter.unusedVariables false
set_option linter.unusedSimpArgs false

theorem own : ownKnob Try.prog.godebug = none := by kernel_rfl
theorem laidOut : laidOutB Try.prog = true := by kernel_rfl

section
variable {H : Type} {enc : TypeId × Value → H}
/-- All that was there reads as before. -/
theorem trodAll_keep {P : Program} (hl : laidOutB P = true) {W W' : World} (hb : Below W.heap.size W W') (sp : Nat → Bool) (ts : List TypeId) :
    ∀ (vs : List Value) (ds : List (DataW H)) (ps : List MemPlace), (ts.all fun t => P.readableRec t && decide (t < P.types.size)) = true → DataW.TrodAll enc P W 0 (fun _ => true) true ts vs ds ps → (∀ x ∈ ps, x.block < W.heap.size) → (∀ x ∈ ps, sp x.block = true) →
    DataW.TrodAll enc P W' 0 sp true ts vs ds ps := by
  induction ts with
  | nil =>
    intro vs ds ps _ h _ _
    obtain ⟨rfl, rfl, rfl⟩ := trodAll_nil h
    exact trodAll_mk0
  | cons t ts ih =>
    intro vs ds ps hr h hlt hsp
    obtain ⟨v, vs, d, ds, p, q, rfl, rfl, rfl, h0, h1⟩ := trodAll_cons h
    rw [List.all_cons, Bool.and_eq_true, Bool.and_eq_true, decide_eq_true_eq] at hr
    exact trodAll_cons_mk (WideElems.Trod_stays hl hr.1.1 hr.1.2 h0 (fun x hx => hb.same (hlt x (List.mem_append_left _ hx))) (fun x hx => hsp x (List.mem_append_left _ hx)))
      (ih vs ds q hr.2 h1 (fun x hx => hlt x (List.mem_append_right _ hx)) (fun x hx => hsp x (List.mem_append_right _ hx)))

set_option maxRecDepth 100000 in
/-- The answer is true, and what was there is as it was. -/
theorem post_keep {fn : Func} {s : ChangeSpec} {apart : Bool} {W W' : World} {args : Array Value} {ds : List (DataW H)} {before : List MemPlace}
    (hW : DataW.Whole enc Try.prog fn.params.toList s.vars apart W args.toList ds [] before) (hv : s.vars = []) (hr : fn.resultTypes = #[4])
    (hs : s.fn H ds = { results := [.lit (.bool true)], args := ds })
    (hp : (fn.params.toList.all fun t => Try.prog.readableRec t && decide (t < Try.prog.types.size)) = true)
    (hb : Below W.heap.size W W') : s.post enc Try.prog fn apart true false false W args (.bool true) W' := by
  have hbool : Try.prog.underlying 4 = some .bool := by kernel_rfl
  have hlt : ∀ p ∈ before, p.block < W.heap.size := fun p hp => hW.lt p hp
  have hold : ∀ p ∈ before, (fun b => decide (b < W.heap.size)) p.block = true := fun p hp => by simpa using hlt p hp
  have hW0 := hW
  obtain ⟨pa, pv, hA, hV, rfl, hz, hn⟩ := hW0
  have hV' := hV
  rw [hv] at hV'
  obtain ⟨-, rfl⟩ := trodVars_none hV'
  have hres : ∀ (b : Nat) (sp : Nat → Bool) (hd : Bool), DataW.TrodAll enc Try.prog W' b sp hd fn.resultTypes.toList ((Value.bool true).resultList fn.resultTypes.size) (s.fn H (ds ++ [])).results [] := by
    intro b sp hd
    rw [List.append_nil, hs, hr]
    exact trodAll_cons_mk (shut_bool hbool _) trodAll_mk0
  have hargs : ∀ sp : Nat → Bool, (∀ p ∈ pa, sp p.block = true) → DataW.TrodAll enc Try.prog W' 0 sp true fn.params.toList args.toList (s.fn H (ds ++ [])).args pa := by
    intro sp hsp
    rw [List.append_nil, hs]
    exact trodAll_keep laidOut hb sp _ _ _ _ hp hA (fun x hx => hlt x (by simpa using hx)) hsp
  have hvars : ∀ sp : Nat → Bool, DataW.TrodVars enc Try.prog W' sp s.vars (s.fn H (ds ++ [])).vars [] := by
    intro sp
    rw [hv, List.append_nil, hs]
    exact rfl
  have hk : Value.okWide Try.prog W' .any 0 4 (.bool true) := okWide_bool_mk hbool true
  have hok := ok_one (P := Try.prog) (W' := W') (f := fn) (v := .bool true) hr (by simp [Value.resultList]) hk
  refine ⟨ds, [], pa ++ [], [], pa, [], hW, hres _ _ _, hargs _ (fun p hp => hold p (by simpa using hp)), hvars _, World.keptBut_mono (fun p hp => ⟨hp, ?_⟩) (hb.frame (· ∈ pa ++ [])), fun _ => ?_⟩
  · rw [List.mem_append] at hp
    exact Or.inr hp
  · refine ⟨hok, _, _, ([] ++ pa) ++ [], ⟨[] ++ pa, [], trodAll_append (hargs _ (fun _ _ => rfl)) (hres _ _ _), hvars _, rfl, ?_, ?_⟩, ?_⟩
    · intro b off hp
      have hin : MemPlace.cell b off ∈ pa ++ [] := by simpa using hp
      rw [hb.frozen (hlt _ hin)]
      exact hz b off hin
    · intro ha
      have := hn ha
      simpa using this
    · intro p hp _
      simpa using hp

/-! ### An image among the arguments -/
/-- Whole numbers that came in: a slice value that reads as them. -/
theorem open_row {W : World} {fuel : Nat} {v : Value} {x : DataW H × List MemPlace} (h : DataW.trod enc Try.prog W 0 (fun _ => true) true fuel 22 [v] = some x) :
    ∃ (a : Option Addr) (n c : Nat) (zs : List Int), v = .slice a n c ∧ n ≤ c ∧ c ≤ maxLen ∧ Row W a n (iv zs) ∧ ((x.1.weights Try.prog 22).all (· ≤ reachBytes) = true → n * 8 ≤ 140737488351232) := by
  rcases open_ints Try.underlying22 Try.underlying3 (by kernel_rfl) h with ⟨hcs, _⟩ | ⟨a, len, cap, zs, hcs, _, hl, hm, hz, hxx, hcell, hwz⟩
  · simp only [List.cons.injEq, and_true] at hcs
    exact ⟨none, 0, 0, [], hcs, Nat.le_refl _, Nat.zero_le _, Row.nil _ _, fun _ => by omega⟩
  · simp only [List.cons.injEq, and_true] at hcs
    have hz' : zs.length = cap := by simpa using hz
    have hlen : (zs.take len).length = len := by rw [List.length_take]; omega
    refine ⟨some a, len, cap, zs.take len, hcs, hl, hm, ⟨by rw [iv_length]; exact hlen, fun h0 => ?_⟩, fun hw => ?_⟩
    case refine_2 =>
      rw [hxx] at hw
      simp only [DataW.weights, Try.underlying22, List.all_cons, Bool.and_eq_true, decide_eq_true_eq] at hw
      have hb : Try.prog.bytesOf 3 = 8 := by kernel_rfl
      have h1 := hw.1
      rw [hb] at h1
      simp only [lits, List.length_map, List.length_take, List.length_drop] at h1
      unfold reachBytes at h1
      omega
    obtain ⟨b, off, rfl, hc⟩ := ints_at hcell (by omega)
    refine ⟨b, off, rfl, ?_, fun j hj => ?_⟩
    · have := hc 0 (by omega)
      unfold World.cell? at this
      by_cases hb : b < W.heap.size
      · exact hb
      · simp [Array.getElem?_eq_none (show W.heap.size ≤ b by omega)] at this
    · have := hc j (by omega)
      rw [this, iv_get, List.getElem?_take_of_lt hj, List.getD_eq_getElem?_getD, List.getElem?_eq_getElem (show j < zs.length by omega)]
      rfl
set_option maxRecDepth 100000 in
/-- An image that came in. -/
theorem open_image {W : World} {b0 : Nat} {r : Reach} {v : Value} {d : DataW H} {p : List MemPlace} (hval : Value.okWide Try.prog W r b0 24 v) (h : DataW.Trod enc Try.prog W 0 (fun _ => true) true 24 v d p) :
    ∃ (w h : Int) (a : Option Addr) (n c : Nat) (zs : List Int), v = .agg #[.int .i64 w, .int .i64 h, .slice a n c] ∧ (Lit.int .i64 w).wf = true ∧ (Lit.int .i64 h).wf = true ∧ n ≤ c ∧ c ≤ maxLen ∧ Row W a n (iv zs) ∧ ((d.weights Try.prog 24).all (· ≤ reachBytes) = true → n * 8 ≤ 140737488351232) := by
  obtain ⟨v0, v1, v2, y0, y1, y2, n, rfl, rfl, rfl, h0, h1, h2⟩ := Joins.open_agg3 Try.underlying24 (by kernel_rfl) (by kernel_rfl) hval h
  obtain ⟨w, e0, hy0, w0⟩ := DataW.trod_int Try.underlying3 h0
  obtain ⟨g, e1, hy1, w1⟩ := DataW.trod_int Try.underlying3 h1
  obtain ⟨a, m, c, zs, rfl, q1, q2, q3, q4⟩ := open_row h2
  simp only [List.cons.injEq, and_true] at e0 e1
  subst e0 e1
  refine ⟨w, g, a, m, c, zs, rfl, w0, w1, q1, q2, q3, fun hw => q4 ?_⟩
  simp only [DataW.weights, Try.underlying24, DataW.weightsEach, List.map_cons, List.map_nil, List.append_nil, List.all_append, Bool.and_eq_true] at hw
  exact hw.2.2

/-! ### A struct of whole numbers among the arguments -/
end
end Go.Proofs.Ytghmjdmiaajbnaa
/-
  Layer 2: places and pixels.
-/
namespace Go.Proofs.Ytghmjdmiaajbnaa
open Go.RowKit
set_option linter.unusedVariables false
set_option linter.unusedSimpArgs false

set_option maxHeartbeats 400000 in
theorem plus_any (x y a b : Int) (hx : -4294967296 ≤ x ∧ x ≤ 4294967296) (hy : -4294967296 ≤ y ∧ y ≤ 4294967296) (ha : -4294967296 ≤ a ∧ a ≤ 4294967296) (hb : -4294967296 ≤ b ∧ b ≤ 4294967296) (w : World) :
    Calls Try.prog 66 #[.agg #[.int .i64 x, .int .i64 y], .agg #[.int .i64 a, .int .i64 b]] w fun e w' => e = .returned (.agg #[.int .i64 (x + a), .int .i64 (y + b)]) ∧ Below w.heap.size w w' := by
  go_enter Try.func66, Try.ntmps66
  go_wp2
  exact bodyPost_ret (v := .agg #[.int .i64 (x + a), .int .i64 (y + b)]) (by simp only [results, Try.results66]; go_simp) rfl ⟨rfl, by (repeat' (first | (with_reducible exact Below.refl _ _) | (with_reducible assumption) | (with_reducible refine belowThru ?_ (by assumption)) | (with_reducible refine belowAlloc ?_) | (with_reducible refine Below.setCell ?_ (by first | omega | (simp; done) | (simp; omega)) _) | (with_reducible refine Below.drew ?_) | (with_reducible refine below_drewN ?_ _)))⟩
set_option maxHeartbeats 400000 in
theorem minus_any (x y a b : Int) (hx : -4294967296 ≤ x ∧ x ≤ 4294967296) (hy : -4294967296 ≤ y ∧ y ≤ 4294967296) (ha : -4294967296 ≤ a ∧ a ≤ 4294967296) (hb : -4294967296 ≤ b ∧ b ≤ 4294967296) (w : World) :
    Calls Try.prog 64 #[.agg #[.int .i64 x, .int .i64 y], .agg #[.int .i64 a, .int .i64 b]] w fun e w' => e = .returned (.agg #[.int .i64 (x - a), .int .i64 (y - b)]) ∧ Below w.heap.size w w' := by
  go_enter Try.func64, Try.ntmps64
  go_wp2
  exact bodyPost_ret (v := .agg #[.int .i64 (x - a), .int .i64 (y - b)]) (by simp only [results, Try.results64]; go_simp) rfl ⟨rfl, by (repeat' (first | (with_reducible exact Below.refl _ _) | (with_reducible assumption) | (with_reducible refine belowThru ?_ (by assumption)) | (with_reducible refine belowAlloc ?_) | (with_reducible refine Below.setCell ?_ (by first | omega | (simp; done) | (simp; omega)) _) | (with_reducible refine Below.drew ?_) | (with_reducible refine below_drewN ?_ _)))⟩

/-- A product of small numbers. -/
theorem small_mul (y W : Int) (y0 : 0 ≤ y) (y1 : y ≤ 64) (w0 : 0 ≤ W) (w1 : W ≤ 64) : 0 ≤ y * W ∧ y * W ≤ 4096 :=
  ⟨Int.mul_nonneg y0 w0, Int.le_trans (Int.mul_le_mul y1 w1 w0 (by omega)) (by omega)⟩

set_option maxHeartbeats 400000 in
theorem index_any (W H x y : Int) (p : Nat) (a : Option Addr) (n c : Nat) (hP : Hid (y * W + x = (p : Int))) (y0 : 0 ≤ y) (y1 : y ≤ 64) (w0 : 0 ≤ W) (w1 : W ≤ 64) (x0 : 0 ≤ x) (x1 : x ≤ 64) (w : World) :
    Calls Try.prog 96 #[.agg #[.int .i64 W, .int .i64 H, .slice a n c], .agg #[.int .i64 x, .int .i64 y]] w fun e w' => e = .returned (.int .i64 p) ∧ Below w.heap.size w w' := by
  obtain ⟨m0, m1⟩ := small_mul y W y0 y1 w0 w1
  rw [← hP.out]
  clear hP
  go_enter Try.func96, Try.ntmps96
  go_wp2
  go_ret
  exact ⟨rfl, by (repeat' (first | (with_reducible exact Below.refl _ _) | (with_reducible assumption) | (with_reducible refine belowThru ?_ (by assumption)) | (with_reducible refine belowAlloc ?_) | (with_reducible refine Below.setCell ?_ (by first | omega | (simp; done) | (simp; omega)) _) | (with_reducible refine Below.drew ?_) | (with_reducible refine below_drewN ?_ _)))⟩

set_option maxHeartbeats 1000000 in
/-- The value of a pixel. -/
theorem at_any (W H x y : Int) (p b off n c : Nat) (v : Int) (hP : Hid (y * W + x = (p : Int))) (y0 : 0 ≤ y) (y1 : y ≤ 64) (w0 : 0 ≤ W) (w1 : W ≤ 64) (x0 : 0 ≤ x) (x1 : x ≤ 64) (hp : p < n) (w : World) (hc : w.cell? ⟨b, off + p, none⟩ = some (.int .i64 v)) :
    Calls Try.prog 57 #[.agg #[.int .i64 W, .int .i64 H, .slice (some ⟨b, off, none⟩) n c], .agg #[.int .i64 x, .int .i64 y]] w fun e w' => e = .returned (.int .i64 v) ∧ Below w.heap.size w w' := by
  have HC := Lib.hid hc
  have HI := Lib.hid (fun w => index_any W H x y p (some ⟨b, off, none⟩) n c hP y0 y1 w0 w1 x0 x1 w)
  have p0 : (0 : Int) ≤ (p : Int) := by omega
  have p1 : (p : Int) < (n : Int) := by omega
  clear hP y0 y1 w0 w1 x0 x1 hc
  go_enter Try.func57, Try.ntmps57
  go_wp2
  go_region_held3 (fun w' => (Blk w' w.heap.size #[.int .i64 W, .int .i64 H, .slice (some ⟨b, off, none⟩) n c] 86 ∧ (∀ i : Nat, w'.cell? ⟨w.heap.size, i, none⟩ = (#[.int .i64 W, .int .i64 H, .slice (some ⟨b, off, none⟩) n c] : Array Value)[i]?)) ∧ (Blk w' (w.heap.size + 1) #[.int .i64 x, .int .i64 y] 83 ∧ (∀ i : Nat, w'.cell? ⟨w.heap.size + 1, i, none⟩ = (#[.int .i64 x, .int .i64 y] : Array Value)[i]?)) ∧ w'.cell? ⟨b, off + p, none⟩ = some (.int .i64 v) ∧ Below w.heap.size w w')
    (((first | (apply hold2; (focus assumption); intro p0 p1 pB; obtain ⟨pc, pB⟩ := pB) | skip); refine ⟨Blk.full ?_, Blk.full ?_, ?_, ?_⟩; all_goals (first | ((repeat' (first | (with_reducible assumption) | ((with_reducible refine Blk.new ?_); first | rfl | (simp; done)) | (with_reducible refine Blk.later (by assumption) ?_) | (with_reducible refine Blk.alloc ?_) | (with_reducible refine Blk.drewN ?_) | (with_reducible refine Blk.drew ?_) | (with_reducible refine Blk.other ?_ (by first | omega | (simp; done) | (simp; omega))))); done) | ((repeat' (first | (with_reducible exact Below.refl _ _) | (with_reducible assumption) | (with_reducible refine belowThru ?_ (by assumption)) | (with_reducible refine belowAlloc ?_) | (with_reducible refine Below.setCell ?_ (by first | omega | (simp; done) | (simp; omega)) _) | (with_reducible refine Below.drew ?_) | (with_reducible refine below_drewN ?_ _))); done) | (exact cell_later (by (repeat' (first | (with_reducible exact Below.refl _ _) | (with_reducible assumption) | (with_reducible refine belowThru ?_ (by assumption)) | (with_reducible refine belowAlloc ?_) | (with_reducible refine Below.setCell ?_ (by first | omega | (simp; done) | (simp; omega)) _) | (with_reducible refine Below.drew ?_) | (with_reducible refine below_drewN ?_ _)))) HC.out))))
    (first
    | (go_at_call 96; (with_reducible refine (HI.out _).mono ?_); rintro e w1 ⟨rfl, hb⟩))
  all_goals
    apply hold2; (focus assumption); intro p0 p1 pB; obtain ⟨pc, pB⟩ := pB
    go_wp2_with fail
    go_ret
    exact ⟨rfl, pB⟩
end Go.Proofs.Ytghmjdmiaajbnaa
/-
  Layer 2: the iterator over the pixels of an image.
-/
namespace Go.Proofs.Ytghmjdmiaajbnaa
open Go.RowKit Go.Shelf
set_option linter.unusedVariables false
set_option linter.unusedSimpArgs false

attribute [local go_sem] Oper.semAt_some

/-- What lies there of an image that is gone through: its box, and of each value what R says. -/
def PixG (Bm b off len c : Nat) (Wd Hd : Int) (R : Nat → Int → Prop) (W : World) : Prop :=
  W.cell? ⟨Bm, 0, none⟩ = some (.int .i64 Wd) ∧ W.cell? ⟨Bm, 1, none⟩ = some (.int .i64 Hd) ∧ W.cell? ⟨Bm, 2, none⟩ = some (.slice (some ⟨b, off, none⟩) len c) ∧ ∀ j, j < len → ∃ z, R j z ∧ W.cell? ⟨b, off + j, none⟩ = some (.int .i64 z)
/-- An element that the iterator hands on: an index below the length, and its value. -/
abbrev Pel (len : Nat) (R : Nat → Int → Prop) := { x : Nat × Int // x.1 < len ∧ R x.1 x.2 }
def pxEnc {len : Nat} {R : Nat → Int → Prop} (Wd : Int) (x : Pel len R) : Array Value := #[.agg #[.int .i64 ((x.1.1 : Int) % Wd), .int .i64 ((x.1.1 : Int) / Wd)], .int .i64 x.1.2]
/-- All of them have come, in order. -/
def PixAll {len : Nat} {R : Nat → Int → Prop} (k : Nat) (xs : List (Pel len R)) : Prop := xs.map (fun x => x.1.1) = List.range k
theorem PixAll.snoc {len : Nat} {R : Nat → Int → Prop} {k : Nat} {xs : List (Pel len R)} (h : PixAll k xs) (x : Pel len R) (hx : x.1.1 = k) : PixAll (k + 1) (xs ++ [x]) := by
  unfold PixAll at *
  rw [List.map_append, h, List.range_succ, List.map_singleton, hx]
theorem PixAll.length {len : Nat} {R : Nat → Int → Prop} {k : Nat} {xs : List (Pel len R)} (h : PixAll k xs) : xs.length = k := by
  have := congrArg List.length h
  simpa using this
theorem PixG.drew {Bm b off len c : Nat} {Wd Hd : Int} {R : Nat → Int → Prop} {W : World} (h : PixG Bm b off len c Wd Hd R W) : PixG Bm b off len c Wd Hd R W.drew := h

/-- The word of a round, in one piece. -/
def Went (J Jx : World → Prop) (g : Bool) (W : World) : Prop := (g = true ∧ J W) ∨ (g = false ∧ Jx W)

theorem small_div (k : Nat) (Wd : Int) (h : 1 ≤ Wd) (hk : (k : Int) ≤ 4096) : IntKind.i64.wrap ((k : Int) / Wd) = (k : Int) / Wd ∧ (k : Int).tmod Wd = (k : Int) % Wd ∧ 0 ≤ (k : Int) / Wd ∧ (k : Int) / Wd ≤ k ∧ 0 ≤ (k : Int) % Wd ∧ (k : Int) % Wd < Wd := by
  have a := Int.ediv_nonneg (show (0 : Int) ≤ k by omega) (show 0 ≤ Wd by omega)
  have b := Int.ediv_le_self Wd (show (0 : Int) ≤ k by omega)
  have c := Int.emod_nonneg (k : Int) (show Wd ≠ 0 by omega)
  have d := Int.emod_lt_of_pos (k : Int) (show 0 < Wd by omega)
  have f : (k : Int) % Wd ≤ k := by
    have := Int.mul_ediv_add_emod (k : Int) Wd
    have := Int.mul_nonneg (show 0 ≤ Wd by omega) a
    omega
  exact ⟨IntWalk.i64_in _ (by omega), Int.tmod_eq_emod_of_nonneg (by omega), a, b, c, d⟩

set_option maxRecDepth 100000 in
set_option maxHeartbeats 2000000 in
theorem pix1_in (n l Bm b off len c : Nat) (Wd Hd : Int) (R : Nat → Int → Prop) (hn : 1 ≤ n) (hW : 1 ≤ Wd) (hlen : len ≤ 4096) (J Jx : List (Pel len R) → World → Prop) (B : Nat)
    (hJ : AbidesFrom B J)
    (hY : ∀ pre x W, J pre W → pre.length < len → YieldAt Fence.wide (n - 1) Try.prog l (pxEnc Wd x) W fun e W' =>
      (e = .returned (.bool true) ∧ J (pre ++ [x]) W' ∧ (PixG Bm b off len c Wd Hd R W → PixG Bm b off len c Wd Hd R W')) ∨ (e = .returned (.bool false) ∧ Jx (pre ++ [x]) W'))
    (W : World) (hG : PixG Bm b off len c Wd Hd R W) (h0 : J [] W) :
    CallsIn Fence.wide n Try.prog 110 #[.func (.yield l) #[] #[], .pointer (some ⟨Bm, 0, none⟩)] W fun e W' => (∃ v, e = .returned v) ∧
      ((∃ xs, PixAll len xs ∧ J xs W') ∨ (∃ pre, True ∧ Jx pre W')) := by
  have HY := Lib.hid hY
  clear hY
  have hmx : Try.prog.follows .mixedOrders = true := by kernel_rfl
  obtain ⟨g0, g1, g2, g3⟩ := hG
  have HG := Lib.hid (⟨g0, g1, g2, g3⟩ : PixG Bm b off len c Wd Hd R W)
  clear g3
  refine callsIn_of_wp Try.func110 rfl trivial ?_ rfl
  simp only [Try.ntmps110, List.size_toArray, List.length_cons, List.length_nil, Nat.reduceAdd, Nat.reduceSub, Array.replicate_succ, Array.replicate_zero, List.push_toArray, List.append_toArray, List.nil_append, List.cons_append]
  gi_wp2
  clear g0 g1 g2
  gi_loopw [8] (fun i wr => ∃ k : Nat, k ≤ len ∧ i = .int .i64 k ∧ ∃ pre, PixAll k pre ∧ J pre wr ∧ Hid (PixG Bm b off len c Wd Hd R wr))
    (fun i _ => len - (intOf i).toNat)
  case atStart => exact ⟨0, Nat.zero_le _, rfl, [], rfl, h0, HG⟩
  case round =>
    obtain ⟨k, hk, rfl, pre, hpre, hJs, HG'⟩ := hrel
    clear HG h0
    by_cases hlt : k < len
    · obtain ⟨c0, c1, c2, c3⟩ := HG'.out
      obtain ⟨z, hz, cz⟩ := c3 k hlt
      clear c3
      obtain ⟨v1, v2, v3, v4, v5, v6⟩ := small_div k Wd hW (by omega)
      have hne : ¬ Wd = 0 := by omega
      have hJd : J pre wr.drew := hJ pre wr wr.drew none hJs ⟨rfl, rfl, rfl, Nat.le_refl _, fun _ _ _ => rfl⟩ (fun r e => by cases e)
      obtain ⟨fn, tmps, assign, body, hy, hR⟩ := HY.out pre ⟨(k, z), hlt, hz⟩ wr.drew hJd (by rw [hpre.length]; exact hlt)
      dsimp only [pxEnc] at hy
      have hR' : RoundIn Fence.wide (n - 1) Try.prog l fn tmps assign body wr.drew (fun e W' => ∃ g, e = .returned (.bool g) ∧ Went (fun W' => J (pre ++ [⟨(k, z), hlt, hz⟩]) W' ∧ Hid (PixG Bm b off len c Wd Hd R W')) (fun W' => Jx (pre ++ [⟨(k, z), hlt, hz⟩]) W') g W') := by
        refine hR.mono ?_
        rintro e W3 (⟨rfl, hJ3, hk3⟩ | ⟨rfl, hJx3⟩)
        · exact ⟨true, rfl, .inl ⟨rfl, hJ3, Lib.hid (hk3 HG'.out.drew)⟩⟩
        · exact ⟨false, rfl, .inr ⟨rfl, hJx3⟩⟩
      clear hR
      gi_wp2
      gi_region_with_o (refine hR'.mono ?_; rintro e W3 ⟨g, rfl, hW3⟩)
      all_goals
        rcases hW3 with ⟨rfl, hJ3, hG3⟩ | ⟨rfl, hJx3⟩
        · gi_wp2
          go_roundw
          case rel => exact ⟨k + 1, by omega, by go_num, _, hpre.snoc _ rfl, hJ3, hG3⟩
          case measure => simp [intOf]; omega
        · gi_wp2
          refine bodyPost_ret (results_none rfl _ _ _) rfl ?_
          exact ⟨⟨_, rfl⟩, .inr ⟨_, trivial, hJx3⟩⟩
    · obtain rfl : k = len := by omega
      gi_wp2
      go_end0
      exact ⟨⟨_, rfl⟩, .inl ⟨pre, hpre, hJs⟩⟩

set_option maxHeartbeats 1000000 in
theorem pixels_any (W H : Int) (a : Option Addr) (n c : Nat) (w : World) :
    Calls Try.prog 69 #[.agg #[.int .i64 W, .int .i64 H, .slice a n c]] w fun e w' => e = .returned (.func (.func 110) #[] #[.pointer (some ⟨w.heap.size, 0, none⟩)]) ∧ w' = w.alloc (.cells #[.int .i64 W, .int .i64 H, .slice a n c] 86) := by
  go_enter Try.func69, Try.ntmps69
  go_wp2
  go_ret
  exact ⟨rfl, rfl⟩

/-- What a loop over the pixels may count on. -/
theorem pix_stops (n Bm b off len c : Nat) (Wd Hd : Int) (R : Nat → Int → Prop) (hn : 1 ≤ n) (hW : 1 ≤ Wd) (hlen : len ≤ 4096) (w : World) (hB : Bm < w.heap.size) (hb : b < w.heap.size) (hG : PixG Bm b off len c Wd Hd R w) :
    SeqStopsK Fence.wide n Try.prog 110 #[.pointer (some ⟨Bm, 0, none⟩)] (pxEnc (len := len) (R := R) Wd) (fun A C => PixG Bm b off len c Wd Hd R A → PixG Bm b off len c Wd Hd R C) (PixAll len) (fun _ => True) len w := fun l J Jx W hW' hJ _ hY h0 => by
  have hG' : PixG Bm b off len c Wd Hd R W := by
    obtain ⟨g0, g1, g2, g3⟩ := hG
    exact ⟨cell_later hW' g0, cell_later hW' g1, cell_later hW' g2, fun j hj => by obtain ⟨z, hz, cz⟩ := g3 j hj; exact ⟨z, hz, cell_later hW' cz⟩⟩
  exact pix1_in n l Bm b off len c Wd Hd R hn hW hlen J Jx _ hJ hY W hG' h0
end Go.Proofs.Ytghmjdmiaajbnaa
/-
  A region that draws its order within a round of a loop over an iterator, out of the same region's plain calculus.
-/
namespace Go.Proofs.Ytghmjdmiaajbnaa
open Go.RowKit
set_option linter.unusedVariables false
set_option linter.unusedSimpArgs false

variable {P : Program} {ops : Array Oper} {Q : Exit → Act → World → Prop} {md : Region.Mode}

theorem rowsIn_of_rows {n l : Nat} {row : String} {args : Array Value} {w : World} {R : Value → World → Prop} (h : Rows P row args w R) : RowsIn (Fence.wide.inRound l) n P row args w R :=
  fun c cs _ => let ⟨v, w', r, s⟩ := h c cs; ⟨v, w', r, stepsIn_wide.2 s⟩
theorem callsIn_of_calls {n l : Nat} {f : FuncId} {args : Array Value} {w : World} {R : Ending → World → Prop} (h : Calls P f args w R) : CallsIn (Fence.wide.inRound l) n P f args w R := CallsIn.inRound l (callsIn_wide.2 h)
/-- No operation of the region defers. -/
def noDefer (ops : Array Oper) : Bool := ops.all fun o => match o.op with | .defer _ => false | _ => true
theorem noDefer_spec (h : noDefer ops = true) {i : Nat} {o : Oper} (hi : ops[i]? = some o) : ∀ c, o.op ≠ .defer c := by
  intro c e
  obtain ⟨hlt, rfl⟩ := Array.getElem?_eq_some_iff.1 hi
  have := (Array.all_eq_true.1 h) i hlt
  rw [e] at this
  cases this
theorem upon_in {n l : Nat} {o : Oper} {a : Act} {K : Act → World → Prop} {r : Result Next} (h : o.upon P a K Q r) : o.uponIn (Fence.wide.inRound l) n P a K Q r := by
  cases r with
  | ok x w' =>
    cases x <;> simp only [Oper.upon] at h <;> simp only [Oper.uponIn] <;> first
      | exact h
      | exact ⟨fun h => (by cases h), callsIn_of_calls h⟩
      | exact ⟨fun h => (by cases h), rowsIn_of_rows h⟩
  | halt x w' => cases x <;> simp only [Oper.upon] at h <;> simp only [Oper.uponIn] <;> exact h
theorem wpOp_in {n l : Nat} {i : Nat} {K : Act → World → Prop} {a : Act} {w : World} (hnd : noDefer ops = true) (hout : ¬ LetsOut Q) (h : wpOp P ops Q i K a w) : wpOpIn (Fence.wide.inRound l) n P ops Q i K a w := by
  unfold wpOp at h
  unfold wpOpIn
  split
  · rename_i ho; simp only [ho] at h; exact h
  · rename_i o ho
    simp only [ho] at h
    split
    · rename_i hw
      simp only [hw, if_true] at h
      rcases h with h | h
      · refine ⟨fun _ _ => trivial, ?_⟩
        rw [Oper.semAt_eq _ _ _ (noDefer_spec hnd ho)]
        exact upon_in h
      · exact absurd h.2 hout
    · rename_i hw
      simp only [hw] at h
      exact ⟨fun _ _ => trivial, h⟩
theorem wpAny_in {n l : Nat} (hnd : noDefer ops = true) (hout : ¬ LetsOut Q) : ∀ (fuel : Nat) (listed : Array Bool) (a : Act) (w : World), wpAny P md ops Q fuel listed a w → wpAnyIn (Fence.wide.inRound l) n P md ops Q fuel listed a w
  | 0, _, _, _, h => h
  | fuel + 1, listed, a, w, h => ⟨h.1, fun i hi => wpOpIn_mono (fun a w h => wpAny_in hnd hout fuel _ a w h) (wpOp_in hnd hout (h.2 i hi))⟩
/-- Within a round: what is held of the world is shown once behind the draw, and anew behind each call and store. -/
theorem held_in {n l id : Nat} {a : Act} {w : World} (S : World → Prop) (hm : P.follows .mixedOrders = true) (hnd : noDefer ops = true) (hout : ¬ LetsOut Q) (hS : S w.drew)
    (h : S w.drew → wpAnyH P .any ops Q S ops.size (Array.replicate ops.size false) a w.drew) : (Code.region id ops true).wpIn (Fence.wide.inRound l) n P Q a w :=
  wpIn_region_any hm (wpAny_in hnd hout _ _ _ _ (wpAny_of_held _ _ _ _ (h hS)))
end Go.Proofs.Ytghmjdmiaajbnaa
/-
  A region that draws its order, by what holds whichever operations have come up: one step an operation, whatever the orders.
-/
namespace Go.Proofs.Ytghmjdmiaajbnaa
open Go.RowKit

variable {P : Program} {ops : Array Oper} {Q : Exit → Act → World → Prop}

theorem inv_mem {L : Array Bool} {i : Nat} (h : i ∈ Region.ready .any ops L) : i < ops.size ∧ L.getD i true = false ∧ ∃ o, ops[i]? = some o ∧ ∀ e ∈ o.after, Region.binds .any e = true → L.getD e.on false = true := by
  unfold Region.ready at h
  rw [List.mem_filter, List.mem_range, Bool.and_eq_true] at h
  obtain ⟨h1, h2, h3⟩ := h
  refine ⟨h1, by simpa using h2, ops[i], by simp [h1], fun e he hb => ?_⟩
  rw [Array.getElem?_eq_getElem h1] at h3
  simp only [Option.map_some, Option.getD_some, Array.all_eq_true_iff_forall_mem] at h3
  have := h3 e he
  rw [hb] at this
  simpa using this
theorem inv_ready {L : Array Bool} {i : Nat} {o : Oper} (h1 : L.getD i true = false) (h2 : ops[i]? = some o) (h3 : ∀ e ∈ o.after, Region.binds .any e = true → L.getD e.on false = true) : i ∈ Region.ready .any ops L := by
  unfold Region.ready
  have hi : i < ops.size := by
    rcases Nat.lt_or_ge i ops.size with h | h
    · exact h
    · rw [Array.getElem?_eq_none h] at h2; cases h2
  rw [List.mem_filter, List.mem_range, Bool.and_eq_true]
  refine ⟨hi, by simp [h1], ?_⟩
  rw [h2]
  simp only [Option.map_some, Option.getD_some, Array.all_eq_true_iff_forall_mem]
  intro e he
  cases hb : Region.binds .any e
  · rfl
  · simp [h3 e he hb]

/-- What an operation waits for has come up. -/
theorem inv_dep {L : Array Bool} {i : Nat} {o : Oper} (ho : ops[i]? = some o) (hall : ∀ e ∈ o.after, Region.binds .any e = true → L.getD e.on false = true) (j : Nat)
    (hd : ((ops[i]?).map (·.after.any fun e => Region.binds .any e && e.on == j)).getD false = true) : L.getD j false = true := by
  rw [ho] at hd
  simp only [Option.map_some, Option.getD_some, Array.any_eq_true'] at hd
  obtain ⟨e, he, hb⟩ := hd
  rw [Bool.and_eq_true] at hb
  have := hall e he hb.1
  rwa [show e.on = j by simpa using hb.2] at this
/-- Every operation waits for earlier ones only. -/
def Upward (ops : Array Oper) : Bool := (List.range ops.size).all fun i => ((ops[i]?).map (·.after.all fun e => !Region.binds .any e || decide (e.on < i))).getD false
theorem inv_all (hup : Upward ops = true) {L : Array Bool} (hs : L.size = ops.size) (hr : Region.ready .any ops L = []) : L = Array.replicate ops.size true := by
  have key : ∀ i, i < ops.size → L.getD i true = true := by
    intro i
    induction i using Nat.strongRecOn with
    | _ i ih =>
      intro hi
      cases hL : L.getD i true
      · exfalso
        have hm : i ∈ Region.ready .any ops L := by
          refine inv_ready hL (o := ops[i]) (by simp [hi]) fun e he hbd => ?_
          have hu := List.all_eq_true.1 hup i (List.mem_range.2 hi)
          rw [Array.getElem?_eq_getElem hi] at hu
          simp only [Option.map_some, Option.getD_some, Array.all_eq_true_iff_forall_mem] at hu
          have hlt : e.on < i := by have := hu e he; rw [hbd] at this; simpa using this
          have h1 := ih e.on hlt (by omega)
          have h2 : e.on < L.size := by omega
          simpa [Array.getD, h2] using h1
        rw [hr] at hm; cases hm
      · rfl
  apply Array.ext
  · simp [hs]
  · intro i h1 h2
    have := key i (by omega)
    simpa [Array.getD, h1] using this

theorem wpAny_inv (I : Array Bool → Act → World → Prop) (hup : Upward ops = true) (hsz : ∀ L a w, I L a w → L.size = ops.size)
    (step : ∀ L a w, I L a w → ∀ i, i ∈ Region.ready .any ops L → wpOp P ops Q i (fun a' w' => I (L.setIfInBounds i true) a' w') a w)
    (fin : ∀ a w, I (Array.replicate ops.size true) a w → Q .normal a w) :
    ∀ (fuel : Nat) (L : Array Bool) (a : Act) (w : World), I L a w → L.toList.count false ≤ fuel → wpAny P .any ops Q fuel L a w := by
  have done : ∀ L a w, I L a w → Region.ready .any ops L = [] → Q .normal a w := fun L a w h hr => fin a w (by rw [← inv_all hup (hsz L a w h) hr]; exact h)
  intro fuel
  induction fuel with
  | zero =>
    intro L a w h hc
    have hr : Region.ready .any ops L = [] := by
      apply List.eq_nil_iff_forall_not_mem.2
      intro i hi
      obtain ⟨h1, h2, -⟩ := inv_mem hi
      have hl : i < L.size := by rw [hsz L a w h]; exact h1
      have : L[i] = false := by simpa [Array.getD, hl] using h2
      have hm : false ∈ L.toList := by rw [← this]; simp
      have := List.count_pos_iff.2 hm
      omega
    exact ⟨hr, done L a w h hr⟩
  | succ fuel ih =>
    intro L a w h hc
    refine ⟨fun hr => done L a w h hr, fun i hi => ?_⟩
    obtain ⟨h1, h2, -⟩ := inv_mem hi
    have hl : i < L.size := by rw [hsz L a w h]; exact h1
    have hf : L[i] = false := by simpa [Array.getD, hl] using h2
    refine wpOp_mono (fun a' w' h' => ih _ a' w' h' ?_) (step L a w h i hi)
    have e : (L.setIfInBounds i true).toList = L.toList.set i true := by simp
    rw [e, List.count_set (by simpa using hl)]
    have hf' : L.toList[i]'(by simpa using hl) = false := by simpa using hf
    have hm : false ∈ L.toList := by rw [← hf']; exact List.getElem_mem _
    have := List.count_pos_iff.2 hm
    rw [hf']
    show L.toList.count false - 1 + 0 ≤ fuel
    omega

theorem inv_op {i : Nat} {o : Oper} {K0 : Act → World → Prop} {a : Act} {w : World} (ho : ops[i]? = some o) (hw : Region.wanted o (yielded ops a.tmps) = true)
    (h : ∀ K, Hid (∀ a' w', K0 a' w' → K a' w') → o.wp P a w K Q) : wpOp P ops Q i K0 a w := by
  unfold wpOp
  rw [ho]
  simp only [hw, if_true]
  exact .inl (h K0 (Lib.hid fun _ _ h => h))
end Go.Proofs.Ytghmjdmiaajbnaa
/-
  Within a round of a loop over an iterator: a region that draws its order, by what holds whichever operations have come up.
-/
namespace Go.Proofs.Ytghmjdmiaajbnaa
open Go.RowKit
set_option linter.unusedVariables false
set_option linter.unusedSimpArgs false

theorem wp_region_inv_in {P : Program} {ops : Array Oper} {Q : Exit → Act → World → Prop} {n l id : Nat} {a0 : Act} {w : World} (I : Act → Array Bool → Act → World → Prop) (hm : P.follows .mixedOrders = true) (hup : Upward ops = true) (hnd : noDefer ops = true) (hout : ¬ LetsOut Q)
    (hsz : ∀ L a w, I a0 L a w → L.size = ops.size)
    (start : I a0 (Array.replicate ops.size false) a0 w.drew)
    (step : ∀ L a w, I a0 L a w → ∀ i, i ∈ Region.ready .any ops L → wpOp P ops Q i (fun a' w' => I a0 (L.setIfInBounds i true) a' w') a w)
    (fin : ∀ a w, I a0 (Array.replicate ops.size true) a w → Q .normal a w) : (Code.region id ops true).wpIn (Fence.wide.inRound l) n P Q a0 w :=
  wpIn_region_any hm (wpAny_in hnd hout _ _ _ _ (wpAny_inv (I a0) hup hsz step fin _ _ _ _ start (by simp)))
/-- What lay behind a number, and is no cells, is as it was. -/
theorem KeepsFrom.call {B : Nat} {X Y Z : World} (h : KeepsFrom B X Y) (hb : Below Y.heap.size Y Z) : KeepsFrom B X Z := h.trans (KeepsFrom.of_below hb)
theorem KeepsFrom.set {B : Nat} {X Y : World} (h : KeepsFrom B X Y) (a : Addr) (v : Value) : KeepsFrom B X (Y.setCell a v) := h.trans ((KeepsOthers.setCell _ _ _).from _)
theorem PixG.set {Bm b off len c : Nat} {Wd Hd : Int} {R : Nat → Int → Prop} {W : World} {g i : Nat} {v : Value} (h : PixG Bm b off len c Wd Hd R W) (h1 : Bm ≠ g) (h2 : b ≠ g) : PixG Bm b off len c Wd Hd R (W.setCell ⟨g, i, none⟩ v) := by
  obtain ⟨g0, g1, g2, g3⟩ := h
  have key : ∀ (k o : Nat), k ≠ g → (W.setCell ⟨g, i, none⟩ v).cell? ⟨k, o, none⟩ = W.cell? ⟨k, o, none⟩ := fun k o hk => World.cell?_of_block (w := W) (Below.heap_setCell W ⟨g, i, none⟩ v k (fun e => hk e))
  exact ⟨(key _ _ h1).trans g0, (key _ _ h1).trans g1, (key _ _ h1).trans g2, fun j hj => by obtain ⟨z, hz, cz⟩ := g3 j hj; exact ⟨z, hz, (key _ _ h2).trans cz⟩⟩
end Go.Proofs.Ytghmjdmiaajbnaa
/-
  Layer 2: whether an image is valid, by the code and by the document.
-/
namespace Go.Proofs.Ytghmjdmiaajbnaa
open Go.RowKit
set_option linter.unusedVariables false
set_option linter.unusedSimpArgs false

set_option maxHeartbeats 1000000 in
theorem icheck_any (W H : Int) (a : Option Addr) (n c : Nat) (zs : List Int) (hn : n ≤ maxLen) (w : World) (hR : Row w a n (iv zs)) :
    Calls Try.prog 51 #[.agg #[.int .i64 W, .int .i64 H, .slice a n c]] w fun e w' => e = .returned (.int .i64 (ckI W H zs)) ∧ Below w.heap.size w w' := by
  unfold maxLen at hn
  have hlen : zs.length = n := by have := hR.1; rwa [iv_length] at this
  have HR := Lib.hid hR
  clear hR
  by_cases hW : okS W
  · have dW : decide (okS W) = true := decide_eq_true hW
    by_cases hH : okS H
    · have dH : decide (okS H) = true := decide_eq_true hH
      have hm := okS_mul hW hH
      by_cases hL : (n : Int) = W * H
      · have hl : ((n : Int) != W * H) = false := by simpa using hL
        have HO : Hid ((okS W ∧ okS H) ∧ (zs.length : Int) = W * H) := ⟨⟨hW, hH⟩, by rw [hlen]; exact hL⟩
        have HN := Lib.hid hlen
        clear hlen hL hW hH
        go_enter Try.func51, Try.ntmps51
        go_wp2_with (go_at_call 79; (with_reducible refine (isSide_any _ _).mono ?_); rintro e w1 ⟨rfl, rfl⟩)
        go_loop [29] (fun i => ∃ k : Nat, k ≤ n ∧ i = .int .i64 k ∧ Hid (Upto zs k)) (fun i => n - (intOf i).toNat)
        case atStart => exact ⟨0, Nat.zero_le _, rfl, Upto.zero zs⟩
        case round =>
          obtain ⟨k, hk, rfl, hu⟩ := hrel
          by_cases hlt : k < n
          · obtain ⟨b, off, z, rfl, -, hz, hc⟩ := HR.out.int hlt
            have hc := cell_alloc (o := .cells #[.int .i64 W, .int .i64 H, .slice (some ⟨b, off, none⟩) n c] 24) hc
            by_cases hv : okV z
            · have dv : decide (okV z) = true := decide_eq_true hv
              have hu' : Hid (Upto zs (k + 1)) := hu.out.snoc hz hv
              clear hz hv
              go_wp2_with (go_at_call 80; (with_reducible refine (isValue_any _ _).mono ?_); rintro e w1 ⟨rfl, rfl⟩)
              go_round
              case rel => exact ⟨k + 1, hlt, by go_num, hu'⟩
              case measure => simp [intOf]; omega
            · have dv : decide (okV z) = false := decide_eq_false hv
              have he : ckI W H zs = 20 := ckI_no (fun h => hv (h.2.2 z (List.mem_of_getElem? hz)))
              clear hz hv
              go_wp2_with (go_at_call 80; (with_reducible refine (isValue_any _ _).mono ?_); rintro e w1 ⟨rfl, rfl⟩)
              go_ret
              exact ⟨by first | rfl | exact ret_int he.symm, by (repeat' (first | (with_reducible exact Below.refl _ _) | (with_reducible assumption) | (with_reducible refine belowThru ?_ (by assumption)) | (with_reducible refine belowAlloc ?_) | (with_reducible refine Below.setCell ?_ (by first | omega | (simp; done) | (simp; omega)) _) | (with_reducible refine Below.drew ?_) | (with_reducible refine below_drewN ?_ _)))⟩
          · have he : ckI W H zs = 0 := ckI_ok ⟨HO.out.1, HO.out.2, hu.out.all (by rw [HN.out]; omega)⟩
            go_wp2
            go_ret
            exact ⟨by first | rfl | exact ret_int he.symm, by (repeat' (first | (with_reducible exact Below.refl _ _) | (with_reducible assumption) | (with_reducible refine belowThru ?_ (by assumption)) | (with_reducible refine belowAlloc ?_) | (with_reducible refine Below.setCell ?_ (by first | omega | (simp; done) | (simp; omega)) _) | (with_reducible refine Below.drew ?_) | (with_reducible refine below_drewN ?_ _)))⟩
      · have hl : ((n : Int) != W * H) = true := by simpa using hL
        have he : ckI W H zs = 20 := ckI_no (fun h => hL (by rw [← hlen]; exact h.2.1))
        clear hlen hL hW hH
        rw [he]
        clear he
        go_enter Try.func51, Try.ntmps51
        go_wp2_with (go_at_call 79; (with_reducible refine (isSide_any _ _).mono ?_); rintro e w1 ⟨rfl, rfl⟩)
        go_ret
        exact ⟨rfl, by (repeat' (first | (with_reducible exact Below.refl _ _) | (with_reducible assumption) | (with_reducible refine belowThru ?_ (by assumption)) | (with_reducible refine belowAlloc ?_) | (with_reducible refine Below.setCell ?_ (by first | omega | (simp; done) | (simp; omega)) _) | (with_reducible refine Below.drew ?_) | (with_reducible refine below_drewN ?_ _)))⟩
    · have dH : decide (okS H) = false := decide_eq_false hH
      rw [ckI_no (fun h => hH h.1.2)]
      clear hlen hW hH
      go_enter Try.func51, Try.ntmps51
      go_wp2_with (go_at_call 79; (with_reducible refine (isSide_any _ _).mono ?_); rintro e w1 ⟨rfl, rfl⟩)
      go_ret
      exact ⟨rfl, by (repeat' (first | (with_reducible exact Below.refl _ _) | (with_reducible assumption) | (with_reducible refine belowThru ?_ (by assumption)) | (with_reducible refine belowAlloc ?_) | (with_reducible refine Below.setCell ?_ (by first | omega | (simp; done) | (simp; omega)) _) | (with_reducible refine Below.drew ?_) | (with_reducible refine below_drewN ?_ _)))⟩
  · have dW : decide (okS W) = false := decide_eq_false hW
    rw [ckI_no (fun h => hW h.1.1)]
    clear hlen hW
    go_enter Try.func51, Try.ntmps51
    go_wp2_with (go_at_call 79; (with_reducible refine (isSide_any _ _).mono ?_); rintro e w1 ⟨rfl, rfl⟩)
    go_ret
    exact ⟨rfl, by (repeat' (first | (with_reducible exact Below.refl _ _) | (with_reducible assumption) | (with_reducible refine belowThru ?_ (by assumption)) | (with_reducible refine belowAlloc ?_) | (with_reducible refine Below.setCell ?_ (by first | omega | (simp; done) | (simp; omega)) _) | (with_reducible refine Below.drew ?_) | (with_reducible refine below_drewN ?_ _)))⟩

/-! ### The document's own answer -/
set_option maxHeartbeats 400000 in
theorem rwithin_any (n lo hi : Int) (v : Bool) (hv : v = true ↔ lo ≤ n ∧ n ≤ hi) (w : World) :
    Calls Try.prog 92 #[.int .i64 n, .int .i64 lo, .int .i64 hi] w fun e w' => e = .returned (.bool v) ∧ w = w' := by
  cases v
  · by_cases h1 : lo ≤ n
    · have h2 : ¬ n ≤ hi := fun h2 => by have := hv.2 ⟨h1, h2⟩; cases this
      clear hv
      go_enter Try.func92, Try.ntmps92
      go_wp2
      go_ret
      exact ⟨rfl, rfl⟩
    · clear hv
      go_enter Try.func92, Try.ntmps92
      go_wp2
      go_ret
      exact ⟨rfl, rfl⟩
  · obtain ⟨h1, h2⟩ := hv.1 rfl
    clear hv
    go_enter Try.func92, Try.ntmps92
    go_wp2
    go_ret
    exact ⟨rfl, rfl⟩
theorem rside_any (n : Int) (w : World) : Calls Try.prog 92 #[.int .i64 n, .int .i64 1, .int .i64 16] w fun e w' => e = .returned (.bool (decide (okS n))) ∧ w = w' :=
  rwithin_any n 1 16 _ decide_eq_true_iff w
theorem rvalue_any (n : Int) (w : World) : Calls Try.prog 92 #[.int .i64 n, .int .i64 (-2147483648), .int .i64 2147483648] w fun e w' => e = .returned (.bool (decide (okV n))) ∧ w = w' :=
  rwithin_any n _ _ _ decide_eq_true_iff w

set_option maxHeartbeats 1000000 in
theorem rvalid_any (W H : Int) (a : Option Addr) (n c : Nat) (zs : List Int) (hn : n ≤ maxLen) (w : World) (hR : Row w a n (iv zs)) :
    Calls Try.prog 43 #[.agg #[.int .i64 W, .int .i64 H, .slice a n c]] w fun e w' => e = .returned (.bool (decide (okI W H zs))) ∧ Below w.heap.size w w' := by
  unfold maxLen at hn
  have hlen : zs.length = n := by have := hR.1; rwa [iv_length] at this
  have HR := Lib.hid hR
  clear hR
  by_cases hW : okS W
  · have dW : decide (okS W) = true := decide_eq_true hW
    by_cases hH : okS H
    · have dH : decide (okS H) = true := decide_eq_true hH
      have hm := okS_mul hW hH
      by_cases hL : (n : Int) = W * H
      · have hl : ((n : Int) != W * H) = false := by simpa using hL
        have HO : Hid ((okS W ∧ okS H) ∧ (zs.length : Int) = W * H) := ⟨⟨hW, hH⟩, by rw [hlen]; exact hL⟩
        have HN := Lib.hid hlen
        clear hlen hL hW hH
        go_enter Try.func43, Try.ntmps43
        go_wp2_with (go_at_call 92; (with_reducible refine (rside_any _ _).mono ?_); rintro e w1 ⟨rfl, rfl⟩)
        go_loop [3] (fun i => ∃ k : Nat, k ≤ n ∧ i = .int .i64 k ∧ Hid (Upto zs k)) (fun i => n - (intOf i).toNat)
        case atStart => exact ⟨0, Nat.zero_le _, rfl, Upto.zero zs⟩
        case round =>
          obtain ⟨k, hk, rfl, hu⟩ := hrel
          by_cases hlt : k < n
          · obtain ⟨b, off, z, rfl, -, hz, hc⟩ := HR.out.int hlt
            have hc := cell_alloc (o := .cells #[.int .i64 W, .int .i64 H, .slice (some ⟨b, off, none⟩) n c] 24) hc
            by_cases hv : okV z
            · have dv : decide (okV z) = true := decide_eq_true hv
              have hu' : Hid (Upto zs (k + 1)) := hu.out.snoc hz hv
              clear hz hv
              go_wp2_with (go_at_call 92; (with_reducible refine (rvalue_any _ _).mono ?_); rintro e w1 ⟨rfl, rfl⟩)
              go_round
              case rel => exact ⟨k + 1, hlt, by go_num, hu'⟩
              case measure => simp [intOf]; omega
            · have dv : decide (okV z) = false := decide_eq_false hv
              have he : decide (okI W H zs) = false := decide_eq_false (fun h => hv (h.2.2 z (List.mem_of_getElem? hz)))
              clear hz hv
              go_wp2_with (go_at_call 92; (with_reducible refine (rvalue_any _ _).mono ?_); rintro e w1 ⟨rfl, rfl⟩)
              go_ret
              exact ⟨by first | rfl | (rw [he]; rfl), by (repeat' (first | (with_reducible exact Below.refl _ _) | (with_reducible assumption) | (with_reducible refine belowThru ?_ (by assumption)) | (with_reducible refine belowAlloc ?_) | (with_reducible refine Below.setCell ?_ (by first | omega | (simp; done) | (simp; omega)) _) | (with_reducible refine Below.drew ?_) | (with_reducible refine below_drewN ?_ _)))⟩
          · have he : decide (okI W H zs) = true := decide_eq_true ⟨HO.out.1, HO.out.2, hu.out.all (by rw [HN.out]; omega)⟩
            go_wp2
            go_ret
            exact ⟨by first | rfl | (rw [he]; rfl), by (repeat' (first | (with_reducible exact Below.refl _ _) | (with_reducible assumption) | (with_reducible refine belowThru ?_ (by assumption)) | (with_reducible refine belowAlloc ?_) | (with_reducible refine Below.setCell ?_ (by first | omega | (simp; done) | (simp; omega)) _) | (with_reducible refine Below.drew ?_) | (with_reducible refine below_drewN ?_ _)))⟩
      · have hl : ((n : Int) != W * H) = true := by simpa using hL
        rw [decide_eq_false (fun h : okI W H zs => hL (by rw [← hlen]; exact h.2.1))]
        clear hlen hL hW hH
        go_enter Try.func43, Try.ntmps43
        go_wp2_with (go_at_call 92; (with_reducible refine (rside_any _ _).mono ?_); rintro e w1 ⟨rfl, rfl⟩)
        go_ret
        exact ⟨rfl, by (repeat' (first | (with_reducible exact Below.refl _ _) | (with_reducible assumption) | (with_reducible refine belowThru ?_ (by assumption)) | (with_reducible refine belowAlloc ?_) | (with_reducible refine Below.setCell ?_ (by first | omega | (simp; done) | (simp; omega)) _) | (with_reducible refine Below.drew ?_) | (with_reducible refine below_drewN ?_ _)))⟩
    · have dH : decide (okS H) = false := decide_eq_false hH
      rw [decide_eq_false (fun h : okI W H zs => hH h.1.2)]
      clear hlen hW hH
      go_enter Try.func43, Try.ntmps43
      go_wp2_with (go_at_call 92; (with_reducible refine (rside_any _ _).mono ?_); rintro e w1 ⟨rfl, rfl⟩)
      go_ret
      exact ⟨rfl, by (repeat' (first | (with_reducible exact Below.refl _ _) | (with_reducible assumption) | (with_reducible refine belowThru ?_ (by assumption)) | (with_reducible refine belowAlloc ?_) | (with_reducible refine Below.setCell ?_ (by first | omega | (simp; done) | (simp; omega)) _) | (with_reducible refine Below.drew ?_) | (with_reducible refine below_drewN ?_ _)))⟩
  · have dW : decide (okS W) = false := decide_eq_false hW
    rw [decide_eq_false (fun h : okI W H zs => hW h.1.1)]
    clear hlen hW
    go_enter Try.func43, Try.ntmps43
    go_wp2_with (go_at_call 92; (with_reducible refine (rside_any _ _).mono ?_); rintro e w1 ⟨rfl, rfl⟩)
    go_ret
    exact ⟨rfl, by (repeat' (first | (with_reducible exact Below.refl _ _) | (with_reducible assumption) | (with_reducible refine belowThru ?_ (by assumption)) | (with_reducible refine belowAlloc ?_) | (with_reducible refine Below.setCell ?_ (by first | omega | (simp; done) | (simp; omega)) _) | (with_reducible refine Below.drew ?_) | (with_reducible refine below_drewN ?_ _)))⟩
end Go.Proofs.Ytghmjdmiaajbnaa
