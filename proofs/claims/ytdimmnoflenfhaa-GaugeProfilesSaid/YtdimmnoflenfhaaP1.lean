/-
  The texts that the laws of this seat share, merged: part 1.
-/
import Derived.BigQuiet
import Derived.ChangeSame
import Derived.Deep.CutBlock
import Derived.Deep.DeepCutAuto
import Derived.Deep.DeepHandedRow
import Derived.Deep.Draws
import Derived.Deep.LoopGhost
import Derived.Deep.QuietTactic
import Derived.Deep.RegionHeld3
import Derived.IntWalk
import Derived.LaidSub
import Derived.Laws.AppendOwn
import Derived.Laws.Bits64b
import Derived.Lay
import Derived.Lib.Hide
import Derived.Lib.ItoaNum
import Derived.Lib.SmallJoins
import Derived.LoopIn
import Derived.LoopNIn
import Derived.LoopTactic
import Derived.OneCell
import Derived.OpenShut
import Derived.Orders
import Derived.OwnWalkIn
import Derived.ProofKit
import Derived.RangeFuncBound
import Derived.RangeFuncCalls
import Derived.RangeFuncLeaves
import Derived.RangeFuncNested
import Derived.Shelf.Abstract
import Derived.Shelf.AbstractIn
import Derived.Shelf.Bits.Mul64
import Derived.Shelf.RegionOpen
import Derived.Shelf.Small.Bits
import Derived.Shelf.Spec.BitsCarry
import Derived.Shelf.Strconv.Itoa0
import Derived.TacticsInMore
import Derived.Test.YtdimmnoflenfhaaProg
import Derived.Test.YtdimmnoflenfhaaRows
import Derived.WalkKit
import Derived.WalkLawsBesides
import Derived.WalkSmall
import Derived.WalkSpells
/-
  A block of the memory that is known whole, and what leaves it so.
-/
namespace Go.Proofs.Ytdimmnoflenfhaa
open Go.RowKit

/-- Block b holds these cells, and may be written. -/
def Blk (w : World) (b : Nat) (c : Array Value) (t : TypeId) : Prop := w.heap[b]? = some (.cells c t (0, 0))
theorem Blk.lt {w : World} {b : Nat} {c : Array Value} {t : TypeId} (h : Blk w b c t) : b < w.heap.size := lt_of_block h
theorem Blk.later {w wx : World} {b : Nat} {c : Array Value} {t : TypeId} (hb : Below w.heap.size w wx) (h : Blk w b c t) : Blk wx b c t := (hb.block b h.lt).trans h
theorem Blk.below {B : Nat} {w wx : World} {b : Nat} {c : Array Value} {t : TypeId} (hb : Below B w wx) (hB : b < B) (h : Blk w b c t) : Blk wx b c t := (hb.block b hB).trans h
theorem Blk.new {w : World} {n : Nat} {c : Array Value} {t : TypeId} (hn : n = w.heap.size) : Blk (w.alloc (.cells c t)) n c t := by
  subst hn
  show (w.heap.push _)[w.heap.size]? = _
  simp
theorem Blk.alloc {w : World} {o : Obj} {b : Nat} {c : Array Value} {t : TypeId} (h : Blk w b c t) : Blk (w.alloc o) b c t := by
  have := h.lt
  exact (Below.heap_alloc w o b this).trans h
theorem Blk.drewN {w : World} {n b : Nat} {c : Array Value} {t : TypeId} (h : Blk w b c t) : Blk (w.drewN n) b c t := h
theorem Blk.drew {w : World} {b : Nat} {c : Array Value} {t : TypeId} (h : Blk w b c t) : Blk w.drew b c t := h
theorem Blk.other {w : World} {a : Addr} {v : Value} {b : Nat} {c : Array Value} {t : TypeId} (h : Blk w b c t) (ha : b ≠ a.block) : Blk (w.setCell a v) b c t :=
  (Below.heap_setCell w a v b ha).trans h
theorem Blk.set {w : World} {i b : Nat} {v : Value} {c : Array Value} {t : TypeId} (h : Blk w b c t) : Blk (w.setCell ⟨b, i, none⟩ v) b (c.setIfInBounds i v) t := by
  have hlt := h.lt
  have h' : w.heap[b] = .cells c t (0, 0) := by
    have : w.heap[b]? = some (.cells c t (0, 0)) := h
    simpa [Array.getElem?_eq_getElem hlt] using this
  show (w.heap.modify b _)[b]? = _
  rw [Array.getElem?_eq_getElem (by simpa using hlt), Array.getElem_modify_self, h']
  rfl
theorem Blk.keepG {w W w1 : World} {b : Nat} {c : Array Value} {t : TypeId} {G : Prop} (hb : Below W.heap.size W w1) (k : Blk w b c t) (h : Blk w b c t → Blk W b c t) (g : Blk w1 b c t → G) : G := g (Blk.later hb (h k))
theorem Blk.cells {w : World} {b : Nat} {c : Array Value} {t : TypeId} (h : Blk w b c t) (i : Nat) : w.cell? ⟨b, i, none⟩ = c[i]? := by
  have h' : w.heap[b]? = some (.cells c t (0, 0)) := h
  simp [World.cell?, h']
theorem Blk.free {w : World} {b : Nat} {c : Array Value} {t : TypeId} (h : Blk w b c t) (i : Nat) : w.frozen? ⟨b, i, none⟩ = false := by
  have h' : w.heap[b]? = some (.cells c t (0, 0)) := h
  simp [World.frozen?, h']
theorem Blk.full {w : World} {b : Nat} {c : Array Value} {t : TypeId} (h : Blk w b c t) : Blk w b c t ∧ (∀ i : Nat, w.cell? ⟨b, i, none⟩ = c[i]?) := ⟨h, h.cells⟩
theorem Blk.read {w : World} {b : Nat} {c : Array Value} {t : TypeId} (h : Blk w b c t) : (∀ i, w.cell? ⟨b, i, none⟩ = c[i]?) ∧ (∀ i, w.frozen? ⟨b, i, none⟩ = false) := ⟨h.cells, h.free⟩
theorem belowThru {w W w1 : World} (h : Below w.heap.size w W) (hb : Below W.heap.size W w1) : Below w.heap.size w w1 := h.trans (hb.mono h.size)
theorem belowAlloc {w W : World} {o : Obj} (h : Below w.heap.size w W) : Below w.heap.size w (W.alloc o) := h.alloc h.size o
/-- A pointer to a block from a number on that holds these cells. -/
def At (wx : World) (lo : Nat) (c : Array Value) (t : TypeId) (s : Value) : Prop := ∃ b : Nat, s = .pointer (some ⟨b, 0, none⟩) ∧ lo ≤ b ∧ Blk wx b c t
theorem At.mk {wx : World} {lo b : Nat} {c : Array Value} {t : TypeId} (h : lo ≤ b) (k : Blk wx b c t) : At wx lo c t (.pointer (some ⟨b, 0, none⟩)) := ⟨b, rfl, h, k⟩
/-- Two pointers to two blocks from a number on. -/
def At2 (wx : World) (lo : Nat) (c d : Array Value) (t : TypeId) (s u : Value) : Prop := ∃ a b : Nat, s = .pointer (some ⟨a, 0, none⟩) ∧ u = .pointer (some ⟨b, 0, none⟩) ∧ lo ≤ a ∧ lo ≤ b ∧ a ≠ b ∧ Blk wx a c t ∧ Blk wx b d t
theorem At2.mk {wx : World} {lo a b : Nat} {c d : Array Value} {t : TypeId} (ha : lo ≤ a) (hb : lo ≤ b) (hn : a ≠ b) (k : Blk wx a c t) (l : Blk wx b d t) : At2 wx lo c d t (.pointer (some ⟨a, 0, none⟩)) (.pointer (some ⟨b, 0, none⟩)) := ⟨a, b, rfl, rfl, ha, hb, hn, k, l⟩
theorem hold1 {w : World} {b0 : Nat} {c0 : Array Value} {t0 : TypeId} {B E G : Prop} (h : (Blk w b0 c0 t0 ∧ B) ∧ E) (g : Blk w b0 c0 t0 → E → G) : G := g h.1.1 h.2
end Go.Proofs.Ytdimmnoflenfhaa
/-
  Slices that read as lists; what a call keeps.
-/
namespace Go.Proofs.Ytdimmnoflenfhaa
open Go.RowKit
set_option linter.unusedVariables false
set_option linter.unusedSimpArgs false

/-- The cells of some numbers. -/
def ints (zs : List Int) : Array Value := (zs.map (Value.int .i64)).toArray
theorem ints_get (zs : List Int) (j : Nat) : (ints zs)[j]? = zs[j]?.map (Value.int .i64) := by simp [ints]
/-- A slice that reads as these values; its address is known only where it has an element. -/
def Row (w : World) (a : Option Addr) (n : Nat) (vs : List Value) : Prop :=
  vs.length = n ∧ (0 < n → ∃ b off, a = some ⟨b, off, none⟩ ∧ b < w.heap.size ∧ ∀ j, j < n → w.cell? ⟨b, off + j, none⟩ = vs[j]?)
/-- Whole numbers, and truth values, as values. -/
def iv (zs : List Int) : List Value := zs.map (Value.int .i64)
def bv (zs : List Bool) : List Value := zs.map Value.bool
theorem iv_length (zs : List Int) : (iv zs).length = zs.length := by simp [iv]
theorem bv_length (zs : List Bool) : (bv zs).length = zs.length := by simp [bv]
theorem iv_get (zs : List Int) (j : Nat) : (iv zs)[j]? = zs[j]?.map (Value.int .i64) := by simp [iv]
theorem bv_get (zs : List Bool) (j : Nat) : (bv zs)[j]? = zs[j]?.map Value.bool := by simp [bv]
theorem Row.later {w w' : World} (hb : Below w.heap.size w w') {a : Option Addr} {n : Nat} {vs : List Value} (h : Row w a n vs) : Row w' a n vs :=
  ⟨h.1, fun hn => by
    obtain ⟨b, off, ha, hlt, hc⟩ := h.2 hn
    exact ⟨b, off, ha, Nat.lt_of_lt_of_le hlt hb.size, fun j hj => (World.cell?_of_block (w := w) (hb.block b hlt)).trans (hc j hj)⟩⟩
theorem Row.drew {w : World} {a : Option Addr} {n : Nat} {vs : List Value} (h : Row w a n vs) : Row w.drew a n vs := h
theorem Row.int {w : World} {a : Option Addr} {n : Nat} {zs : List Int} (h : Row w a n (iv zs)) {k : Nat} (hk : k < n) :
    ∃ b off z, a = some ⟨b, off, none⟩ ∧ b < w.heap.size ∧ zs[k]? = some z ∧ w.cell? ⟨b, off + k, none⟩ = some (.int .i64 z) := by
  obtain ⟨b, off, ha, hlt, hc⟩ := h.2 (by omega)
  have hl : k < zs.length := by have := h.1; rw [iv_length] at this; omega
  refine ⟨b, off, zs[k], ha, hlt, List.getElem?_eq_getElem hl, ?_⟩
  rw [hc k hk, iv_get, List.getElem?_eq_getElem hl]; rfl
theorem Row.bool {w : World} {a : Option Addr} {n : Nat} {zs : List Bool} (h : Row w a n (bv zs)) {k : Nat} (hk : k < n) :
    ∃ b off z, a = some ⟨b, off, none⟩ ∧ b < w.heap.size ∧ zs[k]? = some z ∧ w.cell? ⟨b, off + k, none⟩ = some (.bool z) := by
  obtain ⟨b, off, ha, hlt, hc⟩ := h.2 (by omega)
  have hl : k < zs.length := by have := h.1; rw [bv_length] at this; omega
  refine ⟨b, off, zs[k], ha, hlt, List.getElem?_eq_getElem hl, ?_⟩
  rw [hc k hk, bv_get, List.getElem?_eq_getElem hl]; rfl
theorem Row.of_blk {w : World} {b : Nat} {zs : List Int} {t : TypeId} (h : Blk w b (ints zs) t) : Row w (some ⟨b, 0, none⟩) zs.length (iv zs) :=
  ⟨iv_length zs, fun _ => ⟨b, 0, rfl, h.lt, fun j _ => by rw [h.cells, ints_get, iv_get, Nat.zero_add]⟩⟩
theorem Row.nil (w : World) (a : Option Addr) : Row w a 0 [] := ⟨rfl, fun h => absurd h (by omega)⟩

end Go.Proofs.Ytdimmnoflenfhaa
/-
  What every plain law of the seat asks beside its walk, whatever its arguments: the answer true in a world in which all that was there reads as before.
-/
namespace Go.Proofs.Ytdimmnoflenfhaa
open Go.ChangeShapes Go.WideShapes Go.ChangeAt Go.RowKit
set_option linter.unusedVariables false
set_option linter.unusedSimpArgs false

theorem own : ownKnob Try.prog.godebug = none := by kernel_rfl
theorem laidOut : laidOutB Try.prog = true := by kernel_rfl

section
variable {H : Type} {enc : TypeId × Value → H}
/-- All that was there reads as before. -/
theorem trodAll_keep {P : Program} (hl : laidOutB P = true) {W W' : World} (hb : Below W.heap.size W W') (sp : Nat → Bool) (ts : List TypeId) :
    ∀ (vs : List Value) (ds : List (DataW H)) (ps : List MemPlace), (ts.all fun t => P.readableRec t && decide (t < P.types.size)) = true → DataW.TrodAll enc P W 0 (fun _ => true) true ts vs ds ps → (∀ x ∈ ps, x.block < W.heap.size) → (∀ x ∈ ps, sp x.block = true) →
    DataW.TrodAll enc P W' 0 sp true ts vs ds ps := by
  induction ts with
  | nil =>
    intro vs ds ps _ h _ _
    obtain ⟨rfl, rfl, rfl⟩ := trodAll_nil h
    exact trodAll_mk0
  | cons t ts ih =>
    intro vs ds ps hr h hlt hsp
    obtain ⟨v, vs, d, ds, p, q, rfl, rfl, rfl, h0, h1⟩ := trodAll_cons h
    rw [List.all_cons, Bool.and_eq_true, Bool.and_eq_true, decide_eq_true_eq] at hr
    exact trodAll_cons_mk (WideElems.Trod_stays hl hr.1.1 hr.1.2 h0 (fun x hx => hb.same (hlt x (List.mem_append_left _ hx))) (fun x hx => hsp x (List.mem_append_left _ hx)))
      (ih vs ds q hr.2 h1 (fun x hx => hlt x (List.mem_append_right _ hx)) (fun x hx => hsp x (List.mem_append_right _ hx)))

set_option maxRecDepth 100000 in
/-- The answer is true, and what was there is as it was. -/
theorem post_keep {fn : Func} {s : ChangeSpec} {apart : Bool} {W W' : World} {args : Array Value} {ds : List (DataW H)} {before : List MemPlace}
    (hW : DataW.Whole enc Try.prog fn.params.toList s.vars apart W args.toList ds [] before) (hv : s.vars = []) (hr : fn.resultTypes = #[4])
    (hs : s.fn H ds = { results := [.lit (.bool true)], args := ds })
    (hp : (fn.params.toList.all fun t => Try.prog.readableRec t && decide (t < Try.prog.types.size)) = true)
    (hb : Below W.heap.size W W') : s.post enc Try.prog fn apart true false false W args (.bool true) W' := by
  have hbool : Try.prog.underlying 4 = some .bool := by kernel_rfl
  have hlt : ∀ p ∈ before, p.block < W.heap.size := fun p hp => hW.lt p hp
  have hold : ∀ p ∈ before, (fun b => decide (b < W.heap.size)) p.block = true := fun p hp => by simpa using hlt p hp
  have hW0 := hW
  obtain ⟨pa, pv, hA, hV, rfl, hz, hn⟩ := hW0
  have hV' := hV
  rw [hv] at hV'
  obtain ⟨-, rfl⟩ := trodVars_none hV'
  have hres : ∀ (b : Nat) (sp : Nat → Bool) (hd : Bool), DataW.TrodAll enc Try.prog W' b sp hd fn.resultTypes.toList ((Value.bool true).resultList fn.resultTypes.size) (s.fn H (ds ++ [])).results [] := by
    intro b sp hd
    rw [List.append_nil, hs, hr]
    exact trodAll_cons_mk (shut_bool hbool _) trodAll_mk0
  have hargs : ∀ sp : Nat → Bool, (∀ p ∈ pa, sp p.block = true) → DataW.TrodAll enc Try.prog W' 0 sp true fn.params.toList args.toList (s.fn H (ds ++ [])).args pa := by
    intro sp hsp
    rw [List.append_nil, hs]
    exact trodAll_keep laidOut hb sp _ _ _ _ hp hA (fun x hx => hlt x (by simpa using hx)) hsp
  have hvars : ∀ sp : Nat → Bool, DataW.TrodVars enc Try.prog W' sp s.vars (s.fn H (ds ++ [])).vars [] := by
    intro sp
    rw [hv, List.append_nil, hs]
    exact rfl
  have hk : Value.okWide Try.prog W' .any 0 4 (.bool true) := okWide_bool_mk hbool true
  have hok := ok_one (P := Try.prog) (W' := W') (f := fn) (v := .bool true) hr (by simp [Value.resultList]) hk
  refine ⟨ds, [], pa ++ [], [], pa, [], hW, hres _ _ _, hargs _ (fun p hp => hold p (by simpa using hp)), hvars _, World.keptBut_mono (fun p hp => ⟨hp, ?_⟩) (hb.frame (· ∈ pa ++ [])), fun _ => ?_⟩
  · rw [List.mem_append] at hp
    exact Or.inr hp
  · refine ⟨hok, _, _, ([] ++ pa) ++ [], ⟨[] ++ pa, [], trodAll_append (hargs _ (fun _ _ => rfl)) (hres _ _ _), hvars _, rfl, ?_, ?_⟩, ?_⟩
    · intro b off hp
      have hin : MemPlace.cell b off ∈ pa ++ [] := by simpa using hp
      rw [hb.frozen (hlt _ hin)]
      exact hz b off hin
    · intro ha
      have := hn ha
      simpa using this
    · intro p hp _
      simpa using hp

/-! ### A list among the arguments -/
/-- Whole numbers that came in: a slice value that reads as them. -/
theorem open_row {W : World} {fuel : Nat} {v : Value} {x : DataW H × List MemPlace} (h : DataW.trod enc Try.prog W 0 (fun _ => true) true fuel 27 [v] = some x) :
    ∃ (a : Option Addr) (n c : Nat) (zs : List Int), v = .slice a n c ∧ n ≤ c ∧ c ≤ maxLen ∧ Row W a n (iv zs) ∧ ((x.1.weights Try.prog 27).all (· ≤ reachBytes) = true → n * 8 ≤ 140737488351232) := by
  rcases open_ints Try.underlying27 Try.underlying3 (by kernel_rfl) h with ⟨hcs, _⟩ | ⟨a, len, cap, zs, hcs, _, hl, hm, hz, hxx, hcell, hwz⟩
  · simp only [List.cons.injEq, and_true] at hcs
    exact ⟨none, 0, 0, [], hcs, Nat.le_refl _, Nat.zero_le _, Row.nil _ _, fun _ => by omega⟩
  · simp only [List.cons.injEq, and_true] at hcs
    have hz' : zs.length = cap := by simpa using hz
    have hlen : (zs.take len).length = len := by rw [List.length_take]; omega
    refine ⟨some a, len, cap, zs.take len, hcs, hl, hm, ⟨by rw [iv_length]; exact hlen, fun h0 => ?_⟩, fun hw => ?_⟩
    case refine_2 =>
      rw [hxx] at hw
      simp only [DataW.weights, Try.underlying27, List.all_cons, Bool.and_eq_true, decide_eq_true_eq] at hw
      have hb : Try.prog.bytesOf 3 = 8 := by kernel_rfl
      have h1 := hw.1
      rw [hb] at h1
      simp only [lits, List.length_map, List.length_take, List.length_drop] at h1
      unfold reachBytes at h1
      omega
    obtain ⟨b, off, rfl, hc⟩ := ints_at hcell (by omega)
    refine ⟨b, off, rfl, ?_, fun j hj => ?_⟩
    · have := hc 0 (by omega)
      unfold World.cell? at this
      by_cases hb : b < W.heap.size
      · exact hb
      · simp [Array.getElem?_eq_none (show W.heap.size ≤ b by omega)] at this
    · have := hc j (by omega)
      rw [this, iv_get, List.getElem?_take_of_lt hj, List.getD_eq_getElem?_getD, List.getElem?_eq_getElem (show j < zs.length by omega)]
      rfl
set_option maxRecDepth 100000 in
/-- A list of whole numbers that came in. -/
theorem open_list {W : World} {b0 : Nat} {r : Reach} {v : Value} {d : DataW H} {p : List MemPlace} (hval : Value.okWide Try.prog W r b0 27 v) (h : DataW.Trod enc Try.prog W 0 (fun _ => true) true 27 v d p) :
    ∃ (a : Option Addr) (n c : Nat) (zs : List Int), v = .slice a n c ∧ n ≤ c ∧ c ≤ maxLen ∧ Row W a n (iv zs) ∧ ((d.weights Try.prog 27).all (· ≤ reachBytes) = true → n * 8 ≤ 140737488351232) := by
  obtain ⟨a0, n0, c0, rfl⟩ := okWide_slice Try.underlying27 hval
  obtain ⟨fuel, hf⟩ := h
  obtain ⟨a, n, c, zs, e, q1, q2, q3, q4⟩ := open_row (x := (d, p)) hf
  exact ⟨a, n, c, zs, e, q1, q2, q3, q4⟩
/-! ### A struct of whole numbers among the arguments -/
end
end Go.Proofs.Ytdimmnoflenfhaa
/-
  Plain arithmetic of words: a number of 128 bits in two's complement by its two words.
-/
namespace Go.Proofs.Ytdimmnoflenfhaa

/-- 2^64. -/
def B64 : Int := 18446744073709551616
/-- The lower and the upper word of a number. -/
def wlo (z : Int) : Int := z % B64
def whi (z : Int) : Int := z / B64 % B64
/-- The carry of the lower words' sum, of the upper words' sum; the borrows of the differences. -/
def car (a b : Int) : Int := (wlo a + wlo b) / B64
def car2 (a b : Int) : Int := (whi a + whi b + car a b) / B64
def bor (a b : Int) : Int := if wlo a < wlo b then 1 else 0
def bor2 (a b : Int) : Int := if whi a < whi b + bor a b then 1 else 0

theorem wlo_lo (z : Int) : 0 ≤ wlo z := by unfold wlo B64; omega
theorem wlo_hi (z : Int) : wlo z ≤ 18446744073709551615 := by unfold wlo B64; omega
theorem whi_lo (z : Int) : 0 ≤ whi z := by unfold whi B64; omega
theorem whi_hi (z : Int) : whi z ≤ 18446744073709551615 := by unfold whi B64; omega
theorem car_lo (a b : Int) : 0 ≤ car a b := by unfold car wlo B64; omega
theorem car_hi (a b : Int) : car a b ≤ 1 := by unfold car wlo B64; omega
theorem bor_lo (a b : Int) : 0 ≤ bor a b := by unfold bor; split <;> omega
theorem bor_hi (a b : Int) : bor a b ≤ 1 := by unfold bor; split <;> omega
theorem wlo_add (a b : Int) : wlo (a + b) = (wlo a + wlo b + 0) % 18446744073709551616 := by unfold wlo B64; omega
theorem car_add (a b : Int) : car a b = (wlo a + wlo b + 0) / 18446744073709551616 := by unfold car wlo B64; omega
theorem whi_add (a b : Int) : whi (a + b) = (whi a + whi b + car a b) % 18446744073709551616 := by unfold whi car wlo B64; omega
theorem car2_add (a b : Int) : car2 a b = (whi a + whi b + car a b) / 18446744073709551616 := by unfold car2 B64; rfl
theorem wlo_sub (a b : Int) : wlo (a - b) = (wlo a + 18446744073709551616 - wlo b) % 18446744073709551616 := by unfold wlo B64; omega
theorem whi_sub (a b : Int) : whi (a - b) = (whi a + 18446744073709551616 - whi b - bor a b) % 18446744073709551616 := by
  unfold whi bor wlo B64; split <;> omega
theorem wlo_of (n : Int) (h0 : 0 ≤ n) (h1 : n ≤ 18446744073709551615) : wlo n = n := by unfold wlo B64; omega
theorem whi_of (n : Int) (h0 : 0 ≤ n) (h1 : n ≤ 18446744073709551615) : whi n = 0 := by unfold whi B64; omega
/-- A number within 127 bits and a sign is told by its words. -/
theorem zero_of (z : Int) (h0 : -170141183460469231731687303715884105728 ≤ z) (h1 : z < 170141183460469231731687303715884105728) : (whi z = 0 ∧ wlo z = 0) ↔ z = 0 := by
  unfold whi wlo B64; omega
theorem neg_of (z : Int) (h0 : -170141183460469231731687303715884105728 ≤ z) (h1 : z < 170141183460469231731687303715884105728) : 9223372036854775808 ≤ whi z ↔ z < 0 := by
  unfold whi B64; omega
theorem pos_whi (z : Int) (h0 : 0 ≤ z) (h1 : z < 170141183460469231731687303715884105728) : z = whi z * 18446744073709551616 + wlo z := by
  unfold whi wlo B64; omega

/-- The size of a number. -/
def mag (n : Int) : Int := if n < 0 then -n else n
theorem mag_lo (n : Int) : 0 ≤ mag n := by unfold mag; split <;> omega
theorem mag_le (n : Int) (h0 : -9223372036854775808 ≤ n) (h1 : n ≤ 9223372036854775807) : mag n ≤ 9223372036854775808 := by unfold mag; split <;> omega
theorem mag_pos (n : Int) (h : 0 ≤ n) : mag n = n := by unfold mag; rw [if_neg (by omega)]
theorem mag_neg (n : Int) (h : n < 0) : mag n = -n := by unfold mag; rw [if_pos h]
theorem mag_natAbs (n : Int) : mag n = (n.natAbs : Int) := by unfold mag; split <;> omega
theorem zsign_neg (z : Int) (h : z < 0) : z.sign = -1 := Int.sign_eq_neg_one_of_neg h
theorem zsign_pos (z : Int) (h : 0 < z) : z.sign = 1 := Int.sign_eq_one_of_pos h
end Go.Proofs.Ytdimmnoflenfhaa
/-
  Layer 1: the methods of wide.
-/
namespace Go.Proofs.Ytdimmnoflenfhaa
open Go.RowKit

theorem bcell {W w1 : World} (hb : Below W.heap.size W w1) : (∀ b o, b < W.heap.size → w1.cell? ⟨b, o, none⟩ = W.cell? ⟨b, o, none⟩) ∧ (∀ b o, b < W.heap.size → w1.frozen? ⟨b, o, none⟩ = W.frozen? ⟨b, o, none⟩) :=
  ⟨fun b o h => hb.cell (p := ⟨b, o, none⟩) h, fun b o h => hb.frozen (p := ⟨b, o, none⟩) h⟩

theorem add64_run (x y c : Int) (hx : 0 ≤ x) (hy : 0 ≤ y) (hc0 : 0 ≤ c) (hc : c ≤ 1) (w : World) :
    (callFunc 128 #[.int .u64 x, .int .u64 y, .int .u64 c]).run Try.prog w = .ok (.value (.tuple #[.int .u64 ((x + y + c) % 18446744073709551616), .int .u64 ((x + y + c) / 18446744073709551616)])) w := by
  rw [run_callFunc_extern Try.func128 (by kernel_rfl) (by kernel_rfl) (by kernel_rfl) (e := add64Entry) (by kernel_rfl), run_add64 x y c hx hy hc0 hc]
  rfl
theorem add64_lo (a b : Int) (w : World) :
    (callFunc 128 #[.int .u64 (wlo a), .int .u64 (wlo b), .int .u64 0]).run Try.prog w = .ok (.value (.tuple #[.int .u64 (wlo (a + b)), .int .u64 (car a b)])) w := by
  rw [add64_run _ _ _ (wlo_lo a) (wlo_lo b) (by omega) (by omega), wlo_add, car_add]
theorem add64_hi (a b : Int) (w : World) :
    (callFunc 128 #[.int .u64 (whi a), .int .u64 (whi b), .int .u64 (car a b)]).run Try.prog w = .ok (.value (.tuple #[.int .u64 (whi (a + b)), .int .u64 (car2 a b)])) w := by
  rw [add64_run _ _ _ (whi_lo a) (whi_lo b) (car_lo a b) (car_hi a b), whi_add, car2_add]

theorem sub64_run (x y b : Int) (hx : 0 ≤ x) (hy : 0 ≤ y) (hy1 : y ≤ 18446744073709551615) (hb0 : 0 ≤ b) (hb : b ≤ 1) (w : World) :
    (callFunc 126 #[.int .u64 x, .int .u64 y, .int .u64 b]).run Try.prog w = .ok (.value (.tuple #[.int .u64 ((x + 18446744073709551616 - y - b) % 18446744073709551616), .int .u64 (if x < y + b then 1 else 0)])) w := by
  obtain ⟨X, rfl⟩ := Int.eq_ofNat_of_zero_le hx
  obtain ⟨Y, rfl⟩ := Int.eq_ofNat_of_zero_le hy
  obtain ⟨C, rfl⟩ := Int.eq_ofNat_of_zero_le hb0
  rw [run_callFunc_extern Try.func126 (by kernel_rfl) (by kernel_rfl) (by kernel_rfl) (e := sub64Entry) (by kernel_rfl), run_sub64 X Y C (by omega)]
  have e1 : (((X + 18446744073709551616 - Y - C) % 18446744073709551616 : Nat) : Int) = ((X : Int) + 18446744073709551616 - Y - C) % 18446744073709551616 := by omega
  have e2 : ((if X < Y + C then 1 else 0 : Nat) : Int) = if (X : Int) < Y + C then 1 else 0 := by
    by_cases h : X < Y + C
    · rw [if_pos h, if_pos (by omega)]; rfl
    · rw [if_neg h, if_neg (by omega)]; rfl
  rw [e1, e2]
  rfl
theorem sub64_lo (a b : Int) (w : World) :
    (callFunc 126 #[.int .u64 (wlo a), .int .u64 (wlo b), .int .u64 0]).run Try.prog w = .ok (.value (.tuple #[.int .u64 (wlo (a - b)), .int .u64 (bor a b)])) w := by
  rw [sub64_run _ _ _ (wlo_lo a) (wlo_lo b) (wlo_hi b) (by omega) (by omega), wlo_sub, Int.sub_zero]
  unfold bor
  rw [Int.add_zero]
theorem sub64_hi (a b : Int) (w : World) :
    (callFunc 126 #[.int .u64 (whi a), .int .u64 (whi b), .int .u64 (bor a b)]).run Try.prog w = .ok (.value (.tuple #[.int .u64 (whi (a - b)), .int .u64 (bor2 a b)])) w := by
  rw [sub64_run _ _ _ (whi_lo a) (whi_lo b) (whi_hi b) (bor_lo a b) (bor_hi a b), whi_sub]
  rfl

set_option maxHeartbeats 400000 in
theorem minus_any (a b : Int) (w : World) :
    Calls Try.prog 102 #[.agg #[.int .u64 (whi a), .int .u64 (wlo a)], .agg #[.int .u64 (whi b), .int .u64 (wlo b)]] w fun e w' => e = .returned (.agg #[.int .u64 (whi (a - b)), .int .u64 (wlo (a - b))]) ∧ Below w.heap.size w w' := by
  go_enter Try.func102, Try.ntmps102
  go_wp2_with (first | simp only [sub64_lo] | simp only [sub64_hi])
  exact bodyPost_ret (v := .agg #[.int .u64 (whi (a - b)), .int .u64 (wlo (a - b))]) (by simp only [results, Try.results102]; go_simp) rfl ⟨rfl, by (repeat' (first | (with_reducible exact Below.refl _ _) | (with_reducible assumption) | (with_reducible refine belowThru ?_ (by assumption)) | (with_reducible refine belowAlloc ?_) | (with_reducible refine Below.setCell ?_ (by first | omega | (simp; done) | (simp; omega)) _) | (with_reducible refine Below.drew ?_) | (with_reducible refine below_drewN ?_ _)))⟩

theorem minus_zero (b : Int) (w : World) :
    Calls Try.prog 102 #[.agg #[.int .u64 0, .int .u64 0], .agg #[.int .u64 (whi b), .int .u64 (wlo b)]] w fun e w' => e = .returned (.agg #[.int .u64 (whi (-b)), .int .u64 (wlo (-b))]) ∧ Below w.heap.size w w' := by
  have h := minus_any 0 b w
  rw [Int.zero_sub] at h
  exact h

set_option maxHeartbeats 400000 in
theorem opposite_any (b : Int) (w : World) :
    Calls Try.prog 78 #[.agg #[.int .u64 (whi b), .int .u64 (wlo b)]] w fun e w' => e = .returned (.agg #[.int .u64 (whi (-b)), .int .u64 (wlo (-b))]) ∧ Below w.heap.size w w' := by
  go_enter Try.func78, Try.ntmps78
  go_wp2_with (go_at_call 102; refine (minus_zero b _).mono ?_; rintro e w1 ⟨rfl, hb⟩; obtain ⟨hc, hf⟩ := bcell hb; (try simp only [World.heap_drewN] at hc hf); (try simp only [heap_drew] at hc hf); have hz := hb.size; (try simp at hz); try (have hz0 : w.heap.size < w1.heap.size := by omega); try (have hz1 : w.heap.size + 1 < w1.heap.size := by omega); try (have hz2 : w.heap.size + 1 + 1 < w1.heap.size := by omega); try (have hz3 : w.heap.size + 1 + 1 + 1 < w1.heap.size := by omega); try (have hz4 : w.heap.size + 1 + 1 + 1 + 1 < w1.heap.size := by omega); try (have hz5 : w.heap.size + 1 + 1 + 1 + 1 + 1 < w1.heap.size := by omega))
  exact bodyPost_ret (v := .agg #[.int .u64 (whi (-b)), .int .u64 (wlo (-b))]) (by simp only [results, Try.results78]; go_simp) rfl ⟨rfl, by (repeat' (first | (with_reducible exact Below.refl _ _) | (with_reducible assumption) | (with_reducible refine belowThru ?_ (by assumption)) | (with_reducible refine belowAlloc ?_) | (with_reducible refine Below.setCell ?_ (by first | omega | (simp; done) | (simp; omega)) _) | (with_reducible refine Below.drew ?_) | (with_reducible refine below_drewN ?_ _)))⟩

set_option maxHeartbeats 400000 in
theorem sign_neg (z : Int) (w : World) (h1 : 9223372036854775808 ≤ whi z) (h2 : whi z ≤ 18446744073709551615) :
    Calls Try.prog 106 #[.agg #[.int .u64 (whi z), .int .u64 (wlo z)]] w fun e w' => e = .returned (.int .i64 (-1)) ∧ Below w.heap.size w w' := by
  go_enter Try.func106, Try.ntmps106
  go_wp2
  go_ret
  exact ⟨rfl, by (repeat' (first | (with_reducible exact Below.refl _ _) | (with_reducible assumption) | (with_reducible refine belowThru ?_ (by assumption)) | (with_reducible refine belowAlloc ?_) | (with_reducible refine Below.setCell ?_ (by first | omega | (simp; done) | (simp; omega)) _) | (with_reducible refine Below.drew ?_) | (with_reducible refine below_drewN ?_ _)))⟩

set_option maxHeartbeats 400000 in
theorem sign_pos (z : Int) (w : World) (h0 : ¬ (whi z = 0 ∧ wlo z = 0)) (h1 : 0 ≤ whi z) (h2 : whi z < 9223372036854775808) :
    Calls Try.prog 106 #[.agg #[.int .u64 (whi z), .int .u64 (wlo z)]] w fun e w' => e = .returned (.int .i64 1) ∧ Below w.heap.size w w' := by
  go_enter Try.func106, Try.ntmps106
  go_wp2
  all_goals (go_ret; exact ⟨rfl, by (repeat' (first | (with_reducible exact Below.refl _ _) | (with_reducible assumption) | (with_reducible refine belowThru ?_ (by assumption)) | (with_reducible refine belowAlloc ?_) | (with_reducible refine Below.setCell ?_ (by first | omega | (simp; done) | (simp; omega)) _) | (with_reducible refine Below.drew ?_) | (with_reducible refine below_drewN ?_ _)))⟩)

set_option maxHeartbeats 400000 in
theorem sign_zero (w : World) :
    Calls Try.prog 106 #[.agg #[.int .u64 0, .int .u64 0]] w fun e w' => e = .returned (.int .i64 0) ∧ Below w.heap.size w w' := by
  go_enter Try.func106, Try.ntmps106
  go_wp2
  all_goals (go_ret; exact ⟨rfl, by (repeat' (first | (with_reducible exact Below.refl _ _) | (with_reducible assumption) | (with_reducible refine belowThru ?_ (by assumption)) | (with_reducible refine belowAlloc ?_) | (with_reducible refine Below.setCell ?_ (by first | omega | (simp; done) | (simp; omega)) _) | (with_reducible refine Below.drew ?_) | (with_reducible refine below_drewN ?_ _)))⟩)

theorem sign_any (z : Int) (h0 : -170141183460469231731687303715884105728 ≤ z) (h1 : z < 170141183460469231731687303715884105728) (w : World) :
    Calls Try.prog 106 #[.agg #[.int .u64 (whi z), .int .u64 (wlo z)]] w fun e w' => e = .returned (.int .i64 z.sign) ∧ Below w.heap.size w w' := by
  have a := neg_of z h0 h1
  have b := zero_of z h0 h1
  have c := whi_lo z
  have d := whi_hi z
  rcases Int.lt_trichotomy z 0 with h | h | h
  · rw [zsign_neg z h]; exact sign_neg z w (a.2 h) d
  · subst h; exact sign_zero w
  · rw [zsign_pos z h]; exact sign_pos z w (by omega) c (by omega)

set_option maxHeartbeats 400000 in
theorem size_any (n : Int) (h1 : -9223372036854775808 ≤ n) (h2 : n ≤ 9223372036854775807) (w : World) :
    Calls Try.prog 77 #[.int .i64 n] w fun e w' => e = .returned (.int .u64 (mag n)) ∧ w = w' := by
  rcases (show n < 0 ∨ 0 ≤ n by omega) with h | h
  · go_enter Try.func77, Try.ntmps77
    go_wp2
    go_ret
    refine ⟨?_, rfl⟩
    rw [mag_neg n h, IntKind.wrap_u64, IntKind.wrap_u64, show (-(n % 18446744073709551616)) % 18446744073709551616 = -n by omega]
    rfl
  · go_enter Try.func77, Try.ntmps77
    go_wp2
    go_ret
    refine ⟨?_, rfl⟩
    rw [mag_pos n h]
    rfl

end Go.Proofs.Ytdimmnoflenfhaa
/-
  Plain arithmetic of long division: a digit of the quotient, guessed from above.
-/
namespace Go.Proofs.Ytdimmnoflenfhaa

/-- What stays true of the guess of a digit, in every round: q is not below the digit. -/
structure Guess (U Y Y1 x q r : Int) : Prop where
  low : (U * 4294967296 + x) / Y ≤ q
  high : q ≤ 4294967297
  sum : q * Y1 + r = U
  r0 : 0 ≤ r

structure Digit (U Y Y1 Y0 x : Int) : Prop where
  ky : Y = Y1 * 4294967296 + Y0
  ky1 : 2147483648 ≤ Y1
  ky1' : Y1 ≤ 4294967295
  ky0 : 0 ≤ Y0
  ky0' : Y0 ≤ 4294967295
  ku : 0 ≤ U
  ku' : U < Y
  kx : 0 ≤ x
  kx' : x ≤ 4294967295

variable {U Y Y1 Y0 x q r : Int}
theorem Digit.pos (d : Digit U Y Y1 Y0 x) : 0 < Y := by have := d.ky; have := d.ky1; have := d.ky0; omega
theorem Digit.lt (d : Digit U Y Y1 Y0 x) : (U * 4294967296 + x) / Y < 4294967296 := by
  apply Int.ediv_lt_of_lt_mul d.pos
  have := d.ku'; have := d.kx'; omega
theorem Digit.ge (d : Digit U Y Y1 Y0 x) : 0 ≤ (U * 4294967296 + x) / Y := Int.ediv_nonneg (by have := d.ku; have := d.kx; omega) (by have := d.pos; omega)
theorem Digit.first (d : Digit U Y Y1 Y0 x) : Guess U Y Y1 x (U / Y1) (U % Y1) := by
  have p := d.pos
  have y1 := d.ky1
  have e := Int.mul_ediv_add_emod U Y1
  have m := Int.mul_comm Y1 (U / Y1)
  refine ⟨?_, ?_, by omega, Int.emod_nonneg _ (by omega)⟩
  · apply (Int.le_ediv_iff_mul_le (by omega)).2
    generalize hQ : (U * 4294967296 + x) / Y = Q
    have h : Q * Y ≤ U * 4294967296 + x := (Int.le_ediv_iff_mul_le p).1 (by omega)
    have hq : 0 ≤ Q := by rw [← hQ]; exact d.ge
    have h1 : Q * Y = Q * Y1 * 4294967296 + Q * Y0 := by rw [d.ky]; grind
    have h2 : 0 ≤ Q * Y0 := Int.mul_nonneg hq d.ky0
    have := d.kx'
    omega
  · have : U / Y1 < 4294967298 := by
      apply Int.ediv_lt_of_lt_mul (by omega)
      have := d.ku'; have := d.ky; have := d.ky0'; omega
    omega
theorem Guess.done (d : Digit U Y Y1 Y0 x) (g : Guess U Y Y1 x q r) (h : q * Y0 ≤ 4294967296 * r + x) : q = (U * 4294967296 + x) / Y := by
  have h1 : q * Y = q * Y1 * 4294967296 + q * Y0 := by rw [d.ky]; grind
  have s := g.sum
  have : q ≤ (U * 4294967296 + x) / Y := (Int.le_ediv_iff_mul_le d.pos).2 (by omega)
  have := g.low
  omega
theorem Guess.over (d : Digit U Y Y1 Y0 x) (g : Guess U Y Y1 x q r) (h : 4294967296 * r + x < q * Y0) : (U * 4294967296 + x) / Y ≤ q - 1 := by
  have h1 : q * Y = q * Y1 * 4294967296 + q * Y0 := by rw [d.ky]; grind
  have s := g.sum
  have : (U * 4294967296 + x) / Y < q := Int.ediv_lt_of_lt_mul d.pos (by omega)
  omega
theorem Guess.next (g : Guess U Y Y1 x q r) (h : (U * 4294967296 + x) / Y ≤ q - 1) (y1 : 0 ≤ Y1) : Guess U Y Y1 x (q - 1) (r + Y1) := by
  have := g.sum; have := g.r0; have := g.high
  have e : (q - 1) * Y1 = q * Y1 - Y1 := by rw [Int.sub_mul, Int.one_mul]
  exact ⟨h, by omega, by omega, by omega⟩
theorem Guess.stop (d : Digit U Y Y1 Y0 x) (g : Guess U Y Y1 x q r) (hq : q ≤ 4294967296) (h : 4294967296 ≤ r) : q = (U * 4294967296 + x) / Y := by
  refine g.done d ?_
  have q0 := Int.le_trans d.ge g.low
  have := Int.mul_le_mul hq d.ky0' d.ky0 (by omega : (0 : Int) ≤ 4294967296)
  have := d.kx
  omega
/-- What the next digit is taken from. -/
theorem Digit.rest (d : Digit U Y Y1 Y0 x) (hY : Y ≤ 18446744073709551615) : (U * 4294967296 + x - (U * 4294967296 + x) / Y * Y) % 18446744073709551616 = (U * 4294967296 + x) % Y := by
  have e := Int.mul_ediv_add_emod (U * 4294967296 + x) Y
  have m := Int.mul_comm Y ((U * 4294967296 + x) / Y)
  have a := Int.emod_nonneg (U * 4294967296 + x) (show Y ≠ 0 by have := d.pos; omega)
  have b := Int.emod_lt_of_pos (U * 4294967296 + x) d.pos
  omega
/-- Two digits are the quotient. -/
theorem Digit.both {V1 V0 : Int} (hY : 0 < Y) :
    (U * 4294967296 + V1) / Y * 4294967296 + ((U * 4294967296 + V1) % Y * 4294967296 + V0) / Y = (U * 18446744073709551616 + (V1 * 4294967296 + V0)) / Y ∧
    ((U * 4294967296 + V1) % Y * 4294967296 + V0) % Y = (U * 18446744073709551616 + (V1 * 4294967296 + V0)) % Y := by
  have e := Int.mul_ediv_add_emod (U * 4294967296 + V1) Y
  generalize (U * 4294967296 + V1) / Y = A at *
  generalize (U * 4294967296 + V1) % Y = R at *
  have k : U * 18446744073709551616 + (V1 * 4294967296 + V0) = Y * (A * 4294967296) + (R * 4294967296 + V0) := by grind
  rw [k]
  constructor
  · rw [Int.add_comm (Y * _), Int.add_mul_ediv_left _ _ (by omega), Int.add_comm]
  · rw [Int.add_comm (Y * _), Int.add_mul_emod_self_left]
end Go.Proofs.Ytdimmnoflenfhaa
/-
  Fractions: the parts of a rational number, which of them fit, and the code's way to them.
-/
namespace Go.Proofs.Ytdimmnoflenfhaa

/-- The parts of a rational number. -/
def fn (q : Rat) : Int := q.num
def fd (q : Rat) : Int := (q.den : Int)
/-- It fits. -/
def fits (q : Rat) : Prop := -4611686018427387903 ≤ fn q ∧ fn q ≤ 4611686018427387903 ∧ fd q ≤ 4611686018427387903
instance (q : Rat) : Decidable (fits q) := inferInstanceAs (Decidable (_ ∧ _))
/-- What a call returns for a rational number: its parts, or zeros and the error that it is too large. -/
def rn (q : Rat) : Int := if fits q then fn q else 0
def rd (q : Rat) : Int := if fits q then fd q else 0
def re (q : Rat) : Int := if fits q then 0 else 4
theorem fd_pos (q : Rat) : 1 ≤ fd q := by unfold fd; have := q.den_pos; omega
/-- The greatest common divisor. -/
def gcdI (x y : Int) : Int := (Int.gcd x y : Int)
theorem gcdI_pos_right (x y : Int) (h : 0 < y) : 0 < gcdI x y := by
  unfold gcdI; have := Int.gcd_pos_of_ne_zero_right x (show y ≠ 0 by omega); omega
theorem gcdI_le_right (x y : Int) (h : 0 < y) : gcdI x y ≤ y := by
  unfold gcdI; have := Nat.le_of_dvd (by omega) (Nat.gcd_dvd_right x.natAbs y.natAbs); rw [← Int.gcd_eq_natAbs_gcd_natAbs] at this; omega
theorem gcdI_zero (x : Int) (h : 0 ≤ x) : gcdI x 0 = x := by unfold gcdI; rw [Int.gcd_zero_right]; omega
theorem gcdI_step (x y : Int) (hx : 0 ≤ x) (hy : 0 < y) : gcdI y (x % y) = gcdI x y := by
  unfold gcdI
  congr 1
  obtain ⟨X, rfl⟩ := Int.eq_ofNat_of_zero_le hx
  obtain ⟨Y, rfl⟩ := Int.eq_ofNat_of_zero_le (Int.le_of_lt hy)
  rw [← Int.natCast_emod, Int.gcd_natCast_natCast, Int.gcd_natCast_natCast, Nat.gcd_comm X, Nat.gcd_rec Y X, Nat.gcd_comm]

/-- A fraction is valid. -/
def okF (a b : Int) : Prop := 1 ≤ b ∧ b ≤ 4611686018427387903 ∧ -4611686018427387903 ≤ a ∧ a ≤ 4611686018427387903 ∧ gcdI a b = 1
instance (a b : Int) : Decidable (okF a b) := inferInstanceAs (Decidable (_ ∧ _))
theorem mul_bound (x y M N : Int) (hx : -M ≤ x ∧ x ≤ M) (hy : -N ≤ y ∧ y ≤ N) (hM : 0 ≤ M) (hN : 0 ≤ N) : -(M * N) ≤ x * y ∧ x * y ≤ M * N := by
  have h : (x * y).natAbs ≤ (M * N).natAbs := by
    rw [Int.natAbs_mul, Int.natAbs_mul]
    exact Nat.mul_le_mul (by omega) (by omega)
  have := Int.mul_nonneg hM hN
  omega

/-- The rational number of two whole numbers. -/
def mkR (n d : Int) : Rat := Rat.divInt n d
theorem mkR_parts (n d g : Int) (hd : d ≠ 0) (hg : g = gcdI (n.natAbs : Int) (d.natAbs : Int)) :
    fn (mkR n d) = d.sign * n.sign * ((n.natAbs : Int) / g) ∧ fd (mkR n d) = (d.natAbs : Int) / g := by
  have hg' : g = (d.gcd n : Int) := by
    rw [hg]; unfold gcdI
    rw [Int.gcd_natCast_natCast, ← Int.gcd_eq_natAbs_gcd_natAbs, Int.gcd_comm]
  unfold fn fd mkR
  rw [Rat.num_divInt, Rat.den_divInt, if_neg hd, hg']
  have dv : (d.gcd n : Int) ∣ n := Int.gcd_dvd_right d n
  refine ⟨?_, by rw [Int.natCast_ediv]⟩
  have dv2 : (d.gcd n : Int) ∣ (n.natAbs : Int) := Int.dvd_natAbs.2 dv
  have e2 : d.sign * n = d.sign * n.sign * (n.natAbs : Int) := by rw [Int.mul_assoc, Int.sign_mul_natAbs]
  rw [e2, Int.mul_ediv_assoc _ dv2]
end Go.Proofs.Ytdimmnoflenfhaa
/-
  Layer 1: parts of fractions, greatest common divisors, valid fractions.
-/
namespace Go.Proofs.Ytdimmnoflenfhaa
open Go.RowKit

set_option maxHeartbeats 1000000 in
theorem part_ok0 (z : Int) (w : World) (h0 : 0 ≤ z) (h1 : z ≤ 4611686018427387903) :
    Calls Try.prog 103 #[.agg #[.int .u64 (whi z), .int .u64 (wlo z)]] w fun e w' => e = .returned (.tuple #[.int .i64 z, .bool true]) ∧ Below w.heap.size w w' := by
  have zs : ¬ z.sign < 0 := by intro h; have := Int.sign_neg_iff.1 h; omega
  have e1 := whi_of z h0 (by omega)
  have e2 := wlo_of z h0 (by omega)
  have HS : Hid (∀ w, Calls Try.prog 106 #[.agg #[.int .u64 0, .int .u64 z]] w fun e w' => e = .returned (.int .i64 z.sign) ∧ Below w.heap.size w w') := by
    intro w; have := sign_any z (by omega) (by omega) w; rw [e1, e2] at this; exact this
  rw [e1, e2]
  clear e1 e2
  go_enter Try.func103, Try.ntmps103
  go_wp2_with (go_at_call 106; (with_reducible refine (HS.out _).mono ?_); rintro e w1 ⟨rfl, hb⟩; obtain ⟨hc, hf⟩ := bcell hb; (try simp only [World.heap_drewN] at hc hf); (try simp only [heap_drew] at hc hf); have hz := hb.size; (try simp at hz); try (have hz0 : w.heap.size < w1.heap.size := by omega); try (have hz1 : w.heap.size + 1 < w1.heap.size := by omega); try (have hz2 : w.heap.size + 1 + 1 < w1.heap.size := by omega); try (have hz3 : w.heap.size + 1 + 1 + 1 < w1.heap.size := by omega); try (have hz4 : w.heap.size + 1 + 1 + 1 + 1 < w1.heap.size := by omega); try (have hz5 : w.heap.size + 1 + 1 + 1 + 1 + 1 < w1.heap.size := by omega))
  go_ret2
  exact ⟨rfl, by (repeat' (first | (with_reducible exact Below.refl _ _) | (with_reducible assumption) | (with_reducible refine belowThru ?_ (by assumption)) | (with_reducible refine belowAlloc ?_) | (with_reducible refine Below.setCell ?_ (by first | omega | (simp; done) | (simp; omega)) _) | (with_reducible refine Below.drew ?_) | (with_reducible refine below_drewN ?_ _)))⟩

set_option maxHeartbeats 1000000 in
theorem part_neg (z m r : Int) (b : Bool) (w : World) (h0 : z < 0) (h1 : -170141183460469231731687303715884105728 < z) (em : Hid (-z = m))
    (hm : Hid (∀ w, Calls Try.prog 103 #[.agg #[.int .u64 (whi m), .int .u64 (wlo m)]] w fun e w' => e = .returned (.tuple #[.int .i64 r, .bool b]) ∧ Below w.heap.size w w')) (r0 : 0 ≤ r) (r1 : r ≤ 4611686018427387903) :
    Calls Try.prog 103 #[.agg #[.int .u64 (whi z), .int .u64 (wlo z)]] w fun e w' => e = .returned (.tuple #[.int .i64 (-r), .bool b]) ∧ Below w.heap.size w w' := by
  have zs : z.sign < 0 := Int.sign_neg_iff.2 h0
  have HO : Hid (∀ w, Calls Try.prog 78 #[.agg #[.int .u64 (whi z), .int .u64 (wlo z)]] w fun e w' => e = .returned (.agg #[.int .u64 (whi m), .int .u64 (wlo m)]) ∧ Below w.heap.size w w') := by
    intro w; have := opposite_any z w; rw [em.out] at this; exact this
  go_enter Try.func103, Try.ntmps103
  go_wp2_with (first
    | (go_at_call 106; (with_reducible refine (sign_any z (by omega) (by omega) _).mono ?_); rintro e w1 ⟨rfl, hb⟩; obtain ⟨hc, hf⟩ := bcell hb; (try simp only [World.heap_drewN] at hc hf); (try simp only [heap_drew] at hc hf); have hz := hb.size; (try simp at hz); try (have hz0 : w.heap.size < w1.heap.size := by omega); try (have hz1 : w.heap.size + 1 < w1.heap.size := by omega); try (have hz2 : w.heap.size + 1 + 1 < w1.heap.size := by omega); try (have hz3 : w.heap.size + 1 + 1 + 1 < w1.heap.size := by omega); try (have hz4 : w.heap.size + 1 + 1 + 1 + 1 < w1.heap.size := by omega); try (have hz5 : w.heap.size + 1 + 1 + 1 + 1 + 1 < w1.heap.size := by omega))
    | (go_at_call 78; (with_reducible refine (HO.out _).mono ?_); rintro e w1 ⟨rfl, hb⟩; obtain ⟨hc, hf⟩ := bcell hb; (try simp only [World.heap_drewN] at hc hf); (try simp only [heap_drew] at hc hf); have hz := hb.size; (try simp at hz); try (have hz0 : w.heap.size < w1.heap.size := by omega); try (have hz1 : w.heap.size + 1 < w1.heap.size := by omega); try (have hz2 : w.heap.size + 1 + 1 < w1.heap.size := by omega); try (have hz3 : w.heap.size + 1 + 1 + 1 < w1.heap.size := by omega); try (have hz4 : w.heap.size + 1 + 1 + 1 + 1 < w1.heap.size := by omega); try (have hz5 : w.heap.size + 1 + 1 + 1 + 1 + 1 < w1.heap.size := by omega))
    | (go_at_call 103; (with_reducible refine (hm.out _).mono ?_); rintro e w1 ⟨rfl, hb⟩; obtain ⟨hc, hf⟩ := bcell hb; (try simp only [World.heap_drewN] at hc hf); (try simp only [heap_drew] at hc hf); have hz := hb.size; (try simp at hz); try (have hz0 : w.heap.size < w1.heap.size := by omega); try (have hz1 : w.heap.size + 1 < w1.heap.size := by omega); try (have hz2 : w.heap.size + 1 + 1 < w1.heap.size := by omega); try (have hz3 : w.heap.size + 1 + 1 + 1 < w1.heap.size := by omega); try (have hz4 : w.heap.size + 1 + 1 + 1 + 1 < w1.heap.size := by omega); try (have hz5 : w.heap.size + 1 + 1 + 1 + 1 + 1 < w1.heap.size := by omega)))
  go_ret2
  exact ⟨rfl, by (repeat' (first | (with_reducible exact Below.refl _ _) | (with_reducible assumption) | (with_reducible refine belowThru ?_ (by assumption)) | (with_reducible refine belowAlloc ?_) | (with_reducible refine Below.setCell ?_ (by first | omega | (simp; done) | (simp; omega)) _) | (with_reducible refine Below.drew ?_) | (with_reducible refine below_drewN ?_ _)))⟩

set_option maxHeartbeats 1000000 in
theorem part_no0 (z : Int) (w : World) (h0 : 4611686018427387903 < z) (h1 : z < 170141183460469231731687303715884105728) :
    Calls Try.prog 103 #[.agg #[.int .u64 (whi z), .int .u64 (wlo z)]] w fun e w' => e = .returned (.tuple #[.int .i64 0, .bool false]) ∧ Below w.heap.size w w' := by
  have zs : ¬ z.sign < 0 := by intro h; have := Int.sign_neg_iff.1 h; omega
  have hz := pos_whi z (by omega) h1
  have b0 := wlo_lo z; have b1 := wlo_hi z; have a0 := whi_lo z
  by_cases h : whi z = 0
  · have hl : 4611686018427387903 < wlo z := by omega
    have hd : (whi z != 0) = false := by simpa using h
    clear hz h
    go_enter Try.func103, Try.ntmps103
    go_wp2_with (go_at_call 106; (with_reducible refine (sign_any z (by omega) (by omega) _).mono ?_); rintro e w1 ⟨rfl, hb⟩; obtain ⟨hc, hf⟩ := bcell hb; (try simp only [World.heap_drewN] at hc hf); (try simp only [heap_drew] at hc hf); have hz := hb.size; (try simp at hz); try (have hz0 : w.heap.size < w1.heap.size := by omega); try (have hz1 : w.heap.size + 1 < w1.heap.size := by omega); try (have hz2 : w.heap.size + 1 + 1 < w1.heap.size := by omega); try (have hz3 : w.heap.size + 1 + 1 + 1 < w1.heap.size := by omega); try (have hz4 : w.heap.size + 1 + 1 + 1 + 1 < w1.heap.size := by omega); try (have hz5 : w.heap.size + 1 + 1 + 1 + 1 + 1 < w1.heap.size := by omega))
    go_ret2
    exact ⟨rfl, by (repeat' (first | (with_reducible exact Below.refl _ _) | (with_reducible assumption) | (with_reducible refine belowThru ?_ (by assumption)) | (with_reducible refine belowAlloc ?_) | (with_reducible refine Below.setCell ?_ (by first | omega | (simp; done) | (simp; omega)) _) | (with_reducible refine Below.drew ?_) | (with_reducible refine below_drewN ?_ _)))⟩
  · have hd : (whi z != 0) = true := by simpa using h
    clear hz h
    go_enter Try.func103, Try.ntmps103
    go_wp2_with (go_at_call 106; (with_reducible refine (sign_any z (by omega) (by omega) _).mono ?_); rintro e w1 ⟨rfl, hb⟩; obtain ⟨hc, hf⟩ := bcell hb; (try simp only [World.heap_drewN] at hc hf); (try simp only [heap_drew] at hc hf); have hz := hb.size; (try simp at hz); try (have hz0 : w.heap.size < w1.heap.size := by omega); try (have hz1 : w.heap.size + 1 < w1.heap.size := by omega); try (have hz2 : w.heap.size + 1 + 1 < w1.heap.size := by omega); try (have hz3 : w.heap.size + 1 + 1 + 1 < w1.heap.size := by omega); try (have hz4 : w.heap.size + 1 + 1 + 1 + 1 < w1.heap.size := by omega); try (have hz5 : w.heap.size + 1 + 1 + 1 + 1 + 1 < w1.heap.size := by omega))
    go_ret2
    exact ⟨rfl, by (repeat' (first | (with_reducible exact Below.refl _ _) | (with_reducible assumption) | (with_reducible refine belowThru ?_ (by assumption)) | (with_reducible refine belowAlloc ?_) | (with_reducible refine Below.setCell ?_ (by first | omega | (simp; done) | (simp; omega)) _) | (with_reducible refine Below.drew ?_) | (with_reducible refine below_drewN ?_ _)))⟩

theorem part_ok (z : Int) (w : World) (h0 : -4611686018427387903 ≤ z) (h1 : z ≤ 4611686018427387903) :
    Calls Try.prog 103 #[.agg #[.int .u64 (whi z), .int .u64 (wlo z)]] w fun e w' => e = .returned (.tuple #[.int .i64 z, .bool true]) ∧ Below w.heap.size w w' := by
  rcases (show z < 0 ∨ 0 ≤ z by omega) with h | h
  · have := part_neg z (-z) (-z) true w h (by omega) rfl (fun w => part_ok0 (-z) w (by omega) (by omega)) (by omega) (by omega)
    rw [Int.neg_neg] at this; exact this
  · exact part_ok0 z w h h1
theorem part_no (z : Int) (w : World) (h : z < -4611686018427387903 ∨ 4611686018427387903 < z) (h0 : -170141183460469231731687303715884105728 < z) (h1 : z < 170141183460469231731687303715884105728) :
    Calls Try.prog 103 #[.agg #[.int .u64 (whi z), .int .u64 (wlo z)]] w fun e w' => e = .returned (.tuple #[.int .i64 0, .bool false]) ∧ Below w.heap.size w w' := by
  rcases h with h | h
  · exact part_neg z (-z) 0 false w (by omega) h0 rfl (fun w => part_no0 (-z) w (by omega) (by omega)) (by omega) (by omega)
  · exact part_no0 z w h h1

set_option maxHeartbeats 1000000 in
theorem divisor_any (x y : Int) (hx0 : 0 ≤ x) (hx1 : x ≤ 18446744073709551615) (hy0 : 0 ≤ y) (hy1 : y ≤ 18446744073709551615) (w : World) :
    Calls Try.prog 76 #[.int .u64 x, .int .u64 y] w fun e w' => e = .returned (.int .u64 (gcdI x y)) ∧ ∃ n, w' = w.drewN n := by
  go_enter Try.func76, Try.ntmps76
  go_wp2
  go_loopw [0, 1] (fun p q wr => ∃ a b : Int, p = .int .u64 a ∧ q = .int .u64 b ∧ 0 ≤ a ∧ a ≤ 18446744073709551615 ∧ 0 ≤ b ∧ b ≤ 18446744073709551615 ∧ Hid (gcdI a b = gcdI x y) ∧ ∃ n, wr = w.drewN n) (fun _ q _ => (intOf q).toNat)
  case atStart => exact ⟨x, y, rfl, rfl, hx0, hx1, hy0, hy1, rfl, 0, rfl⟩
  case round =>
    obtain ⟨a, b, rfl, rfl, a0, a1, b0, b1, hg, n, rfl⟩ := hrel
    by_cases hb : b = 0
    · subst hb
      go_wp2
      go_ret
      have := hg.out
      rw [gcdI_zero a a0] at this
      exact ⟨by rw [← this]; rfl, n, rfl⟩
    · have hd : (b != 0) = true := by simpa using hb
      have hp : 1 ≤ b := by omega
      have m0 : 0 ≤ a % b := Int.emod_nonneg _ (by omega)
      have m1 : a % b < b := Int.emod_lt_of_pos _ (by omega)
      clear hb
      go_wp2
      go_quiet (fail)
      go_wp2
      go_roundw
      case rel => exact ⟨b, a % b, rfl, rfl, b0, b1, m0, by omega, by show _ = _; rw [gcdI_step a b a0 (by omega)]; exact hg.out, n + nq, by rw [World.drewN_drewN]⟩
      case measure => simp [intOf]; omega
end Go.Proofs.Ytdimmnoflenfhaa
/-
  Layer 1: fractions of wide numbers, valid fractions, order.
-/
namespace Go.Proofs.Ytdimmnoflenfhaa
open Go.RowKit

set_option maxHeartbeats 1000000 in
theorem fraction_ok (t b : Int) (w : World) (h0 : -4611686018427387903 ≤ t) (h1 : t ≤ 4611686018427387903) (k0 : -4611686018427387903 ≤ b) (k1 : b ≤ 4611686018427387903) :
    Calls Try.prog 79 #[.agg #[.int .u64 (whi t), .int .u64 (wlo t)], .agg #[.int .u64 (whi b), .int .u64 (wlo b)]] w fun e w' => e = .returned (.tuple #[.agg #[.int .i64 t, .int .i64 b], .int .i64 0]) ∧ Below w.heap.size w w' := by
  go_enter Try.func79, Try.ntmps79
  go_wp2_with (first
    | (go_at_call 103; (with_reducible refine (part_ok t _ h0 h1).mono ?_); rintro e w1 ⟨rfl, hb⟩; obtain ⟨hc, hf⟩ := bcell hb; (try simp only [World.heap_drewN] at hc hf); (try simp only [heap_drew] at hc hf); have hz := hb.size; (try simp at hz); try (have hz0 : w.heap.size < w1.heap.size := by omega); try (have hz1 : w.heap.size + 1 < w1.heap.size := by omega); try (have hz2 : w.heap.size + 1 + 1 < w1.heap.size := by omega); try (have hz3 : w.heap.size + 1 + 1 + 1 < w1.heap.size := by omega); try (have hz4 : w.heap.size + 1 + 1 + 1 + 1 < w1.heap.size := by omega); try (have hz5 : w.heap.size + 1 + 1 + 1 + 1 + 1 < w1.heap.size := by omega))
    | (go_at_call 103; (with_reducible refine (part_ok b _ k0 k1).mono ?_); rintro e w1 ⟨rfl, hb⟩; obtain ⟨hc, hf⟩ := bcell hb; (try simp only [World.heap_drewN] at hc hf); (try simp only [heap_drew] at hc hf); have hz := hb.size; (try simp at hz); try (have hz0 : w.heap.size < w1.heap.size := by omega); try (have hz1 : w.heap.size + 1 < w1.heap.size := by omega); try (have hz2 : w.heap.size + 1 + 1 < w1.heap.size := by omega); try (have hz3 : w.heap.size + 1 + 1 + 1 < w1.heap.size := by omega); try (have hz4 : w.heap.size + 1 + 1 + 1 + 1 < w1.heap.size := by omega); try (have hz5 : w.heap.size + 1 + 1 + 1 + 1 + 1 < w1.heap.size := by omega)))
  exact bodyPost_ret (v := .tuple #[.agg #[.int .i64 t, .int .i64 b], .int .i64 0]) (by simp only [results, Try.results79]; go_simp) rfl ⟨rfl, by (repeat' (first | (with_reducible exact Below.refl _ _) | (with_reducible assumption) | (with_reducible refine belowThru ?_ (by assumption)) | (with_reducible refine belowAlloc ?_) | (with_reducible refine Below.setCell ?_ (by first | omega | (simp; done) | (simp; omega)) _) | (with_reducible refine Below.drew ?_) | (with_reducible refine below_drewN ?_ _)))⟩

set_option maxHeartbeats 1000000 in
theorem fraction_no (t b x y : Int) (p q : Bool) (w : World)
    (HT : Hid (∀ w, Calls Try.prog 103 #[.agg #[.int .u64 (whi t), .int .u64 (wlo t)]] w fun e w' => e = .returned (.tuple #[.int .i64 x, .bool p]) ∧ Below w.heap.size w w'))
    (HB : Hid (∀ w, Calls Try.prog 103 #[.agg #[.int .u64 (whi b), .int .u64 (wlo b)]] w fun e w' => e = .returned (.tuple #[.int .i64 y, .bool q]) ∧ Below w.heap.size w w'))
    (hpq : (p && q) = false) :
    Calls Try.prog 79 #[.agg #[.int .u64 (whi t), .int .u64 (wlo t)], .agg #[.int .u64 (whi b), .int .u64 (wlo b)]] w fun e w' => e = .returned (.tuple #[.agg #[.int .i64 0, .int .i64 0], .int .i64 4]) ∧ Below w.heap.size w w' := by
  cases p <;> cases q <;> first
    | (exfalso; revert hpq; decide)
    | (clear hpq
       go_enter Try.func79, Try.ntmps79
       go_wp2_with (first
         | (go_at_call 103; (with_reducible refine (HT.out _).mono ?_); rintro e w1 ⟨rfl, hb⟩; obtain ⟨hc, hf⟩ := bcell hb; (try simp only [World.heap_drewN] at hc hf); (try simp only [heap_drew] at hc hf); have hz := hb.size; (try simp at hz); try (have hz0 : w.heap.size < w1.heap.size := by omega); try (have hz1 : w.heap.size + 1 < w1.heap.size := by omega); try (have hz2 : w.heap.size + 1 + 1 < w1.heap.size := by omega); try (have hz3 : w.heap.size + 1 + 1 + 1 < w1.heap.size := by omega); try (have hz4 : w.heap.size + 1 + 1 + 1 + 1 < w1.heap.size := by omega); try (have hz5 : w.heap.size + 1 + 1 + 1 + 1 + 1 < w1.heap.size := by omega))
         | (go_at_call 103; (with_reducible refine (HB.out _).mono ?_); rintro e w1 ⟨rfl, hb⟩; obtain ⟨hc, hf⟩ := bcell hb; (try simp only [World.heap_drewN] at hc hf); (try simp only [heap_drew] at hc hf); have hz := hb.size; (try simp at hz); try (have hz0 : w.heap.size < w1.heap.size := by omega); try (have hz1 : w.heap.size + 1 < w1.heap.size := by omega); try (have hz2 : w.heap.size + 1 + 1 < w1.heap.size := by omega); try (have hz3 : w.heap.size + 1 + 1 + 1 < w1.heap.size := by omega); try (have hz4 : w.heap.size + 1 + 1 + 1 + 1 < w1.heap.size := by omega); try (have hz5 : w.heap.size + 1 + 1 + 1 + 1 + 1 < w1.heap.size := by omega)))
       exact bodyPost_ret (v := .tuple #[.agg #[.int .i64 0, .int .i64 0], .int .i64 4]) (by simp only [results, Try.results79]; go_simp) rfl ⟨rfl, by (repeat' (first | (with_reducible exact Below.refl _ _) | (with_reducible assumption) | (with_reducible refine belowThru ?_ (by assumption)) | (with_reducible refine belowAlloc ?_) | (with_reducible refine Below.setCell ?_ (by first | omega | (simp; done) | (simp; omega)) _) | (with_reducible refine Below.drew ?_) | (with_reducible refine below_drewN ?_ _)))⟩)

/-- The fraction of a top and a bottom, if both are parts. -/
def fr (t b z : Int) : Int := if (-4611686018427387903 ≤ t ∧ t ≤ 4611686018427387903) ∧ -4611686018427387903 ≤ b ∧ b ≤ 4611686018427387903 then z else 0
theorem fraction_any (t b : Int) (w : World) (h0 : -170141183460469231731687303715884105728 < t) (h1 : t < 170141183460469231731687303715884105728) (k0 : -170141183460469231731687303715884105728 < b) (k1 : b < 170141183460469231731687303715884105728) :
    Calls Try.prog 79 #[.agg #[.int .u64 (whi t), .int .u64 (wlo t)], .agg #[.int .u64 (whi b), .int .u64 (wlo b)]] w fun e w' => e = .returned (.tuple #[.agg #[.int .i64 (fr t b t), .int .i64 (fr t b b)], .int .i64 (4 - fr t b 4)]) ∧ Below w.heap.size w w' := by
  unfold fr
  by_cases ht : -4611686018427387903 ≤ t ∧ t ≤ 4611686018427387903 <;> by_cases hb : -4611686018427387903 ≤ b ∧ b ≤ 4611686018427387903
  · rw [if_pos ⟨ht, hb⟩, if_pos ⟨ht, hb⟩, if_pos ⟨ht, hb⟩]; exact fraction_ok t b w ht.1 ht.2 hb.1 hb.2
  · rw [if_neg (fun h => hb h.2), if_neg (fun h => hb h.2), if_neg (fun h => hb h.2)]
    exact fraction_no t b _ _ true false w (fun w => part_ok t w ht.1 ht.2) (fun w => part_no b w (by omega) k0 k1) rfl
  · rw [if_neg (fun h => ht h.1), if_neg (fun h => ht h.1), if_neg (fun h => ht h.1)]
    exact fraction_no t b _ _ false true w (fun w => part_no t w (by omega) h0 h1) (fun w => part_ok b w hb.1 hb.2) rfl
  · rw [if_neg (fun h => ht h.1), if_neg (fun h => ht h.1), if_neg (fun h => ht h.1)]
    exact fraction_no t b _ _ false false w (fun w => part_no t w (by omega) h0 h1) (fun w => part_no b w (by omega) k0 k1) rfl
/-- At the parts of a rational number: what a call returns for it. -/
theorem fraction_q (x : Rat) (t b : Int) (ht : t = fn x) (hb : b = fd x) (w : World) (h0 : -170141183460469231731687303715884105728 < t) (h1 : t < 170141183460469231731687303715884105728) (k1 : b < 170141183460469231731687303715884105728) :
    Calls Try.prog 79 #[.agg #[.int .u64 (whi t), .int .u64 (wlo t)], .agg #[.int .u64 (whi b), .int .u64 (wlo b)]] w fun e w' => e = .returned (.tuple #[.agg #[.int .i64 (rn x), .int .i64 (rd x)], .int .i64 (re x)]) ∧ Below w.heap.size w w' := by
  have := fd_pos x
  have key := fraction_any t b w h0 h1 (by omega) k1
  have e : ∀ z, fr t b z = if fits x then z else 0 := by
    intro z; unfold fr; rw [ht, hb]
    by_cases h : fits x
    · rw [if_pos h, if_pos (by have k := h; unfold fits at k; omega)]
    · rw [if_neg h, if_neg (fun k => h ⟨by omega, by omega, by omega⟩)]
  rw [e, e, e] at key
  unfold rn rd re
  by_cases h : fits x
  · rw [if_pos h, if_pos h, if_pos h] at key ⊢; rw [← ht, ← hb]; exact key
  · rw [if_neg h, if_neg h, if_neg h] at key ⊢; exact key

end Go.Proofs.Ytdimmnoflenfhaa
/-
  Layer 1: products, quotients, and Make.
-/
namespace Go.Proofs.Ytdimmnoflenfhaa
open Go.RowKit

set_option maxRecDepth 100000 in
set_option maxHeartbeats 4000000 in
theorem make_walk (n d g x y t N M E : Int) (w : World) (n1 : -9223372036854775808 ≤ n) (n2 : n ≤ 9223372036854775807) (d1 : -9223372036854775808 ≤ d) (d2 : d ≤ 9223372036854775807) (d0 : (d == 0) = false)
    (HG : Hid (∀ w, Calls Try.prog 76 #[.int .u64 (mag n), .int .u64 (mag d)] w fun e w' => e = .returned (.int .u64 g) ∧ Below w.heap.size w w')) (g1 : 1 ≤ g) (g2 : g ≤ 9223372036854775808)
    (ex : IntKind.u64.wrap ((mag n).tdiv g) = x) (ey : IntKind.u64.wrap ((mag d).tdiv g) = y) (x0 : 0 ≤ x) (x1 : x ≤ 18446744073709551615) (_y0 : 0 ≤ y) (_y1 : y ≤ 18446744073709551615)
    (ht : Hid (t = if (!(decide (n < 0) == decide (d < 0))) = true then -x else x))
    (HR : Hid (∀ w, Calls Try.prog 79 #[.agg #[.int .u64 (whi t), .int .u64 (wlo t)], .agg #[.int .u64 0, .int .u64 y]] w fun e w' => e = .returned (.tuple #[.agg #[.int .i64 N, .int .i64 M], .int .i64 E]) ∧ Below w.heap.size w w')) :
    Calls Try.prog 45 #[.int .i64 n, .int .i64 d] w fun e w' => e = .returned (.tuple #[.agg #[.int .i64 N, .int .i64 M], .int .i64 E]) ∧ Below w.heap.size w w' := by
  have HA : Hid (∀ w, Calls Try.prog 77 #[.int .i64 n] w fun e w' => e = .returned (.int .u64 (mag n)) ∧ w = w') := size_any n n1 n2
  have HB : Hid (∀ w, Calls Try.prog 77 #[.int .i64 d] w fun e w' => e = .returned (.int .u64 (mag d)) ∧ w = w') := size_any d d1 d2
  have v3 : ¬ g = 0 := by omega
  have m0 := mag_lo n; have m1 := mag_le n n1 n2; have m2 := mag_lo d; have m3 := mag_le d d1 d2
  go_enter Try.func45, Try.ntmps45
  go_upto_region 3 with fail
  go_cut [6] (fun s6 wx => s6 = .int .u64 g ∧ Blk wx w.heap.size #[.int .i64 0, .int .i64 0] 23 ∧ Below w.heap.size w wx)
  case first =>
    go_wp2_with (first
      | (go_at_call 77; (with_reducible refine (HA.out _).mono ?_); rintro e w1 ⟨rfl, rfl⟩)
      | (go_at_call 77; (with_reducible refine (HB.out _).mono ?_); rintro e w1 ⟨rfl, rfl⟩)
      | (go_at_call 76; (with_reducible refine (HG.out _).mono ?_); rintro e w1 ⟨rfl, hb⟩))
    go_meet
    exact ⟨rfl, by (repeat' (first | (with_reducible assumption) | ((with_reducible refine Blk.new ?_); first | rfl | (simp; done)) | (with_reducible refine Blk.later (by assumption) ?_) | (with_reducible refine Blk.alloc ?_) | (with_reducible refine Blk.drewN ?_) | (with_reducible refine Blk.drew ?_) | (with_reducible refine Blk.other ?_ (by first | omega | (simp; done) | (simp; omega))))), by (repeat' (first | (with_reducible exact Below.refl _ _) | (with_reducible assumption) | (with_reducible refine belowThru ?_ (by assumption)) | (with_reducible refine belowAlloc ?_) | (with_reducible refine Below.setCell ?_ (by first | omega | (simp; done) | (simp; omega)) _) | (with_reducible refine Below.drew ?_) | (with_reducible refine below_drewN ?_ _)))⟩
  case rest =>
    obtain ⟨rfl, k0, hB⟩ := hcut
    obtain ⟨a0, b0⟩ := k0.read
    have z0 := k0.lt
    go_upto_region 4 with fail
    go_cut [7, 8] (fun s7 s8 wx => At2 wx (w.heap.size + 1) #[.int .u64 0, .int .u64 x] #[.int .u64 0, .int .u64 y] 109 s7 s8 ∧ Blk wx w.heap.size #[.int .i64 0, .int .i64 0] 23 ∧ Below w.heap.size w wx)
    case first =>
      have v5 : IntKind.u64.wrap ((mag n).tdiv g) = x := ex
      go_region_held3 (fun w' => (Blk w' w.heap.size #[.int .i64 0, .int .i64 0] 23 ∧ (∀ i : Nat, w'.cell? ⟨w.heap.size, i, none⟩ = (#[.int .i64 0, .int .i64 0] : Array Value)[i]?)) ∧ Below w.heap.size w w')
        (((first | (apply hold1; (focus assumption); intro p0 pB) | skip); refine ⟨Blk.full ?_, ?_⟩; all_goals (first | ((repeat' (first | (with_reducible assumption) | ((with_reducible refine Blk.new ?_); first | rfl | (simp; done)) | (with_reducible refine Blk.later (by assumption) ?_) | (with_reducible refine Blk.alloc ?_) | (with_reducible refine Blk.drewN ?_) | (with_reducible refine Blk.drew ?_) | (with_reducible refine Blk.other ?_ (by first | omega | (simp; done) | (simp; omega))))); done) | ((repeat' (first | (with_reducible exact Below.refl _ _) | (with_reducible assumption) | (with_reducible refine belowThru ?_ (by assumption)) | (with_reducible refine belowAlloc ?_) | (with_reducible refine Below.setCell ?_ (by first | omega | (simp; done) | (simp; omega)) _) | (with_reducible refine Below.drew ?_) | (with_reducible refine below_drewN ?_ _))); done))))
        (first
        | (go_at_call 77; (with_reducible refine (HA.out _).mono ?_); rintro e w1 ⟨rfl, rfl⟩)
        | (go_at_call 77; (with_reducible refine (HB.out _).mono ?_); rintro e w1 ⟨rfl, rfl⟩))
      all_goals
        go_wp2_with fail
        go_meet
        refine ⟨At2.mk (by omega) (by omega) (by omega) ?_ ?_, ?_, ?_⟩
        · (repeat' (first | (with_reducible assumption) | ((with_reducible refine Blk.new ?_); first | rfl | (simp; done)) | (with_reducible refine Blk.later (by assumption) ?_) | (with_reducible refine Blk.alloc ?_) | (with_reducible refine Blk.drewN ?_) | (with_reducible refine Blk.drew ?_) | (with_reducible refine Blk.other ?_ (by first | omega | (simp; done) | (simp; omega)))))
        · (repeat' (first | (with_reducible assumption) | ((with_reducible refine Blk.new ?_); first | rfl | (simp; done)) | (with_reducible refine Blk.later (by assumption) ?_) | (with_reducible refine Blk.alloc ?_) | (with_reducible refine Blk.drewN ?_) | (with_reducible refine Blk.drew ?_) | (with_reducible refine Blk.other ?_ (by first | omega | (simp; done) | (simp; omega)))))
        · (repeat' (first | (with_reducible assumption) | ((with_reducible refine Blk.new ?_); first | rfl | (simp; done)) | (with_reducible refine Blk.later (by assumption) ?_) | (with_reducible refine Blk.alloc ?_) | (with_reducible refine Blk.drewN ?_) | (with_reducible refine Blk.drew ?_) | (with_reducible refine Blk.other ?_ (by first | omega | (simp; done) | (simp; omega)))))
        · (repeat' (first | (with_reducible exact Below.refl _ _) | (with_reducible assumption) | (with_reducible refine belowThru ?_ (by assumption)) | (with_reducible refine belowAlloc ?_) | (with_reducible refine Below.setCell ?_ (by first | omega | (simp; done) | (simp; omega)) _) | (with_reducible refine Below.drew ?_) | (with_reducible refine below_drewN ?_ _)))
    case rest =>
      obtain ⟨⟨p1, p2, rfl, rfl, l1, l2, hn, k1, k2⟩, k0, hB⟩ := hcut
      obtain ⟨a0, b0⟩ := k0.read; obtain ⟨a1, b1⟩ := k1.read; obtain ⟨a2, b2⟩ := k2.read
      have z0 := k0.lt; have z1 := k1.lt; have z2 := k2.lt
      have w1 := whi_of x x0 x1; have w2 := wlo_of x x0 x1
      have hs : (!(decide (n < 0) == decide (d < 0))) = true ∨ (!(decide (n < 0) == decide (d < 0))) = false := by
        cases (!(decide (n < 0) == decide (d < 0))) <;> simp
      rcases hs with hs | hs
      · have ht' := ht.out
        rw [if_pos hs] at ht'
        have HO : Hid (∀ w, Calls Try.prog 78 #[.agg #[.int .u64 0, .int .u64 x]] w fun e w' => e = .returned (.agg #[.int .u64 (whi t), .int .u64 (wlo t)]) ∧ Below w.heap.size w w') := by
          intro w; have := opposite_any x w; rw [w1, w2, ← ht'] at this; exact this
        clear w1 w2 ht' ht
        go_wp2_with (first
          | (go_at_call 78; (with_reducible refine (HO.out _).mono ?_); rintro e w1 ⟨rfl, hb⟩; (try (have zk := k0.lt; (first | ((with_reducible refine Blk.keepG hb k0 (fun h => ?_) ?_); (focus ((repeat' (first | (with_reducible assumption) | ((with_reducible refine Blk.new ?_); first | rfl | (simp; done)) | (with_reducible refine Blk.later (by assumption) ?_) | (with_reducible refine Blk.alloc ?_) | (with_reducible refine Blk.drewN ?_) | (with_reducible refine Blk.drew ?_) | (with_reducible refine Blk.other ?_ (by first | omega | (simp; done) | (simp; omega))))); done)); clear k0; intro k0) | (with_reducible replace k0 := Blk.later hb (Blk.set (Blk.set k0))) | (with_reducible replace k0 := Blk.later hb (Blk.set k0))); clear a0 b0; obtain ⟨a0, b0⟩ := k0.read; have zl := k0.lt)); (try (have zk := k1.lt; (first | ((with_reducible refine Blk.keepG hb k1 (fun h => ?_) ?_); (focus ((repeat' (first | (with_reducible assumption) | ((with_reducible refine Blk.new ?_); first | rfl | (simp; done)) | (with_reducible refine Blk.later (by assumption) ?_) | (with_reducible refine Blk.alloc ?_) | (with_reducible refine Blk.drewN ?_) | (with_reducible refine Blk.drew ?_) | (with_reducible refine Blk.other ?_ (by first | omega | (simp; done) | (simp; omega))))); done)); clear k1; intro k1) | (with_reducible replace k1 := Blk.later hb (Blk.set (Blk.set k1))) | (with_reducible replace k1 := Blk.later hb (Blk.set k1))); clear a1 b1; obtain ⟨a1, b1⟩ := k1.read; have zl := k1.lt)); (try (have zk := k2.lt; (first | ((with_reducible refine Blk.keepG hb k2 (fun h => ?_) ?_); (focus ((repeat' (first | (with_reducible assumption) | ((with_reducible refine Blk.new ?_); first | rfl | (simp; done)) | (with_reducible refine Blk.later (by assumption) ?_) | (with_reducible refine Blk.alloc ?_) | (with_reducible refine Blk.drewN ?_) | (with_reducible refine Blk.drew ?_) | (with_reducible refine Blk.other ?_ (by first | omega | (simp; done) | (simp; omega))))); done)); clear k2; intro k2) | (with_reducible replace k2 := Blk.later hb (Blk.set (Blk.set k2))) | (with_reducible replace k2 := Blk.later hb (Blk.set k2))); clear a2 b2; obtain ⟨a2, b2⟩ := k2.read; have zl := k2.lt)); (first | (have zk := kn.lt; (first | ((with_reducible refine Blk.keepG hb kn (fun h => ?_) ?_); (focus ((repeat' (first | (with_reducible assumption) | ((with_reducible refine Blk.new ?_); first | rfl | (simp; done)) | (with_reducible refine Blk.later (by assumption) ?_) | (with_reducible refine Blk.alloc ?_) | (with_reducible refine Blk.drewN ?_) | (with_reducible refine Blk.drew ?_) | (with_reducible refine Blk.other ?_ (by first | omega | (simp; done) | (simp; omega))))); done)); clear kn; intro kn) | (with_reducible replace kn := Blk.later hb (Blk.set (Blk.set kn))) | (with_reducible replace kn := Blk.later hb (Blk.set kn))); clear an bn; obtain ⟨an, bn⟩ := kn.read; have zl := kn.lt) | ((first | (with_reducible have kn := Blk.later hb (Blk.new rfl)) | (with_reducible have kn := Blk.later hb (Blk.drew (Blk.new rfl))) | (with_reducible have kn := Blk.later hb (Blk.drewN (Blk.new rfl)))); (try simp only [World.size_alloc, World.size_drew, World.heap_drewN] at kn); obtain ⟨an, bn⟩ := kn.read; have zl := kn.lt) | skip))
          | (go_at_call 79; (with_reducible refine (HR.out _).mono ?_); rintro e w1 ⟨rfl, hb⟩; (try (have zk := k0.lt; (first | ((with_reducible refine Blk.keepG hb k0 (fun h => ?_) ?_); (focus ((repeat' (first | (with_reducible assumption) | ((with_reducible refine Blk.new ?_); first | rfl | (simp; done)) | (with_reducible refine Blk.later (by assumption) ?_) | (with_reducible refine Blk.alloc ?_) | (with_reducible refine Blk.drewN ?_) | (with_reducible refine Blk.drew ?_) | (with_reducible refine Blk.other ?_ (by first | omega | (simp; done) | (simp; omega))))); done)); clear k0; intro k0) | (with_reducible replace k0 := Blk.later hb (Blk.set (Blk.set k0))) | (with_reducible replace k0 := Blk.later hb (Blk.set k0))); clear a0 b0; obtain ⟨a0, b0⟩ := k0.read; have zl := k0.lt)); (try (have zk := k1.lt; (first | ((with_reducible refine Blk.keepG hb k1 (fun h => ?_) ?_); (focus ((repeat' (first | (with_reducible assumption) | ((with_reducible refine Blk.new ?_); first | rfl | (simp; done)) | (with_reducible refine Blk.later (by assumption) ?_) | (with_reducible refine Blk.alloc ?_) | (with_reducible refine Blk.drewN ?_) | (with_reducible refine Blk.drew ?_) | (with_reducible refine Blk.other ?_ (by first | omega | (simp; done) | (simp; omega))))); done)); clear k1; intro k1) | (with_reducible replace k1 := Blk.later hb (Blk.set (Blk.set k1))) | (with_reducible replace k1 := Blk.later hb (Blk.set k1))); clear a1 b1; obtain ⟨a1, b1⟩ := k1.read; have zl := k1.lt)); (try (have zk := k2.lt; (first | ((with_reducible refine Blk.keepG hb k2 (fun h => ?_) ?_); (focus ((repeat' (first | (with_reducible assumption) | ((with_reducible refine Blk.new ?_); first | rfl | (simp; done)) | (with_reducible refine Blk.later (by assumption) ?_) | (with_reducible refine Blk.alloc ?_) | (with_reducible refine Blk.drewN ?_) | (with_reducible refine Blk.drew ?_) | (with_reducible refine Blk.other ?_ (by first | omega | (simp; done) | (simp; omega))))); done)); clear k2; intro k2) | (with_reducible replace k2 := Blk.later hb (Blk.set (Blk.set k2))) | (with_reducible replace k2 := Blk.later hb (Blk.set k2))); clear a2 b2; obtain ⟨a2, b2⟩ := k2.read; have zl := k2.lt)); (first | (have zk := kn.lt; (first | ((with_reducible refine Blk.keepG hb kn (fun h => ?_) ?_); (focus ((repeat' (first | (with_reducible assumption) | ((with_reducible refine Blk.new ?_); first | rfl | (simp; done)) | (with_reducible refine Blk.later (by assumption) ?_) | (with_reducible refine Blk.alloc ?_) | (with_reducible refine Blk.drewN ?_) | (with_reducible refine Blk.drew ?_) | (with_reducible refine Blk.other ?_ (by first | omega | (simp; done) | (simp; omega))))); done)); clear kn; intro kn) | (with_reducible replace kn := Blk.later hb (Blk.set (Blk.set kn))) | (with_reducible replace kn := Blk.later hb (Blk.set kn))); clear an bn; obtain ⟨an, bn⟩ := kn.read; have zl := kn.lt) | ((first | (with_reducible have kn := Blk.later hb (Blk.new rfl)) | (with_reducible have kn := Blk.later hb (Blk.drew (Blk.new rfl))) | (with_reducible have kn := Blk.later hb (Blk.drewN (Blk.new rfl)))); (try simp only [World.size_alloc, World.size_drew, World.heap_drewN] at kn); obtain ⟨an, bn⟩ := kn.read; have zl := kn.lt) | skip)))
        exact bodyPost_ret (v := .tuple #[.agg #[.int .i64 N, .int .i64 M], .int .i64 E]) (by simp only [results, Try.results45]; go_simp) rfl ⟨rfl, by (repeat' (first | (with_reducible exact Below.refl _ _) | (with_reducible assumption) | (with_reducible refine belowThru ?_ (by assumption)) | (with_reducible refine belowAlloc ?_) | (with_reducible refine Below.setCell ?_ (by first | omega | (simp; done) | (simp; omega)) _) | (with_reducible refine Below.drew ?_) | (with_reducible refine below_drewN ?_ _)))⟩
      · have ht' := ht.out
        rw [if_neg (by rw [hs]; decide)] at ht'
        have HQ : Hid (∀ w, Calls Try.prog 79 #[.agg #[.int .u64 0, .int .u64 x], .agg #[.int .u64 0, .int .u64 y]] w fun e w' => e = .returned (.tuple #[.agg #[.int .i64 N, .int .i64 M], .int .i64 E]) ∧ Below w.heap.size w w') := by
          intro w; have := HR.out w; rw [ht', w1, w2] at this; exact this
        clear w1 w2 ht' ht
        go_wp2_with (go_at_call 79; (with_reducible refine (HQ.out _).mono ?_); rintro e w1 ⟨rfl, hb⟩; (try (have zk := k0.lt; (first | ((with_reducible refine Blk.keepG hb k0 (fun h => ?_) ?_); (focus ((repeat' (first | (with_reducible assumption) | ((with_reducible refine Blk.new ?_); first | rfl | (simp; done)) | (with_reducible refine Blk.later (by assumption) ?_) | (with_reducible refine Blk.alloc ?_) | (with_reducible refine Blk.drewN ?_) | (with_reducible refine Blk.drew ?_) | (with_reducible refine Blk.other ?_ (by first | omega | (simp; done) | (simp; omega))))); done)); clear k0; intro k0) | (with_reducible replace k0 := Blk.later hb (Blk.set (Blk.set k0))) | (with_reducible replace k0 := Blk.later hb (Blk.set k0))); clear a0 b0; obtain ⟨a0, b0⟩ := k0.read; have zl := k0.lt)); (try (have zk := k1.lt; (first | ((with_reducible refine Blk.keepG hb k1 (fun h => ?_) ?_); (focus ((repeat' (first | (with_reducible assumption) | ((with_reducible refine Blk.new ?_); first | rfl | (simp; done)) | (with_reducible refine Blk.later (by assumption) ?_) | (with_reducible refine Blk.alloc ?_) | (with_reducible refine Blk.drewN ?_) | (with_reducible refine Blk.drew ?_) | (with_reducible refine Blk.other ?_ (by first | omega | (simp; done) | (simp; omega))))); done)); clear k1; intro k1) | (with_reducible replace k1 := Blk.later hb (Blk.set (Blk.set k1))) | (with_reducible replace k1 := Blk.later hb (Blk.set k1))); clear a1 b1; obtain ⟨a1, b1⟩ := k1.read; have zl := k1.lt)); (try (have zk := k2.lt; (first | ((with_reducible refine Blk.keepG hb k2 (fun h => ?_) ?_); (focus ((repeat' (first | (with_reducible assumption) | ((with_reducible refine Blk.new ?_); first | rfl | (simp; done)) | (with_reducible refine Blk.later (by assumption) ?_) | (with_reducible refine Blk.alloc ?_) | (with_reducible refine Blk.drewN ?_) | (with_reducible refine Blk.drew ?_) | (with_reducible refine Blk.other ?_ (by first | omega | (simp; done) | (simp; omega))))); done)); clear k2; intro k2) | (with_reducible replace k2 := Blk.later hb (Blk.set (Blk.set k2))) | (with_reducible replace k2 := Blk.later hb (Blk.set k2))); clear a2 b2; obtain ⟨a2, b2⟩ := k2.read; have zl := k2.lt)); (first | (have zk := kn.lt; (first | ((with_reducible refine Blk.keepG hb kn (fun h => ?_) ?_); (focus ((repeat' (first | (with_reducible assumption) | ((with_reducible refine Blk.new ?_); first | rfl | (simp; done)) | (with_reducible refine Blk.later (by assumption) ?_) | (with_reducible refine Blk.alloc ?_) | (with_reducible refine Blk.drewN ?_) | (with_reducible refine Blk.drew ?_) | (with_reducible refine Blk.other ?_ (by first | omega | (simp; done) | (simp; omega))))); done)); clear kn; intro kn) | (with_reducible replace kn := Blk.later hb (Blk.set (Blk.set kn))) | (with_reducible replace kn := Blk.later hb (Blk.set kn))); clear an bn; obtain ⟨an, bn⟩ := kn.read; have zl := kn.lt) | ((first | (with_reducible have kn := Blk.later hb (Blk.new rfl)) | (with_reducible have kn := Blk.later hb (Blk.drew (Blk.new rfl))) | (with_reducible have kn := Blk.later hb (Blk.drewN (Blk.new rfl)))); (try simp only [World.size_alloc, World.size_drew, World.heap_drewN] at kn); obtain ⟨an, bn⟩ := kn.read; have zl := kn.lt) | skip))
        exact bodyPost_ret (v := .tuple #[.agg #[.int .i64 N, .int .i64 M], .int .i64 E]) (by simp only [results, Try.results45]; go_simp) rfl ⟨rfl, by (repeat' (first | (with_reducible exact Below.refl _ _) | (with_reducible assumption) | (with_reducible refine belowThru ?_ (by assumption)) | (with_reducible refine belowAlloc ?_) | (with_reducible refine Below.setCell ?_ (by first | omega | (simp; done) | (simp; omega)) _) | (with_reducible refine Below.drew ?_) | (with_reducible refine below_drewN ?_ _)))⟩
end Go.Proofs.Ytdimmnoflenfhaa
/-
  Layer 1: the calls on fractions, for any fractions.
-/
namespace Go.Proofs.Ytdimmnoflenfhaa
open Go.RowKit

theorem make_q (n d : Int) (w : World) (n1 : -9223372036854775808 ≤ n) (n2 : n ≤ 9223372036854775807) (d1 : -9223372036854775808 ≤ d) (d2 : d ≤ 9223372036854775807) (d0 : d ≠ 0) :
    Calls Try.prog 45 #[.int .i64 n, .int .i64 d] w fun e w' => e = .returned (.tuple #[.agg #[.int .i64 (rn (mkR n d)), .int .i64 (rd (mkR n d))], .int .i64 (re (mkR n d))]) ∧ Below w.heap.size w w' := by
  obtain ⟨g, hg⟩ : ∃ g, g = gcdI (n.natAbs : Int) (d.natAbs : Int) := ⟨_, rfl⟩
  obtain ⟨p1, p2⟩ := mkR_parts n d g d0 hg
  have m0 := mag_lo n; have m1 := mag_le n n1 n2; have m2 := mag_lo d; have m3 := mag_le d d1 d2
  rw [← mag_natAbs, ← mag_natAbs] at hg
  rw [← mag_natAbs] at p1 p2
  have mp : 0 < mag d := by rw [mag_natAbs]; omega
  have g1 : 0 < g := by rw [hg]; exact gcdI_pos_right _ _ mp
  have g2 : g ≤ mag d := by rw [hg]; exact gcdI_le_right _ _ mp
  have bx0 := Int.ediv_nonneg m0 (show 0 ≤ g by omega)
  have bx1 := Int.ediv_le_self g m0
  have by0 := Int.ediv_nonneg m2 (show 0 ≤ g by omega)
  have by1 := Int.ediv_le_self g m2
  have ht : (if (!(decide (n < 0) == decide (d < 0))) = true then -(mag n / g) else mag n / g) = fn (mkR n d) := by
    rw [p1]
    rcases Int.lt_trichotomy n 0 with hn | hn | hn <;> rcases Int.lt_trichotomy d 0 with hd | hd | hd
    · rw [Int.sign_eq_neg_one_of_neg hn, Int.sign_eq_neg_one_of_neg hd, decide_eq_true hn, decide_eq_true hd]; simp
    · exact absurd hd d0
    · rw [Int.sign_eq_neg_one_of_neg hn, Int.sign_eq_one_of_pos hd, decide_eq_true hn, decide_eq_false (by omega)]; simp
    · subst hn; rw [show mag 0 = 0 from rfl]; simp
    · exact absurd hd d0
    · subst hn; rw [show mag 0 = 0 from rfl]; simp
    · rw [Int.sign_eq_one_of_pos hn, Int.sign_eq_neg_one_of_neg hd, decide_eq_false (by omega), decide_eq_true hd]; simp
    · exact absurd hd d0
    · rw [Int.sign_eq_one_of_pos hn, Int.sign_eq_one_of_pos hd, decide_eq_false (by omega), decide_eq_false (by omega)]; simp
  refine make_walk n d g (mag n / g) (mag d / g) _ _ _ _ w n1 n2 d1 d2 (by simpa using d0) ?_ (by omega) (by omega) ?_ ?_ bx0 (by omega) by0 (by omega) rfl ?_
  · intro w
    refine (divisor_any (mag n) (mag d) (by omega) (by omega) (by omega) (by omega) w).mono fun e w' ⟨he, k, hw⟩ => ⟨by rw [he, hg], by rw [hw]; exact below_drewN (Below.refl _ _) k⟩
  · rw [Int.tdiv_eq_ediv_of_nonneg m0, IntKind.wrap_u64]; omega
  · rw [Int.tdiv_eq_ediv_of_nonneg m2, IntKind.wrap_u64]; omega
  · intro w
    have := fraction_q (mkR n d) _ (mag d / g) ht p2.symm w (by split <;> omega) (by split <;> omega) (by omega)
    rw [whi_of (mag d / g) by0 (by omega), wlo_of (mag d / g) by0 (by omega)] at this
    exact this

set_option maxHeartbeats 1000000 in
theorem make_zero (n : Int) (w : World) :
    Calls Try.prog 45 #[.int .i64 n, .int .i64 0] w fun e w' => e = .returned (.tuple #[.agg #[.int .i64 0, .int .i64 0], .int .i64 10]) ∧ Below w.heap.size w w' := by
  go_enter Try.func45, Try.ntmps45
  go_wp2
  exact bodyPost_ret (v := .tuple #[.agg #[.int .i64 0, .int .i64 0], .int .i64 10]) (by simp only [results, Try.results45]; go_simp) rfl ⟨rfl, by (repeat' (first | (with_reducible exact Below.refl _ _) | (with_reducible assumption) | (with_reducible refine belowThru ?_ (by assumption)) | (with_reducible refine belowAlloc ?_) | (with_reducible refine Below.setCell ?_ (by first | omega | (simp; done) | (simp; omega)) _) | (with_reducible refine Below.drew ?_) | (with_reducible refine below_drewN ?_ _)))⟩

end Go.Proofs.Ytdimmnoflenfhaa
/-
  Layer 1: the enclosures that the operations make of ends.
-/
namespace Go.Proofs.Ytdimmnoflenfhaa
open Go.RowKit

theorem rn_yes {x : Rat} (h : fits x) : rn x = fn x := if_pos h
theorem rd_yes {x : Rat} (h : fits x) : rd x = fd x := if_pos h

end Go.Proofs.Ytdimmnoflenfhaa
/-
  Layer 1: the enclosure of what two enclosures share.
-/
namespace Go.Proofs.Ytdimmnoflenfhaa
open Go.RowKit

theorem Blk.set2 {w : World} {b : Nat} {x y u v : Value} {t : TypeId} (h : Blk w b #[x, y] t) : Blk ((w.setCell ⟨b, 0, none⟩ u).setCell ⟨b, 1, none⟩ v) b #[u, v] t := Blk.set (Blk.set h)

end Go.Proofs.Ytdimmnoflenfhaa
/-
  More of rational numbers: what Make makes.
-/
namespace Go.Proofs.Ytdimmnoflenfhaa
theorem mkR_fits' (n d : Int) (d0 : d ≠ 0) (d1 : -4611686018427387903 ≤ d) (d2 : d ≤ 4611686018427387903) (n1 : -4611686018427387903 ≤ n) (n2 : n ≤ 4611686018427387903) : fits (mkR n d) := by
  obtain ⟨g, hg⟩ : ∃ g, g = gcdI (n.natAbs : Int) (d.natAbs : Int) := ⟨_, rfl⟩
  obtain ⟨p1, p2⟩ := mkR_parts n d g d0 hg
  have g1 : 0 < g := by rw [hg]; exact gcdI_pos_right _ _ (by omega)
  have a0 := Int.ediv_nonneg (show 0 ≤ (n.natAbs : Int) by omega) (show 0 ≤ g by omega)
  have a1 := Int.ediv_le_self g (show 0 ≤ (n.natAbs : Int) by omega)
  have b1 := Int.ediv_le_self g (show 0 ≤ (d.natAbs : Int) by omega)
  unfold fits
  rw [p1, p2]
  have sn : n.sign = -1 ∨ n.sign = 0 ∨ n.sign = 1 := by
    rcases Int.lt_trichotomy n 0 with h | h | h
    · exact .inl (Int.sign_eq_neg_one_of_neg h)
    · subst h; exact .inr (.inl rfl)
    · exact .inr (.inr (Int.sign_eq_one_of_pos h))
  have sd : d.sign = -1 ∨ d.sign = 1 := by
    rcases Int.lt_trichotomy d 0 with h | h | h
    · exact .inl (Int.sign_eq_neg_one_of_neg h)
    · exact absurd h d0
    · exact .inr (Int.sign_eq_one_of_pos h)
  rcases sn with h | h | h <;> rcases sd with k | k <;> rw [h, k] <;> omega
end Go.Proofs.Ytdimmnoflenfhaa
/-
  Layer 5: the first bright place of a list of numbers; the places of a profile.
-/
namespace Go.Proofs.Ytdimmnoflenfhaa
set_option linter.unusedVariables false
set_option linter.unusedSimpArgs false

def fb (t : Int) : List Int → Option Nat
  | [] => none
  | v :: q => if t ≤ v then some 0 else (fb t q).map (· + 1)
theorem fb_some {t : Int} {q : List Int} {j : Nat} : fb t q = some j ↔ ∃ v, q[j]? = some v ∧ t ≤ v ∧ ∀ k, k < j → ∀ u, q[k]? = some u → u < t := by
  induction q generalizing j with
  | nil => simp [fb]
  | cons v q ih =>
    unfold fb
    by_cases h : t ≤ v
    · rw [if_pos h]
      constructor
      · intro e; cases e; exact ⟨v, rfl, h, fun k hk => absurd hk (by omega)⟩
      · rintro ⟨u, hu, hl, hk⟩
        cases j with
        | zero => rfl
        | succ j => have := hk 0 (by omega) v rfl; omega
    · rw [if_neg h]
      cases j with
      | zero =>
        constructor
        · intro e; rw [Option.map_eq_some_iff] at e; obtain ⟨_, _, e⟩ := e; omega
        · rintro ⟨u, hu, hl, -⟩
          simp at hu; omega
      | succ j =>
        rw [Option.map_eq_some_iff]
        constructor
        · rintro ⟨i, hi, e⟩
          obtain rfl : i = j := by omega
          obtain ⟨u, hu, hl, hk⟩ := ih.1 hi
          refine ⟨u, by simpa using hu, hl, fun k hk' x hx => ?_⟩
          cases k with
          | zero => simp at hx; omega
          | succ k => exact hk k (by omega) x (by simpa using hx)
        · rintro ⟨u, hu, hl, hk⟩
          exact ⟨j, ih.2 ⟨u, by simpa using hu, hl, fun k hk' x hx => hk (k + 1) (by omega) x (by simpa using hx)⟩, rfl⟩
theorem fb_none {t : Int} {q : List Int} : fb t q = none ↔ ∀ u ∈ q, u < t := by
  induction q with
  | nil => simp [fb]
  | cons v q ih =>
    unfold fb
    by_cases h : t ≤ v
    · rw [if_pos h]
      constructor
      · intro e; cases e
      · intro k; have := k v (by simp); omega
    · rw [if_neg h, Option.map_eq_none_iff, ih]
      constructor
      · intro k u hu
        rcases List.mem_cons.1 hu with rfl | hu
        · omega
        · exact k u hu
      · intro k u hu; exact k u (List.mem_cons_of_mem _ hu)
theorem fb_lt {t : Int} {q : List Int} {j : Nat} (h : fb t q = some j) : j < q.length := by
  obtain ⟨v, hv, -⟩ := fb_some.1 h
  exact (List.getElem?_eq_some_iff.1 hv).1

/-- The place of the first bright one, from the start of the way on, at an index. -/
def pl (t : Int) (q : List Int) (j : Nat) : Rat :=
  if j = 0 then 0 else (j : Int) - (((q[j]?.getD 0) - t : Int) : Rat) / (((q[j]?.getD 0) - (q[j - 1]?.getD 0) : Int) : Rat)
def br (t : Int) (q : List Int) : Option Rat := (fb t q).map (pl t q)

theorem int_pos {a : Int} (h : 0 < a) : (0 : Rat) < (a : Rat) := by exact_mod_cast Rat.intCast_lt_intCast.2 h
theorem pl_zero (t : Int) (q : List Int) : pl t q 0 = 0 := if_pos rfl
theorem pl_succ (t : Int) (q : List Int) (j : Nat) {v u : Int} (hv : q[j + 1]? = some v) (hu : q[j]? = some u) : pl t q (j + 1) = ((j : Int) + 1 : Rat) - ((v - t : Int) : Rat) / ((v - u : Int) : Rat) := by
  unfold pl
  rw [if_neg (by omega), Nat.add_sub_cancel, hv, hu]
  simp
theorem fb_step {t : Int} {q : List Int} {j : Nat} (h : fb t q = some (j + 1)) : ∃ v u, q[j + 1]? = some v ∧ q[j]? = some u ∧ u < t ∧ t ≤ v := by
  obtain ⟨v, hv, hl, hk⟩ := fb_some.1 h
  have hlt := fb_lt h
  have hu : q[j]? = some (q[j]'(by omega)) := List.getElem?_eq_getElem (by omega)
  exact ⟨v, _, hv, hu, hk j (by omega) _ hu, hl⟩
/-- The place of the first bright one from an index on; of the last one up to an index. -/
def FX (t : Int) (zs : List Int) (p : Nat) : Option Rat := (br t (zs.drop p)).map fun d => ((p : Int) : Rat) + d
def LX (t : Int) (zs : List Int) (p : Nat) : Option Rat := (br t (zs.take (p + 1)).reverse).map fun d => ((p : Int) : Rat) - d

theorem drop_get (zs : List Int) (p k : Nat) : (zs.drop p)[k]? = zs[p + k]? := by rw [List.getElem?_drop]
theorem back_get (zs : List Int) (p k : Nat) (hp : p < zs.length) : (zs.take (p + 1)).reverse[k]? = if k ≤ p then zs[p - k]? else none := by
  have hl : (zs.take (p + 1)).length = p + 1 := by rw [List.length_take]; omega
  by_cases h : k ≤ p
  · rw [if_pos h, List.getElem?_reverse (by omega), hl, List.getElem?_take, if_pos (by omega)]
    congr 1
  · rw [if_neg h, List.getElem?_eq_none (by rw [List.length_reverse]; omega)]
theorem back_len (zs : List Int) (p : Nat) (hp : p < zs.length) : (zs.take (p + 1)).reverse.length = p + 1 := by
  rw [List.length_reverse, List.length_take]; omega

/-- One list is nowhere greater than another one. -/
def LeL (q r : List Int) : Prop := r.length = q.length ∧ ∀ (k : Nat) (u v : Int), q[k]? = some u → r[k]? = some v → u ≤ v
theorem LeL.drop {q r : List Int} (h : LeL q r) (p : Nat) : LeL (q.drop p) (r.drop p) :=
  ⟨by rw [List.length_drop, List.length_drop, h.1], fun k u v hu hv => h.2 (p + k) u v (by rw [← drop_get]; exact hu) (by rw [← drop_get]; exact hv)⟩
theorem LeL.back {q r : List Int} (h : LeL q r) (p : Nat) (hp : p < q.length) : LeL (q.take (p + 1)).reverse (r.take (p + 1)).reverse := by
  refine ⟨by rw [back_len _ _ hp, back_len _ _ (by rw [h.1]; exact hp)], fun k u v hu hv => ?_⟩
  rw [back_get _ _ _ hp] at hu
  rw [back_get _ _ _ (by rw [h.1]; exact hp)] at hv
  split at hu
  · rw [if_pos (by assumption)] at hv; exact h.2 _ u v hu hv
  · cases hu
/-- All values are those of a profile. -/
def V8 (zs : List Int) : Prop := ∀ v ∈ zs, 0 ≤ v ∧ v ≤ 255
/-- A valid profile. -/
def okP (zs : List Int) : Prop := (2 ≤ zs.length ∧ zs.length ≤ 64) ∧ V8 zs
instance (zs : List Int) : Decidable (V8 zs) := inferInstanceAs (Decidable (∀ v ∈ zs, _))
instance (zs : List Int) : Decidable (okP zs) := inferInstanceAs (Decidable (_ ∧ _))
theorem mkR_div (a b : Int) : mkR a b = (a : Rat) / (b : Rat) := Rat.divInt_eq_div a b
theorem V8.drop {zs : List Int} (h : V8 zs) (p : Nat) : V8 (zs.drop p) := fun v hv => h v (List.mem_of_mem_drop hv)
theorem V8.back {zs : List Int} (h : V8 zs) (p : Nat) : V8 (zs.take p).reverse := fun v hv => h v (List.mem_of_mem_take (List.mem_reverse.1 hv))
/-- The upper and the lower profile. -/
def upL (n : Int) (zs : List Int) : List Int := zs.map fun v => if 255 ≤ v + n then 255 else v + n
def lwL (n : Int) (zs : List Int) : List Int := zs.map fun v => if v - n ≤ 0 then 0 else v - n
theorem LeL.trans {p q r : List Int} (h : LeL p q) (k : LeL q r) : LeL p r :=
  ⟨k.1.trans h.1, fun i u v hu hv => by
    have hl := (List.getElem?_eq_some_iff.1 hu).1
    have hq : q[i]? = some (q[i]'(by rw [h.1]; exact hl)) := List.getElem?_eq_getElem _
    have := h.2 i _ _ hu hq
    have := k.2 i _ _ hq hv
    omega⟩
end Go.Proofs.Ytdimmnoflenfhaa
/-
  Layer 5: ranges, thresholds, noises, valid profiles, by the code.
-/
namespace Go.Proofs.Ytdimmnoflenfhaa
open Go.RowKit
set_option linter.unusedVariables false
set_option linter.unusedSimpArgs false

set_option maxHeartbeats 400000 in
theorem gwithin_yes (n lo hi : Int) (h1 : lo ≤ n) (h2 : n ≤ hi) (w : World) :
    Calls Try.prog 59 #[.int .i64 n, .int .i64 lo, .int .i64 hi] w fun e w' => e = .returned (.bool true) ∧ w = w' := by
  go_enter Try.func59, Try.ntmps59
  go_wp2
  go_ret
  exact ⟨rfl, rfl⟩
set_option maxHeartbeats 400000 in
theorem gwithin_no (n lo hi : Int) (h : ¬ (lo ≤ n ∧ n ≤ hi)) (w : World) :
    Calls Try.prog 59 #[.int .i64 n, .int .i64 lo, .int .i64 hi] w fun e w' => e = .returned (.bool false) ∧ w = w' := by
  by_cases h1 : lo ≤ n
  · have hd : decide (n ≤ hi) = false := by simp; omega
    clear h
    go_enter Try.func59, Try.ntmps59
    go_wp2
    go_ret
    exact ⟨by first | rfl | simp, rfl⟩
  · clear h
    go_enter Try.func59, Try.ntmps59
    go_wp2
    go_ret
    exact ⟨by first | rfl | simp, rfl⟩
theorem gwithin_any (n lo hi : Int) (w : World) :
    Calls Try.prog 59 #[.int .i64 n, .int .i64 lo, .int .i64 hi] w fun e w' => e = .returned (.bool (decide (lo ≤ n ∧ n ≤ hi))) ∧ w = w' := by
  by_cases h : lo ≤ n ∧ n ≤ hi
  · rw [decide_eq_true h]; exact gwithin_yes n lo hi h.1 h.2 w
  · rw [decide_eq_false h]; exact gwithin_no n lo hi h w
/-- A threshold; a noise. -/
def okT (t : Int) : Prop := 1 ≤ t ∧ t ≤ 255
def okN (n : Int) : Prop := 0 ≤ n ∧ n ≤ 64
instance (t : Int) : Decidable (okT t) := inferInstanceAs (Decidable (_ ∧ _))
instance (t : Int) : Decidable (okN t) := inferInstanceAs (Decidable (_ ∧ _))
set_option maxHeartbeats 400000 in
theorem isThr_any (t : Int) (w : World) :
    Calls Try.prog 69 #[.int .i64 t] w fun e w' => e = .returned (.bool (decide (okT t))) ∧ w = w' := by
  have HC := Lib.hid (gwithin_any t 1 255)
  have e : decide (okT t) = decide (1 ≤ t ∧ t ≤ 255) := rfl
  rw [e]
  obtain ⟨b, hb⟩ : ∃ b, decide (1 ≤ t ∧ t ≤ 255) = b := ⟨_, rfl⟩
  rw [hb] at HC ⊢
  clear hb e
  go_enter Try.func69, Try.ntmps69
  go_wp2_with (go_at_call 59; ((with_reducible refine (HC.out _).mono ?_); rintro e w1 ⟨rfl, rfl⟩))
  go_ret
  exact ⟨rfl, rfl⟩
set_option maxHeartbeats 400000 in
theorem isNoise_any (t : Int) (w : World) :
    Calls Try.prog 70 #[.int .i64 t] w fun e w' => e = .returned (.bool (decide (okN t))) ∧ w = w' := by
  have HC := Lib.hid (gwithin_any t 0 64)
  have e : decide (okN t) = decide (0 ≤ t ∧ t ≤ 64) := rfl
  rw [e]
  obtain ⟨b, hb⟩ : ∃ b, decide (0 ≤ t ∧ t ≤ 64) = b := ⟨_, rfl⟩
  rw [hb] at HC ⊢
  clear hb e
  go_enter Try.func70, Try.ntmps70
  go_wp2_with (go_at_call 59; ((with_reducible refine (HC.out _).mono ?_); rintro e w1 ⟨rfl, rfl⟩))
  go_ret
  exact ⟨rfl, rfl⟩

theorem V8.snoc {zs : List Int} {k : Nat} {z : Int} (h : V8 (zs.take k)) (hz : zs[k]? = some z) (ok : 0 ≤ z ∧ z ≤ 255) : V8 (zs.take (k + 1)) := by
  rw [List.take_add_one, hz]
  intro x hx
  rcases List.mem_append.1 hx with k | k
  · exact h x k
  · simp at k; subst k; exact ok
theorem V8.all {zs : List Int} {k : Nat} (h : V8 (zs.take k)) (hk : zs.length ≤ k) : V8 zs := by
  rwa [List.take_of_length_le hk] at h
theorem V8.not {zs : List Int} {k : Nat} {z : Int} (hz : zs[k]? = some z) (no : ¬ (0 ≤ z ∧ z ≤ 255)) : ¬ V8 zs := fun h => no (h z (List.mem_of_getElem? hz))
/-- 0, or the error of a profile that is not valid. -/
def ckP (zs : List Int) : Int := if okP zs then 0 else 50
theorem ckP_ok {zs : List Int} (h : okP zs) : ckP zs = 0 := if_pos h
theorem ckP_no {zs : List Int} (h : ¬ okP zs) : ckP zs = 50 := if_neg h
set_option maxHeartbeats 2000000 in
theorem ckP_loop (a : Option Addr) (n c : Nat) (zs : List Int) (hn2 : 2 ≤ n) (hn64 : n ≤ 64) (w : World) (hR : Row w a n (iv zs)) :
    Calls Try.prog 26 #[.slice a n c] w fun e w' => e = .returned (.int .i64 (ckP zs)) ∧ Below w.heap.size w w' := by
  have hx : zs.length = n := by have := hR.1; rwa [iv_length] at this
  have HX := Lib.hid hx; have HR := Lib.hid hR
  clear hx hR
  have p2 : (2 : Int) ≤ (n : Int) := by omega
  have p3 : (n : Int) ≤ 64 := by omega
  have HL := Lib.hid (gwithin_yes (n : Int) 2 64 p2 p3)
  go_enter Try.func26, Try.ntmps26
  go_wp2_with (go_at_call 59; ((with_reducible refine (HL.out _).mono ?_); rintro e w1 ⟨rfl, rfl⟩))
  go_loopw [4, 11] (fun v i wr => ∃ k : Nat, k ≤ n ∧ i = .int .i64 k ∧ Hid (V8 (zs.take k)) ∧ Below w.heap.size w wr) (fun _ i _ => n - (intOf i).toNat)
  case atStart => exact ⟨0, Nat.zero_le _, rfl, (show V8 (zs.take 0) from fun z hz => by simp at hz), by (repeat' (first | (with_reducible exact Below.refl _ _) | (with_reducible assumption) | (with_reducible refine belowThru ?_ (by assumption)) | (with_reducible refine belowAlloc ?_) | (with_reducible refine Below.setCell ?_ (by first | omega | (simp; done) | (simp; omega)) _) | (with_reducible refine Below.drew ?_) | (with_reducible refine below_drewN ?_ _)))⟩
  case round =>
    obtain ⟨k, hk, rfl, ht, hB⟩ := hrel
    by_cases hlt : k < n
    · obtain ⟨b1, o1, z1, rfl, l1, h1, c1⟩ := HR.out.int hlt
      have c1 := cell_later hB c1
      have p0 : (0 : Int) ≤ (k : Int) := by omega
      have p1 : (k : Int) < (n : Int) := by omega
      by_cases he : 0 ≤ z1 ∧ z1 ≤ 255
      · have ht' : Hid (V8 (zs.take (k + 1))) := V8.snoc ht.out h1 he
        have HC := Lib.hid (gwithin_yes z1 0 255 he.1 he.2)
        clear h1 he
        go_wp2_with (go_at_call 59; ((with_reducible refine (HC.out _).mono ?_); rintro e w1 ⟨rfl, rfl⟩))
        go_roundw
        case rel => exact ⟨k + 1, hlt, by go_num, ht', by (repeat' (first | (with_reducible exact Below.refl _ _) | (with_reducible assumption) | (with_reducible refine belowThru ?_ (by assumption)) | (with_reducible refine belowAlloc ?_) | (with_reducible refine Below.setCell ?_ (by first | omega | (simp; done) | (simp; omega)) _) | (with_reducible refine Below.drew ?_) | (with_reducible refine below_drewN ?_ _)))⟩
        case measure => simp [intOf]; omega
      · have hz : ckP zs = 50 := ckP_no (fun h => V8.not h1 he h.2)
        have HC := Lib.hid (gwithin_no z1 0 255 he)
        clear h1 he
        go_wp2_with (go_at_call 59; ((with_reducible refine (HC.out _).mono ?_); rintro e w1 ⟨rfl, rfl⟩))
        go_ret
        exact ⟨by rw [hz]; rfl, by (repeat' (first | (with_reducible exact Below.refl _ _) | (with_reducible assumption) | (with_reducible refine belowThru ?_ (by assumption)) | (with_reducible refine belowAlloc ?_) | (with_reducible refine Below.setCell ?_ (by first | omega | (simp; done) | (simp; omega)) _) | (with_reducible refine Below.drew ?_) | (with_reducible refine below_drewN ?_ _)))⟩
    · have hz : ckP zs = 0 := ckP_ok ⟨⟨by rw [HX.out]; exact hn2, by rw [HX.out]; exact hn64⟩, V8.all (k := k) ht.out (by rw [HX.out]; omega)⟩
      go_wp2
      go_ret
      exact ⟨by rw [hz]; rfl, by (repeat' (first | (with_reducible exact Below.refl _ _) | (with_reducible assumption) | (with_reducible refine belowThru ?_ (by assumption)) | (with_reducible refine belowAlloc ?_) | (with_reducible refine Below.setCell ?_ (by first | omega | (simp; done) | (simp; omega)) _) | (with_reducible refine Below.drew ?_) | (with_reducible refine below_drewN ?_ _)))⟩
set_option maxHeartbeats 400000 in
theorem ckP_len (a : Option Addr) (n c : Nat) (hn : n ≤ maxLen) (h : ¬ (2 ≤ n ∧ n ≤ 64)) (w : World) :
    Calls Try.prog 26 #[.slice a n c] w fun e w' => e = .returned (.int .i64 50) ∧ Below w.heap.size w w' := by
  have HL := Lib.hid (gwithin_no (n : Int) 2 64 (fun k => h (by omega)))
  unfold maxLen at hn
  clear h
  go_enter Try.func26, Try.ntmps26
  go_wp2_with (go_at_call 59; ((with_reducible refine (HL.out _).mono ?_); rintro e w1 ⟨rfl, rfl⟩))
  go_ret
  exact ⟨rfl, by (repeat' (first | (with_reducible exact Below.refl _ _) | (with_reducible assumption) | (with_reducible refine belowThru ?_ (by assumption)) | (with_reducible refine belowAlloc ?_) | (with_reducible refine Below.setCell ?_ (by first | omega | (simp; done) | (simp; omega)) _) | (with_reducible refine Below.drew ?_) | (with_reducible refine below_drewN ?_ _)))⟩
theorem ckP_any (a : Option Addr) (n c : Nat) (zs : List Int) (hn : n ≤ maxLen) (w : World) (hR : Row w a n (iv zs)) :
    Calls Try.prog 26 #[.slice a n c] w fun e w' => e = .returned (.int .i64 (ckP zs)) ∧ Below w.heap.size w w' := by
  by_cases hl : 2 ≤ n ∧ n ≤ 64
  · exact ckP_loop a n c zs hl.1 hl.2 w hR
  · have hx : zs.length = n := by have := hR.1; rwa [iv_length] at this
    rw [ckP_no (fun h => hl (by rw [← hx]; exact h.1))]
    exact ckP_len a n c hn hl w
end Go.Proofs.Ytdimmnoflenfhaa
/-
  Layer 5: the iterator over a profile, from an index to one of its ends.
-/
namespace Go.Proofs.Ytdimmnoflenfhaa
open Go.RowKit Go.Shelf
set_option linter.unusedVariables false
set_option linter.unusedSimpArgs false

attribute [local go_sem] Oper.semAt_some

/-- An element of a way: how far it is from the start, and its value. -/
abbrev Wel (q : List Int) := { x : Nat × Int // q[x.1]? = some x.2 }
def weEnc {q : List Int} (p s : Int) (x : Wel q) : Array Value := #[.int .i64 (p + s * (x.1.1 : Int)), .int .i64 x.1.2]
/-- So many have come, in order. -/
def WAll {q : List Int} (k : Nat) (xs : List (Wel q)) : Prop := xs.map (fun x => x.1.1) = List.range k
theorem WAll.snoc {q : List Int} {k : Nat} {xs : List (Wel q)} (h : WAll k xs) (x : Wel q) (hx : x.1.1 = k) : WAll (k + 1) (xs ++ [x]) := by
  unfold WAll at *
  rw [List.map_append, h, List.range_succ, List.map_singleton, hx]
theorem WAll.length {q : List Int} {k : Nat} {xs : List (Wel q)} (h : WAll k xs) : xs.length = k := by
  have := congrArg List.length h
  simpa using this
/-- The boxes that the iterator reads. -/
def AlG (Ba Bp Bs : Nat) (p s : Int) (a : Option Addr) (n c : Nat) (W : World) : Prop :=
  W.cell? ⟨Ba, 0, none⟩ = some (.int .i64 p) ∧ W.cell? ⟨Bp, 0, none⟩ = some (.slice a n c) ∧ W.cell? ⟨Bs, 0, none⟩ = some (.int .i64 s)
/-- The list q is the way through zs from p on by steps of s. -/
def IsWay (zs : List Int) (n : Nat) (p s : Int) (q : List Int) : Prop :=
  (∀ (k : Nat) (v : Int), q[k]? = some v → ∃ j : Nat, p + s * (k : Int) = (j : Int) ∧ j < n ∧ zs[j]? = some v) ∧ ¬ (0 ≤ p + s * (q.length : Int) ∧ p + s * (q.length : Int) < n) ∧ q.length ≤ 64

set_option maxRecDepth 100000 in
set_option maxHeartbeats 2000000 in
theorem along1_in (m l Ba Bp Bs n c : Nat) (a : Option Addr) (p s : Int) (zs q : List Int) (hm : 1 ≤ m) (hn : n ≤ 64) (hs : s = 1 ∨ s = -1) (hp0 : 0 ≤ p) (hp1 : p < 64) (hw : IsWay zs n p s q) (W0 : World) (hG : AlG Ba Bp Bs p s a n c W0) (hR : Row W0 a n (iv zs))
    (J Jx : List (Wel q) → World → Prop) (B : Nat) (hJ : AbidesFrom B J)
    (hY : ∀ pre x W, J pre W → pre.length < q.length → YieldAt Fence.wide (m - 1) Try.prog l (weEnc p s x) W fun e W' =>
      (e = .returned (.bool true) ∧ J (pre ++ [x]) W' ∧ Below W0.heap.size W W') ∨ (e = .returned (.bool false) ∧ Jx (pre ++ [x]) W'))
    (W : World) (hW : Below W0.heap.size W0 W) (h0 : J [] W) :
    CallsIn Fence.wide m Try.prog 101 #[.func (.yield l) #[] #[], .pointer (some ⟨Ba, 0, none⟩), .pointer (some ⟨Bp, 0, none⟩), .pointer (some ⟨Bs, 0, none⟩)] W fun e W' => (∃ v, e = .returned v) ∧
      ((∃ xs, WAll q.length xs ∧ J xs W') ∨ (∃ pre, (∃ k, WAll k pre) ∧ Jx pre W')) := by
  have HY := Lib.hid hY
  have HR := Lib.hid hR
  have HW := Lib.hid hw
  clear hY hR hw
  obtain ⟨g0, g1, g2⟩ := hG
  have HG := Lib.hid (⟨g0, g1, g2⟩ : AlG Ba Bp Bs p s a n c W0)
  have g0 := cell_later hW g0
  have g1 := cell_later hW g1
  have g2 := cell_later hW g2
  refine callsIn_of_wp Try.func101 rfl trivial ?_ rfl
  simp only [Try.ntmps101, List.size_toArray, List.length_cons, List.length_nil, Nat.reduceAdd, Nat.reduceSub, Array.replicate_succ, Array.replicate_zero, List.push_toArray, List.append_toArray, List.nil_append, List.cons_append]
  gi_wp2
  clear g0 g1 g2
  gi_loopw [5] (fun i wr => ∃ k : Nat, k ≤ q.length ∧ i = .int .i64 (p + s * (k : Int)) ∧ ∃ pre, WAll k pre ∧ J pre wr ∧ Hid (Below W0.heap.size W0 wr))
    (fun i _ => if s = 1 then q.length - (intOf i - p).toNat else q.length - (p - intOf i).toNat)
  case atStart => exact ⟨0, Nat.zero_le _, by simp, [], rfl, h0, hW⟩
  case round =>
    obtain ⟨k, hk, rfl, pre, hpre, hJs, hB'⟩ := hrel
    clear h0 hW
    have hB := hB'.out
    obtain ⟨c0, c1, c2⟩ := HG.out
    have c0 := cell_later hB c0
    have c1 := cell_later hB c1
    have c2 := cell_later hB c2
    have hq64 := HW.out.2.2
    have hsk : s * (k : Int) = k ∨ s * (k : Int) = -k := by rcases hs with rfl | rfl <;> simp
    obtain ⟨i, hi⟩ : ∃ i, p + s * (k : Int) = i := ⟨_, rfl⟩
    by_cases hlt : k < q.length
    · obtain ⟨v, hv⟩ : ∃ v, q[k]? = some v := ⟨_, List.getElem?_eq_getElem hlt⟩
      obtain ⟨j, hj, hjn, hz⟩ := HW.out.1 k v hv
      obtain ⟨bb, oo, z, rfl, hbb, hz2, cz⟩ := HR.out.int hjn
      rw [hz] at hz2; cases hz2
      have cz := cell_later hB cz
      rw [hi] at hj
      subst hj
      have i0 : (0 : Int) ≤ (j : Int) := by omega
      have i1 : (j : Int) < (n : Int) := by omega
      obtain ⟨fn, tmps, assign, body, hy, hR⟩ := HY.out pre ⟨(k, v), hv⟩ wr hJs (by rw [hpre.length]; exact hlt)
      dsimp only [weEnc] at hy
      rw [hi] at hy ⊢
      have hnx : p + s * ((k + 1 : Nat) : Int) = (j : Int) + s := by rw [← hi]; push_cast; rw [Int.mul_add, Int.mul_one, Int.add_assoc]
      have hwr : IntKind.i64.wrap ((j : Int) + s) = (j : Int) + s := IntWalk.i64_in _ (by omega)
      gi_wp2
      refine hR.mono ?_
      rintro e W3 (⟨rfl, hJ3, hk3⟩ | ⟨rfl, hJx3⟩)
      · have hB3 := hB.trans hk3
        obtain ⟨d0, d1, d2⟩ := HG.out
        have d2 := cell_later hB3 d2
        gi_wp2
        go_roundw
        case rel => exact ⟨k + 1, by omega, by rw [hnx], _, hpre.snoc _ rfl, hJ3, hB3⟩
        case measure => simp [intOf]; rcases hs with rfl | rfl <;> simp <;> omega
      · gi_wp2
        refine bodyPost_ret (results_none rfl _ _ _) rfl ?_
        exact ⟨⟨_, rfl⟩, .inr ⟨_, ⟨k + 1, hpre.snoc _ rfl⟩, hJx3⟩⟩
    · obtain rfl : k = q.length := by omega
      have he := HW.out.2.1
      rw [hi] at he ⊢
      have hib : -64 ≤ i ∧ i ≤ 128 := by omega
      by_cases h1 : 0 ≤ i
      · have h2 : decide (i < (n : Int)) = false := by simp; omega
        clear he
        gi_wp2
        go_end0
        exact ⟨⟨_, rfl⟩, .inl ⟨pre, hpre, hJs⟩⟩
      · clear he
        gi_wp2
        go_end0
        exact ⟨⟨_, rfl⟩, .inl ⟨pre, hpre, hJs⟩⟩

set_option maxHeartbeats 1000000 in
theorem along_any (p s : Int) (a : Option Addr) (n c : Nat) (w : World) :
    Calls Try.prog 73 #[.slice a n c, .int .i64 p, .int .i64 s] w fun e w' => e = .returned (.func (.func 101) #[] #[.pointer (some ⟨w.heap.size + 1, 0, none⟩), .pointer (some ⟨w.heap.size, 0, none⟩), .pointer (some ⟨w.heap.size + 1 + 1, 0, none⟩)]) ∧ w' = ((w.alloc (.cells #[.slice a n c] 27)).alloc (.cells #[.int .i64 p] 3)).alloc (.cells #[.int .i64 s] 3) := by
  go_enter Try.func73, Try.ntmps73
  go_wp2
  go_ret
  exact ⟨rfl, rfl⟩

/-- What a loop over a way may count on. -/
theorem along_stops (m Ba Bp Bs n c : Nat) (a : Option Addr) (p s : Int) (zs q : List Int) (hm : 1 ≤ m) (hn : n ≤ 64) (hs : s = 1 ∨ s = -1) (hp0 : 0 ≤ p) (hp1 : p < 64) (hw : IsWay zs n p s q) (W0 : World) (hG : AlG Ba Bp Bs p s a n c W0) (hR : Row W0 a n (iv zs)) :
    SeqStopsK Fence.wide m Try.prog 101 #[.pointer (some ⟨Ba, 0, none⟩), .pointer (some ⟨Bp, 0, none⟩), .pointer (some ⟨Bs, 0, none⟩)] (weEnc (q := q) p s) (Below W0.heap.size) (WAll q.length) (fun pre => ∃ k, WAll k pre) q.length W0 := fun l J Jx W hW hJ _ hY h0 =>
  along1_in m l Ba Bp Bs n c a p s zs q hm hn hs hp0 hp1 hw W0 hG hR J Jx _ hJ hY W hW h0
end Go.Proofs.Ytdimmnoflenfhaa
/-
  Layer 5: the bright place that is met first, by the code.
-/
namespace Go.Proofs.Ytdimmnoflenfhaa
open Go.RowKit Go.Shelf
set_option linter.unusedVariables false
set_option linter.unusedSimpArgs false

attribute [local go_sem] Oper.semAt_some

/-- What Make returns. -/
def mA (n d : Int) : Int := if d = 0 then 0 else rn (mkR n d)
def mB (n d : Int) : Int := if d = 0 then 0 else rd (mkR n d)
def mE (n d : Int) : Int := if d = 0 then 10 else re (mkR n d)
theorem make_any (n d : Int) (n1 : -9223372036854775808 ≤ n) (n2 : n ≤ 9223372036854775807) (d1 : -9223372036854775808 ≤ d) (d2 : d ≤ 9223372036854775807) (w : World) :
    Calls Try.prog 45 #[.int .i64 n, .int .i64 d] w fun e w' => e = .returned (.tuple #[.agg #[.int .i64 (mA n d), .int .i64 (mB n d)], .int .i64 (mE n d)]) ∧ Below w.heap.size w w' := by
  unfold mA mB mE
  by_cases h : d = 0
  · subst h
    rw [if_pos rfl, if_pos rfl, if_pos rfl]
    exact make_zero n w
  · rw [if_neg h, if_neg h, if_neg h]
    exact make_q n d w n1 n2 d1 d2 h

theorem alloc6 (w : World) (c0 : Array Value) (t0 : TypeId) (c1 : Array Value) (t1 : TypeId) (c2 : Array Value) (t2 : TypeId) (c3 : Array Value) (t3 : TypeId) (c4 : Array Value) (t4 : TypeId) (c5 : Array Value) (t5 : TypeId) :
    ∃ W0, (((((w.alloc (.cells c0 t0)).alloc (.cells c1 t1)).alloc (.cells c2 t2)).alloc (.cells c3 t3)).alloc (.cells c4 t4)).alloc (.cells c5 t5) = W0 ∧ Blk W0 w.heap.size c0 t0 ∧ Blk W0 (w.heap.size + 1) c1 t1 ∧ Blk W0 (w.heap.size + 1 + 1) c2 t2 ∧ Blk W0 (w.heap.size + 1 + 1 + 1) c3 t3 ∧ Blk W0 (w.heap.size + 1 + 1 + 1 + 1) c4 t4 ∧ Blk W0 (w.heap.size + 1 + 1 + 1 + 1 + 1) c5 t5 ∧ Below w.heap.size w W0 ∧ W0.heap.size = w.heap.size + 1 + 1 + 1 + 1 + 1 + 1 :=
  ⟨_, rfl, Blk.alloc (Blk.alloc (Blk.alloc (Blk.alloc (Blk.alloc (Blk.new rfl))))), Blk.alloc (Blk.alloc (Blk.alloc (Blk.alloc (Blk.new (by simp))))), Blk.alloc (Blk.alloc (Blk.alloc (Blk.new (by simp)))), Blk.alloc (Blk.alloc (Blk.new (by simp))), Blk.alloc (Blk.new (by simp)), Blk.new (by simp), by (repeat' (first | (with_reducible exact Below.refl _ _) | (with_reducible assumption) | (with_reducible refine belowThru ?_ (by assumption)) | (with_reducible refine belowAlloc ?_) | (with_reducible refine Below.setCell ?_ (by first | omega | (simp; done) | (simp; omega)) _) | (with_reducible refine Below.drew ?_) | (with_reducible refine below_drewN ?_ _))), by simp⟩
theorem alloc3 (w : World) (c0 : Array Value) (t0 : TypeId) (c1 : Array Value) (t1 : TypeId) (c2 : Array Value) (t2 : TypeId) :
    ∃ W0, ((w.alloc (.cells c0 t0)).alloc (.cells c1 t1)).alloc (.cells c2 t2) = W0 ∧ Blk W0 w.heap.size c0 t0 ∧ Blk W0 (w.heap.size + 1) c1 t1 ∧ Blk W0 (w.heap.size + 1 + 1) c2 t2 ∧ Below w.heap.size w W0 ∧ W0.heap.size = w.heap.size + 1 + 1 + 1 :=
  ⟨_, rfl, Blk.alloc (Blk.alloc (Blk.new rfl)), Blk.alloc (Blk.new (by simp)), Blk.new (by simp), by (repeat' (first | (with_reducible exact Below.refl _ _) | (with_reducible assumption) | (with_reducible refine belowThru ?_ (by assumption)) | (with_reducible refine belowAlloc ?_) | (with_reducible refine Below.setCell ?_ (by first | omega | (simp; done) | (simp; omega)) _) | (with_reducible refine Below.drew ?_) | (with_reducible refine below_drewN ?_ _))), by simp⟩

theorem Blk.own {X Y : World} {b : Nat} {c : Array Value} {t : TypeId} {row : Option Nat} (h : Blk X b c t) (hg : X.grownBy Y row) (hr : ∀ r, row = some r → ∃ o : Obj, X.heap[r]? = some o ∧ o.isCells = false) : Blk Y b c t :=
  (hg.block b h.lt (fun e => by
    obtain ⟨o, ho, hc⟩ := hr b e.symm
    have : X.heap[b]? = _ := h
    rw [this] at ho; cases ho; cases hc)).trans h
theorem KeepsFrom.of_below {B : Nat} {W W' : World} (h : Below W.heap.size W W') : KeepsFrom B W W' :=
  ⟨h.size, fun k o _ hk _ => (h.block k (Array.getElem?_eq_some_iff.1 hk).1).trans hk⟩
/-- What the code asks Make for at a place of a way. -/
def nArg (p s t : Int) (q : List Int) (k : Nat) : Int × Int :=
  if k = 0 then (p, 1) else ((p + s * (k : Int)) * (q[k]?.getD 0 - q[k - 1]?.getD 0) - s * (q[k]?.getD 0 - t), q[k]?.getD 0 - q[k - 1]?.getD 0)
def nA (p s t : Int) (q : List Int) : Option Nat → Int
  | none => 0
  | some k => mA (nArg p s t q k).1 (nArg p s t q k).2
def nB (p s t : Int) (q : List Int) : Option Nat → Int
  | none => 0
  | some k => mB (nArg p s t q k).1 (nArg p s t q k).2
def nE (p s t : Int) (q : List Int) : Option Nat → Int
  | none => 6
  | some k => mE (nArg p s t q k).1 (nArg p s t q k).2
theorem fb_none_of {t : Int} {q : List Int} {xs : List (Wel q)} (h : WAll q.length xs) (hd : ∀ y ∈ xs, y.1.2 < t) : fb t q = none := by
  rw [fb_none]
  intro u hu
  obtain ⟨k, hk⟩ := List.getElem?_of_mem hu
  have hl := (List.getElem?_eq_some_iff.1 hk).1
  have hm : k ∈ xs.map (fun x => x.1.1) := by rw [h]; exact List.mem_range.2 hl
  obtain ⟨x, hx, e⟩ := List.mem_map.1 hm
  have hx2 := x.2
  rw [e, hk] at hx2
  have := hd x hx
  rw [← Option.some.inj hx2] at this; exact this
theorem fb_some_of {t : Int} {q : List Int} {pre : List (Wel q)} {x : Wel q} {k : Nat} (h : WAll k (pre ++ [x])) (hd : ∀ y ∈ pre, y.1.2 < t) (hx : t ≤ x.1.2) : fb t q = some x.1.1 := by
  have hl := WAll.length h
  rw [List.length_append, List.length_singleton] at hl
  subst hl
  unfold WAll at h
  rw [List.map_append, List.range_succ] at h
  have h2 := List.append_inj' h rfl
  have e : x.1.1 = pre.length := by simpa using h2.2
  refine fb_some.2 ⟨x.1.2, x.2, hx, fun i hi u hu => ?_⟩
  rw [e] at hi
  have hm : i ∈ pre.map (fun x => x.1.1) := by rw [h2.1]; exact List.mem_range.2 hi
  obtain ⟨y, hy, ey⟩ := List.mem_map.1 hm
  have hy2 := y.2
  rw [ey, hu] at hy2
  have := hd y hy
  rw [← Option.some.inj hy2] at this; exact this

set_option maxRecDepth 100000 in
set_option maxHeartbeats 4000000 in
theorem near_in (m : Nat) (hm : 3 ≤ m) (t : Int) (p : Nat) (s : Int) (a : Option Addr) (n c : Nat) (zs q : List Int) (hz : okP zs) (hl : zs.length = n) (ht : okT t) (hs : s = 1 ∨ s = -1) (hp : p < n) (hw : IsWay zs n p s q) (w : World) (hR : Row w a n (iv zs)) :
    CallsIn Fence.wide m Try.prog 41 #[.slice a n c, .int .i64 t, .int .i64 p, .int .i64 s] w fun e w' => e = .returned (.tuple #[.agg #[.int .i64 (nA p s t q (fb t q)), .int .i64 (nB p s t q (fb t q))], .int .i64 (nE p s t q (fb t q))]) ∧ Below w.heap.size w w' := by
  have hn64 : n ≤ 64 := by rw [← hl]; exact hz.1.2
  have HC : Hid (∀ (a : Option Addr) (c : Nat) (w : World), Row w a n (iv zs) → Calls Try.prog 26 #[.slice a n c] w fun e w' => e = .returned (.int .i64 0) ∧ Below w.heap.size w w') := fun a c w hR => by
    have := ckP_any a n c zs (by unfold maxLen; omega) w hR
    rwa [ckP_ok hz] at this
  have HT : Hid (∀ w, Calls Try.prog 69 #[.int .i64 t] w fun e w' => e = .returned (.bool true) ∧ w = w') := fun w => by
    have := isThr_any t w
    rwa [decide_eq_true ht] at this
  have HI := Lib.hid (gwithin_yes (p : Int) 0 ((n : Int) - 1) (by omega) (by omega))
  have hw1 : IntKind.i64.wrap ((n : Int) - 1) = (n : Int) - 1 := IntWalk.i64_in _ (by omega)
  have HZ := Lib.hid hz; have HL := Lib.hid hl; have HW := Lib.hid hw; have HR := Lib.hid hR; have HTh := Lib.hid ht
  have pt0 := ht.1; have pt1 := ht.2
  refine callsIn_of_wp_marks Try.func41 rfl trivial ?_ rfl
  simp only [Try.ntmps41, List.size_toArray, List.length_cons, List.length_nil, Nat.reduceAdd, Nat.reduceSub, Array.replicate_succ, Array.replicate_zero, List.push_toArray, List.append_toArray, List.nil_append, List.cons_append]
  have n1 : 1 ≤ m := by omega
  have hmx : Try.prog.follows .mixedOrders = true := by kernel_rfl
  gi_wp2
  (try (refine ⟨trivial, ?_⟩))
  gi_at_call 26
  obtain ⟨W0, hW0, k0, k1, k2, k3, k4, k5, hB0, hsz⟩ := alloc6 w #[.slice a n c] 27 #[.int .i64 t] 3 #[.int .i64 p] 3 #[.int .i64 s] 3 #[.int .i64 0, .int .i64 0] 23 #[.int .i64 0] 24
  rw [hW0]
  clear hW0
  refine (callsIn_wide.2 (HC.out _ _ _ (hR.later hB0))).mono ?_
  rintro e wC ⟨rfl, hb⟩
  have hBC := belowThru hB0 hb
  replace k0 := Blk.later hb k0
  obtain ⟨a0, b0⟩ := k0.read
  replace k1 := Blk.later hb k1
  obtain ⟨a1, b1⟩ := k1.read
  replace k2 := Blk.later hb k2
  obtain ⟨a2, b2⟩ := k2.read
  replace k3 := Blk.later hb k3
  obtain ⟨a3, b3⟩ := k3.read
  replace k4 := Blk.later hb k4
  obtain ⟨a4, b4⟩ := k4.read
  replace k5 := Blk.later hb k5
  obtain ⟨a5, b5⟩ := k5.read
  replace hsz : w.heap.size + 1 + 1 + 1 + 1 + 1 + 1 ≤ wC.heap.size := by (have := hb.size; omega)
  clear hb hB0
  gi_wp2_with (first
    | ((try (refine ⟨trivial, ?_⟩)); gi_at_call 69; refine (callsIn_wide.2 (HT.out _)).mono ?_; rintro e w' ⟨rfl, rfl⟩)
    | ((try (refine ⟨trivial, ?_⟩)); gi_at_call 59; refine (callsIn_wide.2 (HI.out _)).mono ?_; rintro e w' ⟨rfl, rfl⟩)
    | ((try (refine ⟨trivial, ?_⟩)); gi_at_call 73; refine (callsIn_wide.2 (along_any _ _ _ _ _ _)).mono ?_; rintro e w' ⟨rfl, rfl⟩))
  obtain ⟨W0, hW0, q0, q1, q2, hB1, hsz1⟩ := alloc3 wC #[.slice a n c] 27 #[.int .i64 p] 3 #[.int .i64 s] 3
  rw [hW0]
  clear hW0
  replace k0 := Blk.later hB1 k0
  clear a0 b0
  replace k1 := Blk.later hB1 k1
  clear a1 b1
  replace k2 := Blk.later hB1 k2
  clear a2 b2
  replace k3 := Blk.later hB1 k3
  clear a3 b3
  replace k4 := Blk.later hB1 k4
  clear a4 b4
  replace k5 := Blk.later hB1 k5
  clear a5 b5
  have hBW : Below w.heap.size w W0 := belowThru hBC hB1
  have hzs : w.heap.size + 1 + 1 + 1 + 1 + 1 + 1 ≤ W0.heap.size := by omega
  refine wpIn_rangeFunc_ownG rfl n1 (gf := 101) (lb := #[.pointer (some ⟨wC.heap.size + 1, 0, none⟩), .pointer (some ⟨wC.heap.size, 0, none⟩), .pointer (some ⟨wC.heap.size + 1 + 1, 0, none⟩)]) rfl trivial (enters_of Try.func101 (by kernel_rfl) rfl)
    (along_stops (m - 1) (wC.heap.size + 1) wC.heap.size (wC.heap.size + 1 + 1) n c a p s zs q (by omega) hn64 hs (by omega) (by omega) hw W0 ⟨q1.cells 0, q0.cells 0, q2.cells 0⟩ (hR.later hBW))
    belowK_t (belowK_b (Nat.le_refl _)) (Below.refl _ _) (fun _ => rfl)
    (fun pre W => Hid (∀ y ∈ pre, y.1.2 < t) ∧ (Blk W (w.heap.size) #[.slice a n c] 27 ∧ Blk W (w.heap.size + 1) #[.int .i64 t] 3 ∧ Blk W (w.heap.size + 1 + 1) #[.int .i64 p] 3 ∧ Blk W (w.heap.size + 1 + 1 + 1) #[.int .i64 s] 3 ∧ Blk W (w.heap.size + 1 + 1 + 1 + 1) #[.int .i64 0, .int .i64 0] 23 ∧ Blk W (w.heap.size + 1 + 1 + 1 + 1 + 1) #[.int .i64 0] 24) ∧ Below w.heap.size w W)
    (fun c0 pre W => c0 = .ret ∧ ∃ pre0 x, pre = pre0 ++ [x] ∧ Hid (∀ y ∈ pre0, y.1.2 < t) ∧ t ≤ x.1.2 ∧ Blk W (w.heap.size + 1 + 1 + 1 + 1) #[.int .i64 (mA (nArg p s t q x.1.1).1 (nArg p s t q x.1.1).2), .int .i64 (mB (nArg p s t q x.1.1).1 (nArg p s t q x.1.1).2)] 23 ∧ Blk W (w.heap.size + 1 + 1 + 1 + 1 + 1) #[.int .i64 (mE (nArg p s t q x.1.1).1 (nArg p s t q x.1.1).2)] 24 ∧ Below w.heap.size w W)
    (fun s X Y row hs hg hr => by
      obtain ⟨hd, ⟨c0, c1, c2, c3, c4, c5⟩, hb⟩ := hs
      have hr' := fun r e => (hr r e).2
      exact ⟨hd, ⟨c0.own hg hr', c1.own hg hr', c2.own hg hr', c3.own hg hr', c4.own hg hr', c5.own hg hr'⟩, ownFrom_below (β := Unit) (Nat.le_refl _) hBW.size () X Y row hb hg hr⟩)
    (fun c0 s X Y row hs hg hr => by
      obtain ⟨hc, pre0, x, he, hd, hx, c4, c5, hb⟩ := hs
      have hr' := fun r e => (hr r e).2
      exact ⟨hc, pre0, x, he, hd, hx, c4.own hg hr', c5.own hg hr', ownFrom_below (β := Unit) (Nat.le_refl _) hBW.size () X Y row hb hg hr⟩)
    ⟨(show ∀ y ∈ ([] : List (Wel q)), y.1.2 < t from fun y hy => by cases hy), ⟨k0, k1, k2, k3, k4, k5⟩, hBW⟩
    (fun x => { tmps := #[.slice a n c, .int .i64 t, .int .i64 p, .int .i64 s, .pointer (some ⟨w.heap.size, 0, none⟩), .pointer (some ⟨w.heap.size + 1, 0, none⟩), .pointer (some ⟨w.heap.size + 1 + 1, 0, none⟩), .pointer (some ⟨w.heap.size + 1 + 1 + 1, 0, none⟩), .pointer (some ⟨w.heap.size + 1 + 1 + 1 + 1, 0, none⟩), .pointer (some ⟨w.heap.size + 1 + 1 + 1 + 1 + 1, 0, none⟩), .int .i64 0, .int .i64 ((p : Int) + s * (x.1.1 : Int)), .int .i64 x.1.2, undef, .slice a n c, .int .i64 0, .int .i64 0, .bool false, undef, undef, .int .i64 t, .bool true, .bool false, .bool false, .int .i64 p, .slice a n c, .int .i64 n, .int .i64 ((n : Int) - 1), .bool true, .bool false, .bool false, undef, .slice a n c, .int .i64 p, .int .i64 s, .func (.func 101) #[] #[.pointer (some ⟨wC.heap.size + 1, 0, none⟩), .pointer (some ⟨wC.heap.size, 0, none⟩), .pointer (some ⟨wC.heap.size + 1 + 1, 0, none⟩)], .int .i64 ((p : Int) + s * (x.1.1 : Int)), .int .i64 x.1.2, undef, undef, undef, undef, undef, undef, undef, undef, undef, undef, undef, undef, undef, undef, undef, undef, undef, undef, undef, undef, undef, undef, undef, undef, undef, undef, undef, undef, undef, undef, undef, undef], defers := [] }) ?assign ?body ?done ?stop
  case assign =>
    intro l x W K hK
    simp only [weEnc]
    gi_wp2
    exact hK
  case body =>
    rintro l pre ⟨⟨k, v⟩, hv⟩ W ⟨hd, ⟨k0, k1, k2, k3, k4, k5⟩, hB⟩ hlt
    have HD := Lib.hid hd.out
    have hv8 := HZ.out.2
    obtain ⟨j, hj, hjn, hzj⟩ := HW.out.1 k v hv
    have hv8 := HZ.out.2 v (List.mem_of_getElem? hzj)
    obtain ⟨a0, b0⟩ := k0.read; obtain ⟨a1, b1⟩ := k1.read; obtain ⟨a2, b2⟩ := k2.read; obtain ⟨a3, b3⟩ := k3.read; obtain ⟨a4, b4⟩ := k4.read; obtain ⟨a5, b5⟩ := k5.read
    dsimp only at hlt ⊢
    have n2 : 1 ≤ m - 1 - 1 := by omega
    have hv0 := hv8.1; have hv1 := hv8.2
    rw [hj]
    by_cases hvt : v < t
    · clear hw hv8
      gi_wp2
      refine ⟨KeepsFrom.of_below (Below.refl _ _), Below.refl _ _, ?_, ⟨k0, k1, k2, k3, k4, k5⟩, hB⟩
      show ∀ y ∈ pre ++ [⟨(k, v), hv⟩], y.1.2 < t
      intro y hy
      rcases List.mem_append.1 hy with h | h
      · exact HD.out y h
      · rw [List.mem_singleton] at h; subst h; exact hvt
    · have hvt2 : t ≤ v := by omega
      by_cases hk : k = 0
      · subst hk
        have hjp : j = p := by
          have : (p : Int) + s * ((0 : Nat) : Int) = p := by simp
          omega
        subst hjp
        have hN : Hid (nArg j s t q 0 = ((j : Int), 1)) := if_pos rfl
        have HM := Lib.hid (make_any (j : Int) 1 (by omega) (by omega) (by omega) (by omega))
        clear hw hv8 hvt
        as_aux_lemma =>
          gi_wp2_with ((try (refine ⟨trivial, ?_⟩)); gi_at_call 45; refine (CallsIn.inRound l (callsIn_wide.2 (HM.out _))).mono ?_; rintro e wA ⟨rfl, hA⟩; have k4' := Blk.later hA k4; have k5' := Blk.later hA k5; obtain ⟨a4', b4'⟩ := k4'.read; obtain ⟨a5', b5'⟩ := k5'.read)
          refine ⟨?_, rfl, pre, ⟨(0, v), hv⟩, rfl, HD, hvt2, ?_, ?_, ?_⟩
          · refine KeepsFrom.trans ?_ ((KeepsOthers.setCell _ _ _).from _)
            refine KeepsFrom.trans ?_ ((KeepsOthers.setCell _ _ _).from _)
            refine KeepsFrom.trans ?_ ((KeepsOthers.setCell _ _ _).from _)
            exact KeepsFrom.of_below hA
          · rw [show nArg j s t q (⟨(0, v), hv⟩ : Wel q).1.1 = _ from hN.out]
            exact Blk.other (Blk.set (Blk.set k4')) (by simp)
          · rw [show nArg j s t q (⟨(0, v), hv⟩ : Wel q).1.1 = _ from hN.out]
            exact Blk.set (Blk.other (Blk.other k5' (by simp)) (by simp))
          · (repeat' (first | (with_reducible exact Below.refl _ _) | (with_reducible assumption) | (with_reducible refine belowThru ?_ (by assumption)) | (with_reducible refine belowAlloc ?_) | (with_reducible refine Below.setCell ?_ (by first | omega | (simp; done) | (simp; omega)) _) | (with_reducible refine Below.drew ?_) | (with_reducible refine below_drewN ?_ _)))
      · obtain ⟨k', rfl⟩ : ∃ k', k = k' + 1 := ⟨k - 1, by omega⟩
        have hk2 : k' < q.length := by have := (List.getElem?_eq_some_iff.1 hv).1; omega
        obtain ⟨u, hu⟩ : ∃ u, q[k']? = some u := ⟨_, List.getElem?_eq_getElem hk2⟩
        obtain ⟨i, hi, hin, hzi⟩ := HW.out.1 k' u hu
        have hu8 := HZ.out.2 u (List.mem_of_getElem? hzi)
        obtain ⟨bb, oo, z, rfl, hbb, hz2, cz⟩ := HR.out.int hin
        rw [hzi] at hz2; cases hz2
        have cz := cell_later hB cz
        have hji : (j : Int) = (i : Int) + s := by rw [← hj, ← hi]; push_cast; rw [Int.mul_add, Int.mul_one, Int.add_assoc]
        have hjp : ¬ (j : Int) = (p : Int) := by
          rw [← hj]
          rcases hs with rfl | rfl <;> push_cast <;> omega
        have hjp2 : ¬ j = p := by omega
        have hjp3 : ((j : Int) == (p : Int)) = false := beq_false_of_ne hjp
        have i0 : (0 : Int) ≤ (i : Int) := by omega
        have i1 : (i : Int) < (n : Int) := by omega
        have e1 : IntKind.i64.wrap ((j : Int) - s) = (i : Int) := by rw [hji, Int.add_sub_cancel]; exact IntWalk.i64_in _ (by omega)
        obtain ⟨R, hRR⟩ : ∃ R, v - u = R := ⟨_, rfl⟩
        obtain ⟨T, hTT⟩ : ∃ T, v - t = T := ⟨_, rfl⟩
        have e2 : IntKind.i64.wrap (v - u) = R := by rw [hRR]; exact IntWalk.i64_in _ (by omega)
        have e3 : IntKind.i64.wrap (v - t) = T := by rw [hTT]; exact IntWalk.i64_in _ (by omega)
        have m1 := mul_bound (j : Int) R 64 255 (by omega) (by omega) (by omega) (by omega)
        have m2 := mul_bound s T 1 255 (by omega) (by omega) (by omega) (by omega)
        obtain ⟨M, hM⟩ : ∃ M, (j : Int) * R = M := ⟨_, rfl⟩
        obtain ⟨L, hL⟩ : ∃ L, s * T = L := ⟨_, rfl⟩
        rw [hM] at m1; rw [hL] at m2
        have e4 : IntKind.i64.wrap ((j : Int) * R) = M := by rw [hM]; exact IntWalk.i64_in _ (by omega)
        have e5 : IntKind.i64.wrap (s * T) = L := by rw [hL]; exact IntWalk.i64_in _ (by omega)
        have e6 : IntKind.i64.wrap (M - L) = M - L := IntWalk.i64_in _ (by omega)
        have hN : Hid (nArg p s t q (k' + 1) = (M - L, R)) := by
          show nArg p s t q (k' + 1) = _
          unfold nArg
          rw [if_neg (by omega), Nat.add_sub_cancel, hv, hu, hj]
          simp only [Option.getD_some]
          rw [hRR, hTT, hM, hL]
        have HM := Lib.hid (make_any (M - L) R (by omega) (by omega) (by omega) (by omega))
        clear hw hv8 hvt hRR hTT hM hL hji m1 m2 hjp hjp2 hu8
        as_aux_lemma =>
          gi_wp2_with ((try (refine ⟨trivial, ?_⟩)); gi_at_call 45; refine (CallsIn.inRound l (callsIn_wide.2 (HM.out _))).mono ?_; rintro e wA ⟨rfl, hA⟩; have k4' := Blk.later hA k4; have k5' := Blk.later hA k5; obtain ⟨a4', b4'⟩ := k4'.read; obtain ⟨a5', b5'⟩ := k5'.read)
          refine ⟨?_, rfl, pre, ⟨(k' + 1, v), hv⟩, rfl, HD, hvt2, ?_, ?_, ?_⟩
          · refine KeepsFrom.trans ?_ ((KeepsOthers.setCell _ _ _).from _)
            refine KeepsFrom.trans ?_ ((KeepsOthers.setCell _ _ _).from _)
            refine KeepsFrom.trans ?_ ((KeepsOthers.setCell _ _ _).from _)
            exact KeepsFrom.of_below hA
          · rw [show nArg p s t q (⟨(k' + 1, v), hv⟩ : Wel q).1.1 = _ from hN.out]
            exact Blk.other (Blk.set (Blk.set k4')) (by simp)
          · rw [show nArg p s t q (⟨(k' + 1, v), hv⟩ : Wel q).1.1 = _ from hN.out]
            exact Blk.set (Blk.other (Blk.other k5' (by simp)) (by simp))
          · (repeat' (first | (with_reducible exact Below.refl _ _) | (with_reducible assumption) | (with_reducible refine belowThru ?_ (by assumption)) | (with_reducible refine belowAlloc ?_) | (with_reducible refine Below.setCell ?_ (by first | omega | (simp; done) | (simp; omega)) _) | (with_reducible refine Below.drew ?_) | (with_reducible refine below_drewN ?_ _)))
  case done =>
    rintro D xs W hD hall ⟨hd, ⟨k0, k1, k2, k3, k4, k5⟩, hB⟩ hK
    have hf : fb t q = none := fb_none_of hall hd.out
    obtain ⟨a4, b4⟩ := k4.read; obtain ⟨a5, b5⟩ := k5.read
    have hK := (((KeepsOthers.setCell W ⟨w.heap.size + 1 + 1 + 1 + 1, 0, none⟩ (.int .i64 0)).trans (KeepsOthers.setCell _ ⟨w.heap.size + 1 + 1 + 1 + 1, 1, none⟩ (.int .i64 0))).trans (KeepsOthers.setCell _ ⟨w.heap.size + 1 + 1 + 1 + 1 + 1, 0, none⟩ (.int .i64 6))).same D _ hK rfl
    have k4f : Blk (((W.setCell ⟨w.heap.size + 1 + 1 + 1 + 1, 0, none⟩ (.int .i64 0)).setCell ⟨w.heap.size + 1 + 1 + 1 + 1, 1, none⟩ (.int .i64 0)).setCell ⟨w.heap.size + 1 + 1 + 1 + 1 + 1, 0, none⟩ (.int .i64 6)) (w.heap.size + 1 + 1 + 1 + 1) #[.int .i64 0, .int .i64 0] 23 := Blk.other (Blk.set (Blk.set k4)) (by simp)
    have k5f : Blk (((W.setCell ⟨w.heap.size + 1 + 1 + 1 + 1, 0, none⟩ (.int .i64 0)).setCell ⟨w.heap.size + 1 + 1 + 1 + 1, 1, none⟩ (.int .i64 0)).setCell ⟨w.heap.size + 1 + 1 + 1 + 1 + 1, 0, none⟩ (.int .i64 6)) (w.heap.size + 1 + 1 + 1 + 1 + 1) #[.int .i64 6] 24 := Blk.set (Blk.other (Blk.other k5 (by simp)) (by simp))
    replace hB : Below w.heap.size w (((W.setCell ⟨w.heap.size + 1 + 1 + 1 + 1, 0, none⟩ (.int .i64 0)).setCell ⟨w.heap.size + 1 + 1 + 1 + 1, 1, none⟩ (.int .i64 0)).setCell ⟨w.heap.size + 1 + 1 + 1 + 1 + 1, 0, none⟩ (.int .i64 6)) := by (repeat' (first | (with_reducible exact Below.refl _ _) | (with_reducible assumption) | (with_reducible refine belowThru ?_ (by assumption)) | (with_reducible refine belowAlloc ?_) | (with_reducible refine Below.setCell ?_ (by first | omega | (simp; done) | (simp; omega)) _) | (with_reducible refine Below.drew ?_) | (with_reducible refine below_drewN ?_ _)))
    gi_wp2
    obtain ⟨Wf, hWf⟩ : ∃ Wf, (((W.setCell ⟨w.heap.size + 1 + 1 + 1 + 1, 0, none⟩ (.int .i64 0)).setCell ⟨w.heap.size + 1 + 1 + 1 + 1, 1, none⟩ (.int .i64 0)).setCell ⟨w.heap.size + 1 + 1 + 1 + 1 + 1, 0, none⟩ (.int .i64 6)) = Wf := ⟨_, rfl⟩
    rw [hWf] at k4f k5f hK hB ⊢
    clear hWf k4 k5 a4 b4 a5 b5
    have k4 := k4f; have k5 := k5f
    have hb5 := k5.lt
    obtain ⟨f4, g4⟩ := (k4.own (grownBy_putObj' Wf D (.deferred none)) (fun r e => by cases e; exact ⟨_, hK, rfl⟩)).read
    obtain ⟨f5, g5⟩ := (k5.own (grownBy_putObj' Wf D (.deferred none)) (fun r e => by cases e; exact ⟨_, hK, rfl⟩)).read
    refine ⟨by simp, .inl ⟨_, _, rfl, run_takeDeferred hK, ?_⟩⟩
    refine ⟨.tuple #[.agg #[.int .i64 (nA p s t q (fb t q)), .int .i64 (nB p s t q (fb t q))], .int .i64 (nE p s t q (fb t q))], ?_, rfl, hB.trans (belowK_b (w := w) (Nat.le_refl _) Wf D _ _ (by omega) hK rfl rfl)⟩
    rw [hf]
    simp only [results, Try.results41]
    go_simp
    exact ⟨⟨rfl, rfl⟩, rfl⟩
  case stop =>
    rintro D c0 pre W hD ⟨kk, hall⟩ ⟨rfl, pre0, x, rfl, hd, hx, k4, k5, hB⟩ hK
    have hf : fb t q = some x.1.1 := fb_some_of hall hd.out hx
    gi_wp2
    have hb5 := k5.lt
    obtain ⟨f4, g4⟩ := (k4.own (grownBy_putObj' W D (.deferred none)) (fun r e => by cases e; exact ⟨_, hK, rfl⟩)).read
    obtain ⟨f5, g5⟩ := (k5.own (grownBy_putObj' W D (.deferred none)) (fun r e => by cases e; exact ⟨_, hK, rfl⟩)).read
    refine ⟨by simp, .inl ⟨_, _, rfl, run_takeDeferred hK, ?_⟩⟩
    refine ⟨.tuple #[.agg #[.int .i64 (nA p s t q (fb t q)), .int .i64 (nB p s t q (fb t q))], .int .i64 (nE p s t q (fb t q))], ?_, rfl, hB.trans (belowK_b (w := w) (Nat.le_refl _) W D _ _ (by omega) hK rfl rfl)⟩
    rw [hf]
    simp only [results, Try.results41]
    go_simp
    exact ⟨⟨rfl, rfl⟩, rfl⟩
/-- The way to the end, and the way back to the start. -/
theorem isWay_first (zs : List Int) (p : Nat) (hl : zs.length ≤ 64) : IsWay zs zs.length p 1 (zs.drop p) := by
  refine ⟨fun k v h => ⟨p + k, by push_cast; omega, ?_, by rw [drop_get] at h; exact h⟩, ?_, by rw [List.length_drop]; omega⟩
  · rw [drop_get] at h; exact (List.getElem?_eq_some_iff.1 h).1
  · rw [List.length_drop]; omega
theorem isWay_last (zs : List Int) (p : Nat) (hp : p < zs.length) (hl : zs.length ≤ 64) : IsWay zs zs.length p (-1) (zs.take (p + 1)).reverse := by
  refine ⟨fun k v h => ?_, ?_, by rw [back_len _ _ hp]; omega⟩
  · rw [back_get _ _ _ hp] at h
    split at h
    · exact ⟨p - k, by omega, by omega, h⟩
    · cases h
  · rw [back_len _ _ hp]; omega
end Go.Proofs.Ytdimmnoflenfhaa
