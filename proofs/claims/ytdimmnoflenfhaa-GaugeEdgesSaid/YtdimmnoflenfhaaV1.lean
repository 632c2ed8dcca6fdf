/-
  The texts that the laws of this seat share, merged: part 1.
-/
import Derived.BigQuiet
import Derived.ChangeSame
import Derived.Deep.CutBlock
import Derived.Deep.DeepCutAuto
import Derived.Deep.DeepHandedRow
import Derived.Deep.Draws
import Derived.Deep.LoopGhost
import Derived.Deep.QuietTactic
import Derived.Deep.RegionHeld3
import Derived.IntWalk
import Derived.LaidSub
import Derived.Laws.AppendOwn
import Derived.Laws.Bits64b
import Derived.Lay
import Derived.Lib.Hide
import Derived.Lib.ItoaNum
import Derived.Lib.SmallJoins
import Derived.LoopTactic
import Derived.OneCell
import Derived.OpenShut
import Derived.ProofKit
import Derived.Shelf.Bits.Mul64
import Derived.Shelf.Small.Bits
import Derived.Shelf.Spec.BitsCarry
import Derived.Shelf.Strconv.Itoa0
import Derived.Test.YtdimmnoflenfhaaProg
import Derived.Test.YtdimmnoflenfhaaRows
import Derived.WalkKit
import Derived.WalkLawsBesides
import Derived.WalkSmall
import Derived.WalkSpells
/-
  A block of the memory that is known whole, and what leaves it so.
-/
namespace Go.Proofs.Ytdimmnoflenfhaa
open Go.RowKit

/-- Block b holds these cells, and may be written. -/
def Blk (w : World) (b : Nat) (c : Array Value) (t : TypeId) : Prop := w.heap[b]? = some (.cells c t (0, 0))
theorem Blk.lt {w : World} {b : Nat} {c : Array Value} {t : TypeId} (h : Blk w b c t) : b < w.heap.size := lt_of_block h
theorem Blk.later {w wx : World} {b : Nat} {c : Array Value} {t : TypeId} (hb : Below w.heap.size w wx) (h : Blk w b c t) : Blk wx b c t := (hb.block b h.lt).trans h
theorem Blk.below {B : Nat} {w wx : World} {b : Nat} {c : Array Value} {t : TypeId} (hb : Below B w wx) (hB : b < B) (h : Blk w b c t) : Blk wx b c t := (hb.block b hB).trans h
theorem Blk.new {w : World} {n : Nat} {c : Array Value} {t : TypeId} (hn : n = w.heap.size) : Blk (w.alloc (.cells c t)) n c t := by
  subst hn
  show (w.heap.push _)[w.heap.size]? = _
  simp
theorem Blk.alloc {w : World} {o : Obj} {b : Nat} {c : Array Value} {t : TypeId} (h : Blk w b c t) : Blk (w.alloc o) b c t := by
  have := h.lt
  exact (Below.heap_alloc w o b this).trans h
theorem Blk.drewN {w : World} {n b : Nat} {c : Array Value} {t : TypeId} (h : Blk w b c t) : Blk (w.drewN n) b c t := h
theorem Blk.drew {w : World} {b : Nat} {c : Array Value} {t : TypeId} (h : Blk w b c t) : Blk w.drew b c t := h
theorem Blk.other {w : World} {a : Addr} {v : Value} {b : Nat} {c : Array Value} {t : TypeId} (h : Blk w b c t) (ha : b ≠ a.block) : Blk (w.setCell a v) b c t :=
  (Below.heap_setCell w a v b ha).trans h
theorem Blk.set {w : World} {i b : Nat} {v : Value} {c : Array Value} {t : TypeId} (h : Blk w b c t) : Blk (w.setCell ⟨b, i, none⟩ v) b (c.setIfInBounds i v) t := by
  have hlt := h.lt
  have h' : w.heap[b] = .cells c t (0, 0) := by
    have : w.heap[b]? = some (.cells c t (0, 0)) := h
    simpa [Array.getElem?_eq_getElem hlt] using this
  show (w.heap.modify b _)[b]? = _
  rw [Array.getElem?_eq_getElem (by simpa using hlt), Array.getElem_modify_self, h']
  rfl
theorem Blk.keepG {w W w1 : World} {b : Nat} {c : Array Value} {t : TypeId} {G : Prop} (hb : Below W.heap.size W w1) (k : Blk w b c t) (h : Blk w b c t → Blk W b c t) (g : Blk w1 b c t → G) : G := g (Blk.later hb (h k))
theorem Blk.cells {w : World} {b : Nat} {c : Array Value} {t : TypeId} (h : Blk w b c t) (i : Nat) : w.cell? ⟨b, i, none⟩ = c[i]? := by
  have h' : w.heap[b]? = some (.cells c t (0, 0)) := h
  simp [World.cell?, h']
theorem Blk.free {w : World} {b : Nat} {c : Array Value} {t : TypeId} (h : Blk w b c t) (i : Nat) : w.frozen? ⟨b, i, none⟩ = false := by
  have h' : w.heap[b]? = some (.cells c t (0, 0)) := h
  simp [World.frozen?, h']
theorem Blk.full {w : World} {b : Nat} {c : Array Value} {t : TypeId} (h : Blk w b c t) : Blk w b c t ∧ (∀ i : Nat, w.cell? ⟨b, i, none⟩ = c[i]?) := ⟨h, h.cells⟩
theorem Blk.read {w : World} {b : Nat} {c : Array Value} {t : TypeId} (h : Blk w b c t) : (∀ i, w.cell? ⟨b, i, none⟩ = c[i]?) ∧ (∀ i, w.frozen? ⟨b, i, none⟩ = false) := ⟨h.cells, h.free⟩
theorem belowThru {w W w1 : World} (h : Below w.heap.size w W) (hb : Below W.heap.size W w1) : Below w.heap.size w w1 := h.trans (hb.mono h.size)
theorem belowAlloc {w W : World} {o : Obj} (h : Below w.heap.size w W) : Below w.heap.size w (W.alloc o) := h.alloc h.size o
/-- A pointer to a block from a number on that holds these cells. -/
def At (wx : World) (lo : Nat) (c : Array Value) (t : TypeId) (s : Value) : Prop := ∃ b : Nat, s = .pointer (some ⟨b, 0, none⟩) ∧ lo ≤ b ∧ Blk wx b c t
theorem At.mk {wx : World} {lo b : Nat} {c : Array Value} {t : TypeId} (h : lo ≤ b) (k : Blk wx b c t) : At wx lo c t (.pointer (some ⟨b, 0, none⟩)) := ⟨b, rfl, h, k⟩
/-- Two pointers to two blocks from a number on. -/
def At2 (wx : World) (lo : Nat) (c d : Array Value) (t : TypeId) (s u : Value) : Prop := ∃ a b : Nat, s = .pointer (some ⟨a, 0, none⟩) ∧ u = .pointer (some ⟨b, 0, none⟩) ∧ lo ≤ a ∧ lo ≤ b ∧ a ≠ b ∧ Blk wx a c t ∧ Blk wx b d t
theorem At2.mk {wx : World} {lo a b : Nat} {c d : Array Value} {t : TypeId} (ha : lo ≤ a) (hb : lo ≤ b) (hn : a ≠ b) (k : Blk wx a c t) (l : Blk wx b d t) : At2 wx lo c d t (.pointer (some ⟨a, 0, none⟩)) (.pointer (some ⟨b, 0, none⟩)) := ⟨a, b, rfl, rfl, ha, hb, hn, k, l⟩
/-- What is held of two blocks, handed on. -/
theorem hold2 {w : World} {b0 b1 : Nat} {c0 c1 : Array Value} {t0 t1 : TypeId} {B D E G : Prop} (h : (Blk w b0 c0 t0 ∧ B) ∧ (Blk w b1 c1 t1 ∧ D) ∧ E) (g : Blk w b0 c0 t0 → Blk w b1 c1 t1 → E → G) : G := g h.1.1 h.2.1.1 h.2.2
theorem hold1 {w : World} {b0 : Nat} {c0 : Array Value} {t0 : TypeId} {B E G : Prop} (h : (Blk w b0 c0 t0 ∧ B) ∧ E) (g : Blk w b0 c0 t0 → E → G) : G := g h.1.1 h.2
end Go.Proofs.Ytdimmnoflenfhaa
/-
  Slices that read as lists; what a call keeps.
-/
namespace Go.Proofs.Ytdimmnoflenfhaa
open Go.RowKit
set_option linter.unusedVariables false
set_option linter.unusedSimpArgs false

/-- The cells of some numbers. -/
def ints (zs : List Int) : Array Value := (zs.map (Value.int .i64)).toArray
theorem ints_get (zs : List Int) (j : Nat) : (ints zs)[j]? = zs[j]?.map (Value.int .i64) := by simp [ints]
/-- A slice that reads as these values; its address is known only where it has an element. -/
def Row (w : World) (a : Option Addr) (n : Nat) (vs : List Value) : Prop :=
  vs.length = n ∧ (0 < n → ∃ b off, a = some ⟨b, off, none⟩ ∧ b < w.heap.size ∧ ∀ j, j < n → w.cell? ⟨b, off + j, none⟩ = vs[j]?)
/-- Whole numbers, and truth values, as values. -/
def iv (zs : List Int) : List Value := zs.map (Value.int .i64)
def bv (zs : List Bool) : List Value := zs.map Value.bool
theorem iv_length (zs : List Int) : (iv zs).length = zs.length := by simp [iv]
theorem bv_length (zs : List Bool) : (bv zs).length = zs.length := by simp [bv]
theorem iv_get (zs : List Int) (j : Nat) : (iv zs)[j]? = zs[j]?.map (Value.int .i64) := by simp [iv]
theorem bv_get (zs : List Bool) (j : Nat) : (bv zs)[j]? = zs[j]?.map Value.bool := by simp [bv]
theorem Row.later {w w' : World} (hb : Below w.heap.size w w') {a : Option Addr} {n : Nat} {vs : List Value} (h : Row w a n vs) : Row w' a n vs :=
  ⟨h.1, fun hn => by
    obtain ⟨b, off, ha, hlt, hc⟩ := h.2 hn
    exact ⟨b, off, ha, Nat.lt_of_lt_of_le hlt hb.size, fun j hj => (World.cell?_of_block (w := w) (hb.block b hlt)).trans (hc j hj)⟩⟩
theorem Row.drew {w : World} {a : Option Addr} {n : Nat} {vs : List Value} (h : Row w a n vs) : Row w.drew a n vs := h
theorem Row.int {w : World} {a : Option Addr} {n : Nat} {zs : List Int} (h : Row w a n (iv zs)) {k : Nat} (hk : k < n) :
    ∃ b off z, a = some ⟨b, off, none⟩ ∧ b < w.heap.size ∧ zs[k]? = some z ∧ w.cell? ⟨b, off + k, none⟩ = some (.int .i64 z) := by
  obtain ⟨b, off, ha, hlt, hc⟩ := h.2 (by omega)
  have hl : k < zs.length := by have := h.1; rw [iv_length] at this; omega
  refine ⟨b, off, zs[k], ha, hlt, List.getElem?_eq_getElem hl, ?_⟩
  rw [hc k hk, iv_get, List.getElem?_eq_getElem hl]; rfl
theorem Row.bool {w : World} {a : Option Addr} {n : Nat} {zs : List Bool} (h : Row w a n (bv zs)) {k : Nat} (hk : k < n) :
    ∃ b off z, a = some ⟨b, off, none⟩ ∧ b < w.heap.size ∧ zs[k]? = some z ∧ w.cell? ⟨b, off + k, none⟩ = some (.bool z) := by
  obtain ⟨b, off, ha, hlt, hc⟩ := h.2 (by omega)
  have hl : k < zs.length := by have := h.1; rw [bv_length] at this; omega
  refine ⟨b, off, zs[k], ha, hlt, List.getElem?_eq_getElem hl, ?_⟩
  rw [hc k hk, bv_get, List.getElem?_eq_getElem hl]; rfl
theorem Row.of_blk {w : World} {b : Nat} {zs : List Int} {t : TypeId} (h : Blk w b (ints zs) t) : Row w (some ⟨b, 0, none⟩) zs.length (iv zs) :=
  ⟨iv_length zs, fun _ => ⟨b, 0, rfl, h.lt, fun j _ => by rw [h.cells, ints_get, iv_get, Nat.zero_add]⟩⟩
theorem Row.nil (w : World) (a : Option Addr) : Row w a 0 [] := ⟨rfl, fun h => absurd h (by omega)⟩

end Go.Proofs.Ytdimmnoflenfhaa
/-
  What every plain law of the seat asks beside its walk, whatever its arguments: the answer true in a world in which all that was there reads as before.
-/
namespace Go.Proofs.Ytdimmnoflenfhaa
open Go.ChangeShapes Go.WideShapes Go.ChangeAt Go.RowKit
set_option linter.unusedVariables false
set_option linter.unusedSimpArgs false

theorem own : ownKnob Try.prog.godebug = none := by kernel_rfl
theorem laidOut : laidOutB Try.prog = true := by kernel_rfl

section
variable {H : Type} {enc : TypeId × Value → H}
/-- All that was there reads as before. -/
theorem trodAll_keep {P : Program} (hl : laidOutB P = true) {W W' : World} (hb : Below W.heap.size W W') (sp : Nat → Bool) (ts : List TypeId) :
    ∀ (vs : List Value) (ds : List (DataW H)) (ps : List MemPlace), (ts.all fun t => P.readableRec t && decide (t < P.types.size)) = true → DataW.TrodAll enc P W 0 (fun _ => true) true ts vs ds ps → (∀ x ∈ ps, x.block < W.heap.size) → (∀ x ∈ ps, sp x.block = true) →
    DataW.TrodAll enc P W' 0 sp true ts vs ds ps := by
  induction ts with
  | nil =>
    intro vs ds ps _ h _ _
    obtain ⟨rfl, rfl, rfl⟩ := trodAll_nil h
    exact trodAll_mk0
  | cons t ts ih =>
    intro vs ds ps hr h hlt hsp
    obtain ⟨v, vs, d, ds, p, q, rfl, rfl, rfl, h0, h1⟩ := trodAll_cons h
    rw [List.all_cons, Bool.and_eq_true, Bool.and_eq_true, decide_eq_true_eq] at hr
    exact trodAll_cons_mk (WideElems.Trod_stays hl hr.1.1 hr.1.2 h0 (fun x hx => hb.same (hlt x (List.mem_append_left _ hx))) (fun x hx => hsp x (List.mem_append_left _ hx)))
      (ih vs ds q hr.2 h1 (fun x hx => hlt x (List.mem_append_right _ hx)) (fun x hx => hsp x (List.mem_append_right _ hx)))

set_option maxRecDepth 100000 in
/-- The answer is true, and what was there is as it was. -/
theorem post_keep {fn : Func} {s : ChangeSpec} {apart : Bool} {W W' : World} {args : Array Value} {ds : List (DataW H)} {before : List MemPlace}
    (hW : DataW.Whole enc Try.prog fn.params.toList s.vars apart W args.toList ds [] before) (hv : s.vars = []) (hr : fn.resultTypes = #[4])
    (hs : s.fn H ds = { results := [.lit (.bool true)], args := ds })
    (hp : (fn.params.toList.all fun t => Try.prog.readableRec t && decide (t < Try.prog.types.size)) = true)
    (hb : Below W.heap.size W W') : s.post enc Try.prog fn apart true false false W args (.bool true) W' := by
  have hbool : Try.prog.underlying 4 = some .bool := by kernel_rfl
  have hlt : ∀ p ∈ before, p.block < W.heap.size := fun p hp => hW.lt p hp
  have hold : ∀ p ∈ before, (fun b => decide (b < W.heap.size)) p.block = true := fun p hp => by simpa using hlt p hp
  have hW0 := hW
  obtain ⟨pa, pv, hA, hV, rfl, hz, hn⟩ := hW0
  have hV' := hV
  rw [hv] at hV'
  obtain ⟨-, rfl⟩ := trodVars_none hV'
  have hres : ∀ (b : Nat) (sp : Nat → Bool) (hd : Bool), DataW.TrodAll enc Try.prog W' b sp hd fn.resultTypes.toList ((Value.bool true).resultList fn.resultTypes.size) (s.fn H (ds ++ [])).results [] := by
    intro b sp hd
    rw [List.append_nil, hs, hr]
    exact trodAll_cons_mk (shut_bool hbool _) trodAll_mk0
  have hargs : ∀ sp : Nat → Bool, (∀ p ∈ pa, sp p.block = true) → DataW.TrodAll enc Try.prog W' 0 sp true fn.params.toList args.toList (s.fn H (ds ++ [])).args pa := by
    intro sp hsp
    rw [List.append_nil, hs]
    exact trodAll_keep laidOut hb sp _ _ _ _ hp hA (fun x hx => hlt x (by simpa using hx)) hsp
  have hvars : ∀ sp : Nat → Bool, DataW.TrodVars enc Try.prog W' sp s.vars (s.fn H (ds ++ [])).vars [] := by
    intro sp
    rw [hv, List.append_nil, hs]
    exact rfl
  have hk : Value.okWide Try.prog W' .any 0 4 (.bool true) := okWide_bool_mk hbool true
  have hok := ok_one (P := Try.prog) (W' := W') (f := fn) (v := .bool true) hr (by simp [Value.resultList]) hk
  refine ⟨ds, [], pa ++ [], [], pa, [], hW, hres _ _ _, hargs _ (fun p hp => hold p (by simpa using hp)), hvars _, World.keptBut_mono (fun p hp => ⟨hp, ?_⟩) (hb.frame (· ∈ pa ++ [])), fun _ => ?_⟩
  · rw [List.mem_append] at hp
    exact Or.inr hp
  · refine ⟨hok, _, _, ([] ++ pa) ++ [], ⟨[] ++ pa, [], trodAll_append (hargs _ (fun _ _ => rfl)) (hres _ _ _), hvars _, rfl, ?_, ?_⟩, ?_⟩
    · intro b off hp
      have hin : MemPlace.cell b off ∈ pa ++ [] := by simpa using hp
      rw [hb.frozen (hlt _ hin)]
      exact hz b off hin
    · intro ha
      have := hn ha
      simpa using this
    · intro p hp _
      simpa using hp

/-! ### A list among the arguments -/
/-- Whole numbers that came in: a slice value that reads as them. -/
theorem open_row {W : World} {fuel : Nat} {v : Value} {x : DataW H × List MemPlace} (h : DataW.trod enc Try.prog W 0 (fun _ => true) true fuel 27 [v] = some x) :
    ∃ (a : Option Addr) (n c : Nat) (zs : List Int), v = .slice a n c ∧ n ≤ c ∧ c ≤ maxLen ∧ Row W a n (iv zs) ∧ ((x.1.weights Try.prog 27).all (· ≤ reachBytes) = true → n * 8 ≤ 140737488351232) := by
  rcases open_ints Try.underlying27 Try.underlying3 (by kernel_rfl) h with ⟨hcs, _⟩ | ⟨a, len, cap, zs, hcs, _, hl, hm, hz, hxx, hcell, hwz⟩
  · simp only [List.cons.injEq, and_true] at hcs
    exact ⟨none, 0, 0, [], hcs, Nat.le_refl _, Nat.zero_le _, Row.nil _ _, fun _ => by omega⟩
  · simp only [List.cons.injEq, and_true] at hcs
    have hz' : zs.length = cap := by simpa using hz
    have hlen : (zs.take len).length = len := by rw [List.length_take]; omega
    refine ⟨some a, len, cap, zs.take len, hcs, hl, hm, ⟨by rw [iv_length]; exact hlen, fun h0 => ?_⟩, fun hw => ?_⟩
    case refine_2 =>
      rw [hxx] at hw
      simp only [DataW.weights, Try.underlying27, List.all_cons, Bool.and_eq_true, decide_eq_true_eq] at hw
      have hb : Try.prog.bytesOf 3 = 8 := by kernel_rfl
      have h1 := hw.1
      rw [hb] at h1
      simp only [lits, List.length_map, List.length_take, List.length_drop] at h1
      unfold reachBytes at h1
      omega
    obtain ⟨b, off, rfl, hc⟩ := ints_at hcell (by omega)
    refine ⟨b, off, rfl, ?_, fun j hj => ?_⟩
    · have := hc 0 (by omega)
      unfold World.cell? at this
      by_cases hb : b < W.heap.size
      · exact hb
      · simp [Array.getElem?_eq_none (show W.heap.size ≤ b by omega)] at this
    · have := hc j (by omega)
      rw [this, iv_get, List.getElem?_take_of_lt hj, List.getD_eq_getElem?_getD, List.getElem?_eq_getElem (show j < zs.length by omega)]
      rfl
set_option maxRecDepth 100000 in
/-- A list of whole numbers that came in. -/
theorem open_list {W : World} {b0 : Nat} {r : Reach} {v : Value} {d : DataW H} {p : List MemPlace} (hval : Value.okWide Try.prog W r b0 27 v) (h : DataW.Trod enc Try.prog W 0 (fun _ => true) true 27 v d p) :
    ∃ (a : Option Addr) (n c : Nat) (zs : List Int), v = .slice a n c ∧ n ≤ c ∧ c ≤ maxLen ∧ Row W a n (iv zs) ∧ ((d.weights Try.prog 27).all (· ≤ reachBytes) = true → n * 8 ≤ 140737488351232) := by
  obtain ⟨a0, n0, c0, rfl⟩ := okWide_slice Try.underlying27 hval
  obtain ⟨fuel, hf⟩ := h
  obtain ⟨a, n, c, zs, e, q1, q2, q3, q4⟩ := open_row (x := (d, p)) hf
  exact ⟨a, n, c, zs, e, q1, q2, q3, q4⟩
/-! ### A struct of whole numbers among the arguments -/
end
end Go.Proofs.Ytdimmnoflenfhaa
/-
  Plain arithmetic of words: a number of 128 bits in two's complement by its two words.
-/
namespace Go.Proofs.Ytdimmnoflenfhaa

/-- 2^64. -/
def B64 : Int := 18446744073709551616
/-- The lower and the upper word of a number. -/
def wlo (z : Int) : Int := z % B64
def whi (z : Int) : Int := z / B64 % B64
/-- The carry of the lower words' sum, of the upper words' sum; the borrows of the differences. -/
def car (a b : Int) : Int := (wlo a + wlo b) / B64
def car2 (a b : Int) : Int := (whi a + whi b + car a b) / B64
def bor (a b : Int) : Int := if wlo a < wlo b then 1 else 0
def bor2 (a b : Int) : Int := if whi a < whi b + bor a b then 1 else 0

theorem wlo_lo (z : Int) : 0 ≤ wlo z := by unfold wlo B64; omega
theorem wlo_hi (z : Int) : wlo z ≤ 18446744073709551615 := by unfold wlo B64; omega
theorem whi_lo (z : Int) : 0 ≤ whi z := by unfold whi B64; omega
theorem whi_hi (z : Int) : whi z ≤ 18446744073709551615 := by unfold whi B64; omega
theorem car_lo (a b : Int) : 0 ≤ car a b := by unfold car wlo B64; omega
theorem car_hi (a b : Int) : car a b ≤ 1 := by unfold car wlo B64; omega
theorem bor_lo (a b : Int) : 0 ≤ bor a b := by unfold bor; split <;> omega
theorem bor_hi (a b : Int) : bor a b ≤ 1 := by unfold bor; split <;> omega
theorem wlo_add (a b : Int) : wlo (a + b) = (wlo a + wlo b + 0) % 18446744073709551616 := by unfold wlo B64; omega
theorem car_add (a b : Int) : car a b = (wlo a + wlo b + 0) / 18446744073709551616 := by unfold car wlo B64; omega
theorem whi_add (a b : Int) : whi (a + b) = (whi a + whi b + car a b) % 18446744073709551616 := by unfold whi car wlo B64; omega
theorem car2_add (a b : Int) : car2 a b = (whi a + whi b + car a b) / 18446744073709551616 := by unfold car2 B64; rfl
theorem wlo_sub (a b : Int) : wlo (a - b) = (wlo a + 18446744073709551616 - wlo b) % 18446744073709551616 := by unfold wlo B64; omega
theorem whi_sub (a b : Int) : whi (a - b) = (whi a + 18446744073709551616 - whi b - bor a b) % 18446744073709551616 := by
  unfold whi bor wlo B64; split <;> omega
theorem wlo_of (n : Int) (h0 : 0 ≤ n) (h1 : n ≤ 18446744073709551615) : wlo n = n := by unfold wlo B64; omega
theorem whi_of (n : Int) (h0 : 0 ≤ n) (h1 : n ≤ 18446744073709551615) : whi n = 0 := by unfold whi B64; omega
/-- A number within 127 bits and a sign is told by its words. -/
theorem zero_of (z : Int) (h0 : -170141183460469231731687303715884105728 ≤ z) (h1 : z < 170141183460469231731687303715884105728) : (whi z = 0 ∧ wlo z = 0) ↔ z = 0 := by
  unfold whi wlo B64; omega
theorem neg_of (z : Int) (h0 : -170141183460469231731687303715884105728 ≤ z) (h1 : z < 170141183460469231731687303715884105728) : 9223372036854775808 ≤ whi z ↔ z < 0 := by
  unfold whi B64; omega
theorem pos_whi (z : Int) (h0 : 0 ≤ z) (h1 : z < 170141183460469231731687303715884105728) : z = whi z * 18446744073709551616 + wlo z := by
  unfold whi wlo B64; omega

/-- The size of a number. -/
def mag (n : Int) : Int := if n < 0 then -n else n
theorem mag_lo (n : Int) : 0 ≤ mag n := by unfold mag; split <;> omega
theorem mag_le (n : Int) (h0 : -9223372036854775808 ≤ n) (h1 : n ≤ 9223372036854775807) : mag n ≤ 9223372036854775808 := by unfold mag; split <;> omega
theorem mag_pos (n : Int) (h : 0 ≤ n) : mag n = n := by unfold mag; rw [if_neg (by omega)]
theorem mag_neg (n : Int) (h : n < 0) : mag n = -n := by unfold mag; rw [if_pos h]
theorem mag_natAbs (n : Int) : mag n = (n.natAbs : Int) := by unfold mag; split <;> omega
theorem mag_mul_bound (x y : Int) (hx0 : 0 ≤ x) (hx : x ≤ 9223372036854775808) (hy0 : 0 ≤ y) (hy : y ≤ 9223372036854775808) : 0 ≤ x * y ∧ x * y ≤ 85070591730234615865843651857942052864 := by
  have h1 := Int.mul_nonneg hx0 hy0
  have h2 := Int.mul_le_mul hx hy hy0 (by omega : (0 : Int) ≤ 9223372036854775808)
  exact ⟨h1, by omega⟩
theorem mag_mul (x y : Int) : mag x * mag y = mag (x * y) := by
  rw [mag_natAbs, mag_natAbs, mag_natAbs, Int.natAbs_mul, Int.natCast_mul]
theorem zsign_neg (z : Int) (h : z < 0) : z.sign = -1 := Int.sign_eq_neg_one_of_neg h
theorem zsign_pos (z : Int) (h : 0 < z) : z.sign = 1 := Int.sign_eq_one_of_pos h
/-- The words of a quotient. -/
theorem div_parts (z d : Int) (h0 : 0 ≤ z) (h1 : z < 170141183460469231731687303715884105728) (hd : 1 ≤ d) (hd1 : d ≤ 18446744073709551615) :
    whi (z / d) = whi z / d ∧ wlo (z / d) = (whi z % d * 18446744073709551616 + wlo z) / d ∧ z % d = (whi z % d * 18446744073709551616 + wlo z) % d ∧ 0 ≤ whi z % d ∧ whi z % d < d := by
  have hz := pos_whi z h0 h1
  have a0 := whi_lo z; have a1 := whi_hi z; have b0 := wlo_lo z; have b1 := wlo_hi z
  generalize whi z = h at *
  generalize wlo z = l at *
  have e := Int.mul_ediv_add_emod h d
  have r0 := Int.emod_nonneg h (show d ≠ 0 by omega)
  have r1 := Int.emod_lt_of_pos h (show 0 < d by omega)
  generalize hq : h / d = q at *
  generalize hr : h % d = r at *
  have q0 : 0 ≤ q := by rw [← hq]; exact Int.ediv_nonneg a0 (by omega)
  have q1 : q ≤ 18446744073709551615 := by
    rw [← hq]; have := Int.ediv_le_self d a0; omega
  have key : z = d * (q * 18446744073709551616) + (r * 18446744073709551616 + l) := by rw [hz, ← e]; grind
  have lo : (r * 18446744073709551616 + l) / d < 18446744073709551616 := by
    apply Int.ediv_lt_of_lt_mul (by omega)
    have : (r + 1) * 18446744073709551616 ≤ d * 18446744073709551616 := Int.mul_le_mul_of_nonneg_right (by omega) (by omega)
    have := Int.mul_comm d 18446744073709551616
    omega
  have lo0 : 0 ≤ (r * 18446744073709551616 + l) / d := Int.ediv_nonneg (by omega) (by omega)
  have hdiv : z / d = q * 18446744073709551616 + (r * 18446744073709551616 + l) / d := by
    rw [key, Int.add_comm, Int.add_mul_ediv_left _ _ (by omega), Int.add_comm]
  refine ⟨?_, ?_, ?_, r0, r1⟩
  · rw [hdiv]; unfold whi B64; omega
  · rw [hdiv]; unfold wlo B64; omega
  · rw [key, Int.add_comm, Int.add_mul_emod_self_left]
theorem tdiv_neg (z d : Int) (h0 : z < 0) : z.tdiv d = -((-z) / d) := by
  rw [show z.tdiv d = -((-z).tdiv d) by rw [Int.neg_tdiv, Int.neg_neg], Int.tdiv_eq_ediv_of_nonneg (by omega)]
end Go.Proofs.Ytdimmnoflenfhaa
/-
  DERIVED: THE SHELF's CONTRACTS AT THIS DUMP, IN PLAIN WORDS (tools/lay-plain.mjs out of 'TryShelf.lean', which tools/lay-shelf.mjs wrote): THE SAME DECLARATIONS UNDER THE SAME NAMES: 'import', 'namespace', 'open', 'def', 'theorem' AND NOTHING ELSE: no command of the shelf's: FOR A HAND-IN. Each laying: the table of numbers ('.._ren') and one theorem, a field a fact of the dump's own or the kernel's comparison; each contract: ONE APPLICATION.
-/
namespace Go.Proofs
open Go.Shelf
def Try.lays134_ren : Go.Shelf.Ren := ⟨fun | 134 => 134 | 129 => 135 | n => n, fun | 53 => 105 | 3 => 3 | 4 => 4 | 46 => 150 | 5 => 5 | 9 => 9 | n => n, fun | n => n⟩
theorem Try.lays134 : Go.Proofs.Lays.n134 Try.prog Try.lays134_ren := {
  mixed := by kernel_rfl
  f129 := Try.func135.trans (congrArg some (by kernel_rfl))
  f134 := Try.func134.trans (congrArg some (by kernel_rfl))
  t3 := Try.underlying3
  a3 := Try.isAgg3
  z3 := Try.sizeOf3
  v3 := Try.zeroValue3
  t4 := Try.underlying4
  a4 := Try.isAgg4
  z4 := Try.sizeOf4
  v4 := Try.zeroValue4
  t5 := Try.underlying5
  a5 := Try.isAgg5
  z5 := Try.sizeOf5
  v5 := Try.zeroValue5
  t9 := Try.underlying9
  a9 := Try.isAgg9
  z9 := Try.sizeOf9
  v9 := Try.zeroValue9
  t46 := Try.underlying150
  a46 := Try.isAgg150
  z46 := Try.sizeOf150
  v46 := Try.zeroValue150
  t53 := Try.underlying105
  a53 := Try.isAgg105
  z53 := Try.sizeOf105
  v53 := Try.zeroValue105 }
/-- bits.LeadingZeros64: "LeadingZeros64 returns the number of leading zero bits in x; the result is 64 for x == 0.": IT RETURNS '64 - Lib.bitLen x'; the world is as it was. ITS CALLEE bits.Len64 IS MET BY ITS OWN CONTRACT OFF THE SHELF (lay that first): entered in place it sends the kernel out of memory. (LAID: no walk: one application.) -/
theorem Try.bits_LeadingZeros64 (x : Int) (w : World) (h0 : 0 ≤ x) (h1 : x ≤ 18446744073709551615) :
    Calls Try.prog 134 #[.int .u64 x] w fun e w' => e = .returned (.int .i64 (64 - (Lib.bitLen x.toNat : Int))) ∧ w' = w := Any.bits_LeadingZeros64 Try.lays134 x w h0 h1
def Try.lays264_ren : Go.Shelf.Ren := ⟨fun | 264 => 127 | n => n, fun | 53 => 105 | 46 => 150 | n => n, fun | n => n⟩
theorem Try.lays264 : Go.Proofs.Lays.n264 Try.prog Try.lays264_ren := {
  mixed := by kernel_rfl
  f264 := Try.func127.trans (congrArg some (by kernel_rfl))
  t46 := Try.underlying150
  a46 := Try.isAgg150
  z46 := Try.sizeOf150
  v46 := Try.zeroValue150
  t53 := Try.underlying105
  a53 := Try.isAgg105
  z53 := Try.sizeOf105
  v53 := Try.zeroValue105 }
open Go.RowKit Go.Lib in
theorem Try.bits_Mul64 (x y : Nat) (hx : x < 18446744073709551616) (hy : y < 18446744073709551616) (w : World) :
    Calls Try.prog 127 #[.int .u64 x, .int .u64 y] w fun e w' => e = .returned (.tuple #[.int .u64 ((x * y / 18446744073709551616 : Nat) : Int), .int .u64 ((x * y % 18446744073709551616 : Nat) : Int)]) ∧ w' = w := Any.bits_Mul64 Try.lays264 x y hx hy w
end Go.Proofs
/-
  Layer 1: the methods of wide.
-/
namespace Go.Proofs.Ytdimmnoflenfhaa
open Go.RowKit

theorem bcell {W w1 : World} (hb : Below W.heap.size W w1) : (∀ b o, b < W.heap.size → w1.cell? ⟨b, o, none⟩ = W.cell? ⟨b, o, none⟩) ∧ (∀ b o, b < W.heap.size → w1.frozen? ⟨b, o, none⟩ = W.frozen? ⟨b, o, none⟩) :=
  ⟨fun b o h => hb.cell (p := ⟨b, o, none⟩) h, fun b o h => hb.frozen (p := ⟨b, o, none⟩) h⟩

theorem add64_run (x y c : Int) (hx : 0 ≤ x) (hy : 0 ≤ y) (hc0 : 0 ≤ c) (hc : c ≤ 1) (w : World) :
    (callFunc 128 #[.int .u64 x, .int .u64 y, .int .u64 c]).run Try.prog w = .ok (.value (.tuple #[.int .u64 ((x + y + c) % 18446744073709551616), .int .u64 ((x + y + c) / 18446744073709551616)])) w := by
  rw [run_callFunc_extern Try.func128 (by kernel_rfl) (by kernel_rfl) (by kernel_rfl) (e := add64Entry) (by kernel_rfl), run_add64 x y c hx hy hc0 hc]
  rfl
theorem add64_lo (a b : Int) (w : World) :
    (callFunc 128 #[.int .u64 (wlo a), .int .u64 (wlo b), .int .u64 0]).run Try.prog w = .ok (.value (.tuple #[.int .u64 (wlo (a + b)), .int .u64 (car a b)])) w := by
  rw [add64_run _ _ _ (wlo_lo a) (wlo_lo b) (by omega) (by omega), wlo_add, car_add]
theorem add64_hi (a b : Int) (w : World) :
    (callFunc 128 #[.int .u64 (whi a), .int .u64 (whi b), .int .u64 (car a b)]).run Try.prog w = .ok (.value (.tuple #[.int .u64 (whi (a + b)), .int .u64 (car2 a b)])) w := by
  rw [add64_run _ _ _ (whi_lo a) (whi_lo b) (car_lo a b) (car_hi a b), whi_add, car2_add]

theorem sub64_run (x y b : Int) (hx : 0 ≤ x) (hy : 0 ≤ y) (hy1 : y ≤ 18446744073709551615) (hb0 : 0 ≤ b) (hb : b ≤ 1) (w : World) :
    (callFunc 126 #[.int .u64 x, .int .u64 y, .int .u64 b]).run Try.prog w = .ok (.value (.tuple #[.int .u64 ((x + 18446744073709551616 - y - b) % 18446744073709551616), .int .u64 (if x < y + b then 1 else 0)])) w := by
  obtain ⟨X, rfl⟩ := Int.eq_ofNat_of_zero_le hx
  obtain ⟨Y, rfl⟩ := Int.eq_ofNat_of_zero_le hy
  obtain ⟨C, rfl⟩ := Int.eq_ofNat_of_zero_le hb0
  rw [run_callFunc_extern Try.func126 (by kernel_rfl) (by kernel_rfl) (by kernel_rfl) (e := sub64Entry) (by kernel_rfl), run_sub64 X Y C (by omega)]
  have e1 : (((X + 18446744073709551616 - Y - C) % 18446744073709551616 : Nat) : Int) = ((X : Int) + 18446744073709551616 - Y - C) % 18446744073709551616 := by omega
  have e2 : ((if X < Y + C then 1 else 0 : Nat) : Int) = if (X : Int) < Y + C then 1 else 0 := by
    by_cases h : X < Y + C
    · rw [if_pos h, if_pos (by omega)]; rfl
    · rw [if_neg h, if_neg (by omega)]; rfl
  rw [e1, e2]
  rfl
theorem sub64_lo (a b : Int) (w : World) :
    (callFunc 126 #[.int .u64 (wlo a), .int .u64 (wlo b), .int .u64 0]).run Try.prog w = .ok (.value (.tuple #[.int .u64 (wlo (a - b)), .int .u64 (bor a b)])) w := by
  rw [sub64_run _ _ _ (wlo_lo a) (wlo_lo b) (wlo_hi b) (by omega) (by omega), wlo_sub, Int.sub_zero]
  unfold bor
  rw [Int.add_zero]
theorem sub64_hi (a b : Int) (w : World) :
    (callFunc 126 #[.int .u64 (whi a), .int .u64 (whi b), .int .u64 (bor a b)]).run Try.prog w = .ok (.value (.tuple #[.int .u64 (whi (a - b)), .int .u64 (bor2 a b)])) w := by
  rw [sub64_run _ _ _ (whi_lo a) (whi_lo b) (whi_hi b) (bor_lo a b) (bor_hi a b), whi_sub]
  rfl

set_option maxHeartbeats 400000 in
theorem minus_any (a b : Int) (w : World) :
    Calls Try.prog 102 #[.agg #[.int .u64 (whi a), .int .u64 (wlo a)], .agg #[.int .u64 (whi b), .int .u64 (wlo b)]] w fun e w' => e = .returned (.agg #[.int .u64 (whi (a - b)), .int .u64 (wlo (a - b))]) ∧ Below w.heap.size w w' := by
  go_enter Try.func102, Try.ntmps102
  go_wp2_with (first | simp only [sub64_lo] | simp only [sub64_hi])
  exact bodyPost_ret (v := .agg #[.int .u64 (whi (a - b)), .int .u64 (wlo (a - b))]) (by simp only [results, Try.results102]; go_simp) rfl ⟨rfl, by (repeat' (first | (with_reducible exact Below.refl _ _) | (with_reducible assumption) | (with_reducible refine belowThru ?_ (by assumption)) | (with_reducible refine belowAlloc ?_) | (with_reducible refine Below.setCell ?_ (by first | omega | (simp; done) | (simp; omega)) _) | (with_reducible refine Below.drew ?_) | (with_reducible refine below_drewN ?_ _)))⟩

theorem minus_zero (b : Int) (w : World) :
    Calls Try.prog 102 #[.agg #[.int .u64 0, .int .u64 0], .agg #[.int .u64 (whi b), .int .u64 (wlo b)]] w fun e w' => e = .returned (.agg #[.int .u64 (whi (-b)), .int .u64 (wlo (-b))]) ∧ Below w.heap.size w w' := by
  have h := minus_any 0 b w
  rw [Int.zero_sub] at h
  exact h

set_option maxHeartbeats 400000 in
theorem opposite_any (b : Int) (w : World) :
    Calls Try.prog 78 #[.agg #[.int .u64 (whi b), .int .u64 (wlo b)]] w fun e w' => e = .returned (.agg #[.int .u64 (whi (-b)), .int .u64 (wlo (-b))]) ∧ Below w.heap.size w w' := by
  go_enter Try.func78, Try.ntmps78
  go_wp2_with (go_at_call 102; refine (minus_zero b _).mono ?_; rintro e w1 ⟨rfl, hb⟩; obtain ⟨hc, hf⟩ := bcell hb; (try simp only [World.heap_drewN] at hc hf); (try simp only [heap_drew] at hc hf); have hz := hb.size; (try simp at hz); try (have hz0 : w.heap.size < w1.heap.size := by omega); try (have hz1 : w.heap.size + 1 < w1.heap.size := by omega); try (have hz2 : w.heap.size + 1 + 1 < w1.heap.size := by omega); try (have hz3 : w.heap.size + 1 + 1 + 1 < w1.heap.size := by omega); try (have hz4 : w.heap.size + 1 + 1 + 1 + 1 < w1.heap.size := by omega); try (have hz5 : w.heap.size + 1 + 1 + 1 + 1 + 1 < w1.heap.size := by omega))
  exact bodyPost_ret (v := .agg #[.int .u64 (whi (-b)), .int .u64 (wlo (-b))]) (by simp only [results, Try.results78]; go_simp) rfl ⟨rfl, by (repeat' (first | (with_reducible exact Below.refl _ _) | (with_reducible assumption) | (with_reducible refine belowThru ?_ (by assumption)) | (with_reducible refine belowAlloc ?_) | (with_reducible refine Below.setCell ?_ (by first | omega | (simp; done) | (simp; omega)) _) | (with_reducible refine Below.drew ?_) | (with_reducible refine below_drewN ?_ _)))⟩

set_option maxHeartbeats 400000 in
theorem sign_neg (z : Int) (w : World) (h1 : 9223372036854775808 ≤ whi z) (h2 : whi z ≤ 18446744073709551615) :
    Calls Try.prog 106 #[.agg #[.int .u64 (whi z), .int .u64 (wlo z)]] w fun e w' => e = .returned (.int .i64 (-1)) ∧ Below w.heap.size w w' := by
  go_enter Try.func106, Try.ntmps106
  go_wp2
  go_ret
  exact ⟨rfl, by (repeat' (first | (with_reducible exact Below.refl _ _) | (with_reducible assumption) | (with_reducible refine belowThru ?_ (by assumption)) | (with_reducible refine belowAlloc ?_) | (with_reducible refine Below.setCell ?_ (by first | omega | (simp; done) | (simp; omega)) _) | (with_reducible refine Below.drew ?_) | (with_reducible refine below_drewN ?_ _)))⟩

set_option maxHeartbeats 400000 in
theorem sign_pos (z : Int) (w : World) (h0 : ¬ (whi z = 0 ∧ wlo z = 0)) (h1 : 0 ≤ whi z) (h2 : whi z < 9223372036854775808) :
    Calls Try.prog 106 #[.agg #[.int .u64 (whi z), .int .u64 (wlo z)]] w fun e w' => e = .returned (.int .i64 1) ∧ Below w.heap.size w w' := by
  go_enter Try.func106, Try.ntmps106
  go_wp2
  all_goals (go_ret; exact ⟨rfl, by (repeat' (first | (with_reducible exact Below.refl _ _) | (with_reducible assumption) | (with_reducible refine belowThru ?_ (by assumption)) | (with_reducible refine belowAlloc ?_) | (with_reducible refine Below.setCell ?_ (by first | omega | (simp; done) | (simp; omega)) _) | (with_reducible refine Below.drew ?_) | (with_reducible refine below_drewN ?_ _)))⟩)

set_option maxHeartbeats 400000 in
theorem sign_zero (w : World) :
    Calls Try.prog 106 #[.agg #[.int .u64 0, .int .u64 0]] w fun e w' => e = .returned (.int .i64 0) ∧ Below w.heap.size w w' := by
  go_enter Try.func106, Try.ntmps106
  go_wp2
  all_goals (go_ret; exact ⟨rfl, by (repeat' (first | (with_reducible exact Below.refl _ _) | (with_reducible assumption) | (with_reducible refine belowThru ?_ (by assumption)) | (with_reducible refine belowAlloc ?_) | (with_reducible refine Below.setCell ?_ (by first | omega | (simp; done) | (simp; omega)) _) | (with_reducible refine Below.drew ?_) | (with_reducible refine below_drewN ?_ _)))⟩)

theorem sign_any (z : Int) (h0 : -170141183460469231731687303715884105728 ≤ z) (h1 : z < 170141183460469231731687303715884105728) (w : World) :
    Calls Try.prog 106 #[.agg #[.int .u64 (whi z), .int .u64 (wlo z)]] w fun e w' => e = .returned (.int .i64 z.sign) ∧ Below w.heap.size w w' := by
  have a := neg_of z h0 h1
  have b := zero_of z h0 h1
  have c := whi_lo z
  have d := whi_hi z
  rcases Int.lt_trichotomy z 0 with h | h | h
  · rw [zsign_neg z h]; exact sign_neg z w (a.2 h) d
  · subst h; exact sign_zero w
  · rw [zsign_pos z h]; exact sign_pos z w (by omega) c (by omega)

set_option maxHeartbeats 400000 in
theorem size_any (n : Int) (h1 : -9223372036854775808 ≤ n) (h2 : n ≤ 9223372036854775807) (w : World) :
    Calls Try.prog 77 #[.int .i64 n] w fun e w' => e = .returned (.int .u64 (mag n)) ∧ w = w' := by
  rcases (show n < 0 ∨ 0 ≤ n by omega) with h | h
  · go_enter Try.func77, Try.ntmps77
    go_wp2
    go_ret
    refine ⟨?_, rfl⟩
    rw [mag_neg n h, IntKind.wrap_u64, IntKind.wrap_u64, show (-(n % 18446744073709551616)) % 18446744073709551616 = -n by omega]
    rfl
  · go_enter Try.func77, Try.ntmps77
    go_wp2
    go_ret
    refine ⟨?_, rfl⟩
    rw [mag_pos n h]
    rfl

theorem mul64_mag (x y p : Int) (hx0 : 0 ≤ x) (hx : x ≤ 9223372036854775808) (hy0 : 0 ≤ y) (hy : y ≤ 9223372036854775808) (hp : x * y = p) (w : World) :
    Calls Try.prog 127 #[.int .u64 x, .int .u64 y] w fun e w' => e = .returned (.tuple #[.int .u64 (whi p), .int .u64 (wlo p)]) ∧ w = w' := by
  obtain ⟨hp0, hp1⟩ := mag_mul_bound x y hx0 hx hy0 hy
  obtain ⟨X, rfl⟩ := Int.eq_ofNat_of_zero_le hx0
  obtain ⟨Y, rfl⟩ := Int.eq_ofNat_of_zero_le hy0
  refine (Try.bits_Mul64 X Y (by omega) (by omega) w).mono fun e w' ⟨he, hw⟩ => ⟨?_, hw.symm⟩
  rw [he]
  rw [hp] at hp0 hp1
  have e0 : ((X * Y : Nat) : Int) = p := by rw [← hp, Int.natCast_mul]
  have e1 : ((X * Y / 18446744073709551616 : Nat) : Int) = whi p := by unfold whi B64; omega
  have e2 : ((X * Y % 18446744073709551616 : Nat) : Int) = wlo p := by unfold wlo B64; omega
  rw [e1, e2]

set_option maxHeartbeats 400000 in
theorem product_same (x y p : Int) (h1 : -9223372036854775808 ≤ x) (h2 : x ≤ 9223372036854775807) (h3 : -9223372036854775808 ≤ y) (h4 : y ≤ 9223372036854775807)
    (hs : (!(decide (x < 0) == decide (y < 0))) = false) (hp : Hid (mag x * mag y = p)) (w : World) :
    Calls Try.prog 105 #[.int .i64 x, .int .i64 y] w fun e w' => e = .returned (.agg #[.int .u64 (whi p), .int .u64 (wlo p)]) ∧ Below w.heap.size w w' := by
  have a0 := mag_lo x; have a1 := mag_le x h1 h2; have b0 := mag_lo y; have b1 := mag_le y h3 h4
  go_enter Try.func105, Try.ntmps105
  go_wp2_with (first
    | (go_at_call 77; refine (size_any _ (by omega) (by omega) _).mono ?_; rintro e w1 ⟨rfl, rfl⟩)
    | (go_at_call 127; refine (mul64_mag _ _ p (by omega) (by omega) (by omega) (by omega) hp.out _).mono ?_; rintro e w1 ⟨rfl, rfl⟩))
  exact bodyPost_ret (v := .agg #[.int .u64 (whi p), .int .u64 (wlo p)]) (by simp only [results, Try.results105]; go_simp) rfl ⟨rfl, by (repeat' (first | (with_reducible exact Below.refl _ _) | (with_reducible assumption) | (with_reducible refine belowThru ?_ (by assumption)) | (with_reducible refine belowAlloc ?_) | (with_reducible refine Below.setCell ?_ (by first | omega | (simp; done) | (simp; omega)) _) | (with_reducible refine Below.drew ?_) | (with_reducible refine below_drewN ?_ _)))⟩

set_option maxHeartbeats 400000 in
theorem product_other (x y p q : Int) (h1 : -9223372036854775808 ≤ x) (h2 : x ≤ 9223372036854775807) (h3 : -9223372036854775808 ≤ y) (h4 : y ≤ 9223372036854775807)
    (hs : (!(decide (x < 0) == decide (y < 0))) = true) (hp : Hid (mag x * mag y = p)) (hq : Hid (-p = q)) (w : World) :
    Calls Try.prog 105 #[.int .i64 x, .int .i64 y] w fun e w' => e = .returned (.agg #[.int .u64 (whi q), .int .u64 (wlo q)]) ∧ Below w.heap.size w w' := by
  have a0 := mag_lo x; have a1 := mag_le x h1 h2; have b0 := mag_lo y; have b1 := mag_le y h3 h4
  have ho : ∀ w, Calls Try.prog 78 #[.agg #[.int .u64 (whi p), .int .u64 (wlo p)]] w fun e w' => e = .returned (.agg #[.int .u64 (whi q), .int .u64 (wlo q)]) ∧ Below w.heap.size w w' := by
    intro w; have := opposite_any p w; rw [hq.out] at this; exact this
  have HO := Lib.hid ho; clear ho
  go_enter Try.func105, Try.ntmps105
  have l2 : ∀ k : Nat, k < k + 1 + 1 := fun _ => (by omega); have l3 : ∀ k : Nat, k < k + 1 + 1 + 1 := fun _ => (by omega); have l4 : ∀ k : Nat, k < k + 1 + 1 + 1 + 1 := fun _ => (by omega)
  go_wp2_with (first
    | (go_at_call 77; refine (size_any _ (by omega) (by omega) _).mono ?_; rintro e w1 ⟨rfl, rfl⟩)
    | (go_at_call 127; refine (mul64_mag _ _ p (by omega) (by omega) (by omega) (by omega) hp.out _).mono ?_; rintro e w1 ⟨rfl, rfl⟩)
    | (go_at_call 78; refine (HO.out _).mono ?_; rintro e w1 ⟨rfl, hb⟩; obtain ⟨hc, hf⟩ := bcell hb; (try simp only [World.heap_drewN] at hc hf); (try simp only [heap_drew] at hc hf); have hz := hb.size; (try simp at hz); try (have hz0 : w.heap.size < w1.heap.size := by omega); try (have hz1 : w.heap.size + 1 < w1.heap.size := by omega); try (have hz2 : w.heap.size + 1 + 1 < w1.heap.size := by omega); try (have hz3 : w.heap.size + 1 + 1 + 1 < w1.heap.size := by omega); try (have hz4 : w.heap.size + 1 + 1 + 1 + 1 < w1.heap.size := by omega); try (have hz5 : w.heap.size + 1 + 1 + 1 + 1 + 1 < w1.heap.size := by omega)))
  exact bodyPost_ret (v := .agg #[.int .u64 (whi q), .int .u64 (wlo q)]) (by simp only [results, Try.results105]; go_simp) rfl ⟨rfl, by (repeat' (first | (with_reducible exact Below.refl _ _) | (with_reducible assumption) | (with_reducible refine belowThru ?_ (by assumption)) | (with_reducible refine belowAlloc ?_) | (with_reducible refine Below.setCell ?_ (by first | omega | (simp; done) | (simp; omega)) _) | (with_reducible refine Below.drew ?_) | (with_reducible refine below_drewN ?_ _)))⟩

theorem product_any (x y : Int) (h1 : -9223372036854775808 ≤ x) (h2 : x ≤ 9223372036854775807) (h3 : -9223372036854775808 ≤ y) (h4 : y ≤ 9223372036854775807) (w : World) :
    Calls Try.prog 105 #[.int .i64 x, .int .i64 y] w fun e w' => e = .returned (.agg #[.int .u64 (whi (x * y)), .int .u64 (wlo (x * y))]) ∧ Below w.heap.size w w' := by
  rcases (show x < 0 ∨ 0 ≤ x by omega) with h | h <;> rcases (show y < 0 ∨ 0 ≤ y by omega) with k | k
  · exact product_same x y _ h1 h2 h3 h4 (by rw [decide_eq_true h, decide_eq_true k]; rfl) (by show _ = _; rw [mag_neg x h, mag_neg y k, Int.neg_mul_neg]) w
  · exact product_other x y _ _ h1 h2 h3 h4 (by rw [decide_eq_true h, decide_eq_false (by omega)]; rfl) rfl (by show _ = _; rw [mag_neg x h, mag_pos y k, Int.neg_mul, Int.neg_neg]) w
  · exact product_other x y _ _ h1 h2 h3 h4 (by rw [decide_eq_true k, decide_eq_false (by omega)]; rfl) rfl (by show _ = _; rw [mag_pos x h, mag_neg y k, Int.mul_neg, Int.neg_neg]) w
  · exact product_same x y _ h1 h2 h3 h4 (by rw [decide_eq_false (by omega), decide_eq_false (by omega)]; rfl) (by show _ = _; rw [mag_pos x h, mag_pos y k]) w
end Go.Proofs.Ytdimmnoflenfhaa
/-
  Plain arithmetic of long division: a digit of the quotient, guessed from above.
-/
namespace Go.Proofs.Ytdimmnoflenfhaa

/-- What stays true of the guess of a digit, in every round: q is not below the digit. -/
structure Guess (U Y Y1 x q r : Int) : Prop where
  low : (U * 4294967296 + x) / Y ≤ q
  high : q ≤ 4294967297
  sum : q * Y1 + r = U
  r0 : 0 ≤ r

structure Digit (U Y Y1 Y0 x : Int) : Prop where
  ky : Y = Y1 * 4294967296 + Y0
  ky1 : 2147483648 ≤ Y1
  ky1' : Y1 ≤ 4294967295
  ky0 : 0 ≤ Y0
  ky0' : Y0 ≤ 4294967295
  ku : 0 ≤ U
  ku' : U < Y
  kx : 0 ≤ x
  kx' : x ≤ 4294967295

variable {U Y Y1 Y0 x q r : Int}
theorem Digit.pos (d : Digit U Y Y1 Y0 x) : 0 < Y := by have := d.ky; have := d.ky1; have := d.ky0; omega
theorem Digit.lt (d : Digit U Y Y1 Y0 x) : (U * 4294967296 + x) / Y < 4294967296 := by
  apply Int.ediv_lt_of_lt_mul d.pos
  have := d.ku'; have := d.kx'; omega
theorem Digit.ge (d : Digit U Y Y1 Y0 x) : 0 ≤ (U * 4294967296 + x) / Y := Int.ediv_nonneg (by have := d.ku; have := d.kx; omega) (by have := d.pos; omega)
theorem Digit.first (d : Digit U Y Y1 Y0 x) : Guess U Y Y1 x (U / Y1) (U % Y1) := by
  have p := d.pos
  have y1 := d.ky1
  have e := Int.mul_ediv_add_emod U Y1
  have m := Int.mul_comm Y1 (U / Y1)
  refine ⟨?_, ?_, by omega, Int.emod_nonneg _ (by omega)⟩
  · apply (Int.le_ediv_iff_mul_le (by omega)).2
    generalize hQ : (U * 4294967296 + x) / Y = Q
    have h : Q * Y ≤ U * 4294967296 + x := (Int.le_ediv_iff_mul_le p).1 (by omega)
    have hq : 0 ≤ Q := by rw [← hQ]; exact d.ge
    have h1 : Q * Y = Q * Y1 * 4294967296 + Q * Y0 := by rw [d.ky]; grind
    have h2 : 0 ≤ Q * Y0 := Int.mul_nonneg hq d.ky0
    have := d.kx'
    omega
  · have : U / Y1 < 4294967298 := by
      apply Int.ediv_lt_of_lt_mul (by omega)
      have := d.ku'; have := d.ky; have := d.ky0'; omega
    omega
theorem Guess.done (d : Digit U Y Y1 Y0 x) (g : Guess U Y Y1 x q r) (h : q * Y0 ≤ 4294967296 * r + x) : q = (U * 4294967296 + x) / Y := by
  have h1 : q * Y = q * Y1 * 4294967296 + q * Y0 := by rw [d.ky]; grind
  have s := g.sum
  have : q ≤ (U * 4294967296 + x) / Y := (Int.le_ediv_iff_mul_le d.pos).2 (by omega)
  have := g.low
  omega
theorem Guess.great (d : Digit U Y Y1 Y0 x) (h : 4294967296 ≤ q) : (U * 4294967296 + x) / Y ≤ q - 1 := by
  have := d.lt; omega
theorem Guess.over (d : Digit U Y Y1 Y0 x) (g : Guess U Y Y1 x q r) (h : 4294967296 * r + x < q * Y0) : (U * 4294967296 + x) / Y ≤ q - 1 := by
  have h1 : q * Y = q * Y1 * 4294967296 + q * Y0 := by rw [d.ky]; grind
  have s := g.sum
  have : (U * 4294967296 + x) / Y < q := Int.ediv_lt_of_lt_mul d.pos (by omega)
  omega
theorem Guess.next (g : Guess U Y Y1 x q r) (h : (U * 4294967296 + x) / Y ≤ q - 1) (y1 : 0 ≤ Y1) : Guess U Y Y1 x (q - 1) (r + Y1) := by
  have := g.sum; have := g.r0; have := g.high
  have e : (q - 1) * Y1 = q * Y1 - Y1 := by rw [Int.sub_mul, Int.one_mul]
  exact ⟨h, by omega, by omega, by omega⟩
theorem Guess.stop (d : Digit U Y Y1 Y0 x) (g : Guess U Y Y1 x q r) (hq : q ≤ 4294967296) (h : 4294967296 ≤ r) : q = (U * 4294967296 + x) / Y := by
  refine g.done d ?_
  have q0 := Int.le_trans d.ge g.low
  have := Int.mul_le_mul hq d.ky0' d.ky0 (by omega : (0 : Int) ≤ 4294967296)
  have := d.kx
  omega
/-- What the next digit is taken from. -/
theorem Digit.rest (d : Digit U Y Y1 Y0 x) (hY : Y ≤ 18446744073709551615) : (U * 4294967296 + x - (U * 4294967296 + x) / Y * Y) % 18446744073709551616 = (U * 4294967296 + x) % Y := by
  have e := Int.mul_ediv_add_emod (U * 4294967296 + x) Y
  have m := Int.mul_comm Y ((U * 4294967296 + x) / Y)
  have a := Int.emod_nonneg (U * 4294967296 + x) (show Y ≠ 0 by have := d.pos; omega)
  have b := Int.emod_lt_of_pos (U * 4294967296 + x) d.pos
  omega
/-- Two digits are the quotient. -/
theorem Digit.both {V1 V0 : Int} (hY : 0 < Y) :
    (U * 4294967296 + V1) / Y * 4294967296 + ((U * 4294967296 + V1) % Y * 4294967296 + V0) / Y = (U * 18446744073709551616 + (V1 * 4294967296 + V0)) / Y ∧
    ((U * 4294967296 + V1) % Y * 4294967296 + V0) % Y = (U * 18446744073709551616 + (V1 * 4294967296 + V0)) % Y := by
  have e := Int.mul_ediv_add_emod (U * 4294967296 + V1) Y
  generalize (U * 4294967296 + V1) / Y = A at *
  generalize (U * 4294967296 + V1) % Y = R at *
  have k : U * 18446744073709551616 + (V1 * 4294967296 + V0) = Y * (A * 4294967296) + (R * 4294967296 + V0) := by grind
  rw [k]
  constructor
  · rw [Int.add_comm (Y * _), Int.add_mul_ediv_left _ _ (by omega), Int.add_comm]
  · rw [Int.add_comm (Y * _), Int.add_mul_emod_self_left]
theorem wrap3 (a b c : Int) : ((a % 18446744073709551616 + b) % 18446744073709551616 - c % 18446744073709551616) % 18446744073709551616 = (a + b - c) % 18446744073709551616 := by
  rw [Int.emod_add_emod, Int.emod_sub_emod, Int.sub_emod_emod]
theorem wrapU3 (a b c : Int) : IntKind.u64.wrap (IntKind.u64.wrap (IntKind.u64.wrap a + b) - IntKind.u64.wrap c) = (a + b - c) % 18446744073709551616 := by
  rw [IntKind.wrap_u64, IntKind.wrap_u64, IntKind.wrap_u64, IntKind.wrap_u64, wrap3]
end Go.Proofs.Ytdimmnoflenfhaa
/-
  math/bits.Div64.
-/
namespace Go.Proofs.Ytdimmnoflenfhaa
open Go.RowKit

set_option maxHeartbeats 400000 in
theorem div64_low (lo y : Int) (h1 : 0 ≤ lo) (h2 : 1 ≤ y) (w : World) (h2' : lo ≤ 18446744073709551615) (h3 : y ≤ 18446744073709551615) :
    Calls Try.prog 132 #[.int .u64 0, .int .u64 lo, .int .u64 y] w fun e w' => e = .returned (.tuple #[.int .u64 (lo / y), .int .u64 (lo % y)]) ∧ ∃ n, w' = w.drewN n := by
  go_enter Try.func132, Try.ntmps132
  go_wp2
  go_quiet (fail)
  go_wp2
  go_ret2
  exact ⟨rfl, _, rfl⟩

set_option maxHeartbeats 2000000 in
theorem div64_walk (hi lo y s Y Y1 Y0 U V V1 V0 : Int) (w : World) (_h1 : 0 ≤ lo) (h2 : 1 ≤ hi) (_h2' : lo ≤ 18446744073709551615) (_h3 : y ≤ 18446744073709551615) (h4 : hi < y)
    (hs0 : 0 ≤ s) (hs1 : s ≤ 63)
    (HL : Hid (∀ w, Calls Try.prog 134 #[.int .u64 y] w fun e w' => e = .returned (.int .i64 s) ∧ w' = w))
    (eY : IntKind.u64.wrap (y * 2 ^ s.toNat) = Y) (eY1 : Y / 4294967296 = Y1) (eY0 : bits BinOp.and IntKind.u64 Y 4294967295 = Y0)
    (eU : bits BinOp.or IntKind.u64 (IntKind.u64.wrap (hi * 2 ^ s.toNat)) (lo / 2 ^ (64 - s).toNat) = U)
    (eV : IntKind.u64.wrap (lo * 2 ^ s.toNat) = V) (eV1 : V / 4294967296 = V1) (eV0 : bits BinOp.and IntKind.u64 V 4294967295 = V0)
    (d1 : Digit U Y Y1 Y0 V1) (Q : Int) (hQ : Hid ((U * 4294967296 + V1) / Y = Q)) (qq0 : 0 ≤ Q) (qq1 : Q ≤ 4294967295)
    (W : Int) (eW : IntKind.u64.wrap (IntKind.u64.wrap (IntKind.u64.wrap (U * 4294967296) + V1) - IntKind.u64.wrap (Q * Y)) = W)
    (d2 : Digit W Y Y1 Y0 V0) (Z : Int) (hZ : Hid ((W * 4294967296 + V0) / Y = Z)) (zz0 : 0 ≤ Z) (zz1 : Z ≤ 4294967295)
    (X : Int) (eX : IntKind.u64.wrap (IntKind.u64.wrap (IntKind.u64.wrap (W * 4294967296) + V0) - IntKind.u64.wrap (Z * Y)) = X) (_x0 : 0 ≤ X) :
    Calls Try.prog 132 #[.int .u64 hi, .int .u64 lo, .int .u64 y] w fun e w' => e = .returned (.tuple #[.int .u64 (Q * 4294967296 + Z), .int .u64 (X / 2 ^ s.toNat)]) ∧ w' = w := by
  have y1 := d1.ky1; have y1' := d1.ky1'; have y0 := d1.ky0; have y0' := d1.ky0'; have u0U := d1.ku; have u1U := d1.ku'; have v1 := d1.kx; have v1' := d1.kx'
  have u0W := d2.ku; have u1W := d2.ku'; have v0 := d2.kx; have v0' := d2.kx'
  have HDU := Lib.hid d1; clear d1
  have HDW := Lib.hid d2; clear d2
  have gU := HDU.out.first
  have ghU := gU.high
  have g1U : 0 ≤ U / Y1 * Y1 := Int.mul_nonneg (Int.ediv_nonneg u0U (by omega)) (by omega)
  have gmU : Hid (U - U / Y1 * Y1 = U % Y1) := by have := gU.sum; show _ = _; omega
  have g2U : U / Y1 * Y1 ≤ U := by have := gmU.out; have := gU.r0; omega
  have grU : U % Y1 ≤ 4294967295 := by have := Int.emod_lt_of_pos U (show 0 < Y1 by omega); omega
  have gqU : 0 ≤ U / Y1 := Int.ediv_nonneg u0U (by omega)
  have HGU := Lib.hid gU; clear gU
  have gW := HDW.out.first
  have ghW := gW.high
  have g1W : 0 ≤ W / Y1 * Y1 := Int.mul_nonneg (Int.ediv_nonneg u0W (by omega)) (by omega)
  have gmW : Hid (W - W / Y1 * Y1 = W % Y1) := by have := gW.sum; show _ = _; omega
  have g2W : W / Y1 * Y1 ≤ W := by have := gmW.out; have := gW.r0; omega
  have grW : W % Y1 ≤ 4294967295 := by have := Int.emod_lt_of_pos W (show 0 < Y1 by omega); omega
  have gqW : 0 ≤ W / Y1 := Int.ediv_nonneg u0W (by omega)
  have HGW := Lib.hid gW; clear gW
  go_enter Try.func132, Try.ntmps132
  go_upto_block 0 with (go_at_call 134; refine (HL.out _).mono ?_; rintro e w1 ⟨rfl, hw⟩; rw [hw])
  go_cut [15, 16] (fun q r wx => q = .int .u64 Q ∧ wx = w)
  case first =>
    go_wp2_with fail
    go_loop [15, 16] (fun q r => ∃ qi ri : Int, q = .int .u64 qi ∧ r = .int .u64 ri ∧ Hid (Guess U Y Y1 V1 qi ri) ∧ 0 ≤ ri ∧ ri ≤ 4294967295 ∧ 0 ≤ qi ∧ qi ≤ 4294967297) (fun _ r => (4294967296 - intOf r).toNat)
    case atStart => exact ⟨_, _, rfl, rfl, by rw [gmU.out]; exact HGU.out, by have := HGU.out.r0; rw [gmU.out]; exact this, by rw [gmU.out]; exact grU, gqU, ghU⟩
    case round =>
      obtain ⟨q, r, rfl, rfl, hg, r0, r1, q0, q1⟩ := hrel
      have step : 4294967296 ≤ q ∨ 4294967296 * r + V1 < q * Y0 → Hid (Q ≤ q - 1) := fun h => by
        rw [← hQ.out]; rcases h with h | h
        · exact Guess.great HDU.out h
        · exact Guess.over HDU.out hg.out h
      by_cases hq : 4294967296 ≤ q
      · have S := step (.inl hq)
        clear step
        by_cases hr : 4294967296 ≤ r + Y1
        · have e : q - 1 = Q := by rw [← hQ.out]; exact (hg.out.next (by rw [hQ.out]; exact S.out) (by omega)).stop HDU.out (by omega) hr
          go_wp2_with fail
          go_meet
          exact ⟨rfl, rfl⟩
        · go_wp2_with fail
          go_round
          case rel => exact ⟨_, _, rfl, rfl, hg.out.next (by rw [hQ.out]; exact S.out) (by omega), by omega, by omega, by omega, by omega⟩
          case measure => simp [intOf]; omega
      · have p0 : 0 ≤ q * Y0 := Int.mul_nonneg q0 y0
        have p1 : q * Y0 ≤ 18446744073709551615 := by
          have := Int.mul_le_mul (show q ≤ 4294967295 by omega) y0' y0 (by omega); omega
        by_cases hk : 4294967296 * r + V1 < q * Y0
        · have S := step (.inr hk)
          clear step
          have qp : 0 < q := by
            rcases (show q = 0 ∨ 0 < q by omega) with h | h
            · exfalso; rw [h, Int.zero_mul] at hk; omega
            · exact h
          by_cases hr : 4294967296 ≤ r + Y1
          · have e : q - 1 = Q := by rw [← hQ.out]; exact (hg.out.next (by rw [hQ.out]; exact S.out) (by omega)).stop HDU.out (by omega) hr
            go_wp2_with fail
            go_meet
            exact ⟨rfl, rfl⟩
          · go_wp2_with fail
            go_round
            case rel => exact ⟨_, _, rfl, rfl, hg.out.next (by rw [hQ.out]; exact S.out) (by omega), by omega, by omega, by omega, by omega⟩
            case measure => simp [intOf]; omega
        · have e : q = Q := by rw [← hQ.out]; exact hg.out.done HDU.out (by omega)
          clear step
          have E := Lib.hid e; clear e
          go_wp2_with fail
          go_meet
          exact ⟨by rw [E.out], rfl⟩
  case rest =>
    obtain ⟨rfl, rfl⟩ := hcut
    go_upto_block 2 with fail
    go_cut [18, 16] (fun q r wx => q = .int .u64 Z ∧ wx = wc)
    case first =>
      go_wp2_with fail
      go_loop [18, 16] (fun q r => ∃ qi ri : Int, q = .int .u64 qi ∧ r = .int .u64 ri ∧ Hid (Guess W Y Y1 V0 qi ri) ∧ 0 ≤ ri ∧ ri ≤ 4294967295 ∧ 0 ≤ qi ∧ qi ≤ 4294967297) (fun _ r => (4294967296 - intOf r).toNat)
      case atStart => exact ⟨_, _, rfl, rfl, by rw [gmW.out]; exact HGW.out, by have := HGW.out.r0; rw [gmW.out]; exact this, by rw [gmW.out]; exact grW, gqW, ghW⟩
      case round =>
        obtain ⟨q, r, rfl, rfl, hg, r0, r1, q0, q1⟩ := hrel
        have step : 4294967296 ≤ q ∨ 4294967296 * r + V0 < q * Y0 → Hid (Z ≤ q - 1) := fun h => by
          rw [← hZ.out]; rcases h with h | h
          · exact Guess.great HDW.out h
          · exact Guess.over HDW.out hg.out h
        by_cases hq : 4294967296 ≤ q
        · have S := step (.inl hq)
          clear step
          by_cases hr : 4294967296 ≤ r + Y1
          · have e : q - 1 = Z := by rw [← hZ.out]; exact (hg.out.next (by rw [hZ.out]; exact S.out) (by omega)).stop HDW.out (by omega) hr
            go_wp2_with fail
            go_meet
            exact ⟨rfl, rfl⟩
          · go_wp2_with fail
            go_round
            case rel => exact ⟨_, _, rfl, rfl, hg.out.next (by rw [hZ.out]; exact S.out) (by omega), by omega, by omega, by omega, by omega⟩
            case measure => simp [intOf]; omega
        · have p0 : 0 ≤ q * Y0 := Int.mul_nonneg q0 y0
          have p1 : q * Y0 ≤ 18446744073709551615 := by
            have := Int.mul_le_mul (show q ≤ 4294967295 by omega) y0' y0 (by omega); omega
          by_cases hk : 4294967296 * r + V0 < q * Y0
          · have S := step (.inr hk)
            clear step
            have qp : 0 < q := by
              rcases (show q = 0 ∨ 0 < q by omega) with h | h
              · exfalso; rw [h, Int.zero_mul] at hk; omega
              · exact h
            by_cases hr : 4294967296 ≤ r + Y1
            · have e : q - 1 = Z := by rw [← hZ.out]; exact (hg.out.next (by rw [hZ.out]; exact S.out) (by omega)).stop HDW.out (by omega) hr
              go_wp2_with fail
              go_meet
              exact ⟨rfl, rfl⟩
            · go_wp2_with fail
              go_round
              case rel => exact ⟨_, _, rfl, rfl, hg.out.next (by rw [hZ.out]; exact S.out) (by omega), by omega, by omega, by omega, by omega⟩
              case measure => simp [intOf]; omega
          · have e : q = Z := by rw [← hZ.out]; exact hg.out.done HDW.out (by omega)
            clear step
            have E := Lib.hid e; clear e
            go_wp2_with fail
            go_meet
            exact ⟨by rw [E.out], rfl⟩
  
    case rest =>
      obtain ⟨rfl, rfl⟩ := hcut
      go_wp2_with fail
      go_ret2
      exact ⟨rfl, rfl⟩

/-- What a shift by t does to two words. -/
theorem shift_parts (hi lo y t : Nat) (ht : t ≤ 63) (hlo : lo < 18446744073709551616) (hh : hi < y) (hy : y * 2 ^ t < 18446744073709551616) :
    (hi * 2 ^ t ||| lo / 2 ^ (64 - t)) * 18446744073709551616 + lo * 2 ^ t % 18446744073709551616 = (hi * 18446744073709551616 + lo) * 2 ^ t ∧ (hi * 2 ^ t ||| lo / 2 ^ (64 - t)) < y * 2 ^ t ∧ hi * 2 ^ t < 18446744073709551616 ∧ lo / 2 ^ (64 - t) < 18446744073709551616 := by
  have e64 : 2 ^ (64 - t) * 2 ^ t = 18446744073709551616 := by rw [← Nat.pow_add, show 64 - t + t = 64 by omega]
  have P : 0 < 2 ^ t := Nat.two_pow_pos t
  have P' : 0 < 2 ^ (64 - t) := Nat.two_pow_pos _
  have b : lo / 2 ^ (64 - t) < 2 ^ t := by
    rw [Nat.div_lt_iff_lt_mul P', Nat.mul_comm, e64]; exact hlo
  have o : hi * 2 ^ t ||| lo / 2 ^ (64 - t) = hi * 2 ^ t + lo / 2 ^ (64 - t) := by
    rw [Nat.mul_comm hi, ← Nat.two_pow_add_eq_or_of_lt b hi]
  have m : lo * 2 ^ t = lo / 2 ^ (64 - t) * 18446744073709551616 + lo * 2 ^ t % 18446744073709551616 := by
    have h := Nat.div_add_mod (lo * 2 ^ t) 18446744073709551616
    have q : lo * 2 ^ t / 18446744073709551616 = lo / 2 ^ (64 - t) := by rw [← e64, Nat.mul_div_mul_right _ _ P]
    rw [q] at h; omega
  have k : (hi + 1) * 2 ^ t ≤ y * 2 ^ t := Nat.mul_le_mul_right _ hh
  rw [Nat.add_mul, Nat.one_mul] at k
  rw [o]
  refine ⟨?_, by omega, by omega, Nat.lt_of_le_of_lt (Nat.div_le_self _ _) hlo⟩
  rw [Nat.add_mul, Nat.add_mul, m]
  have : hi * 18446744073709551616 * 2 ^ t = hi * 2 ^ t * 18446744073709551616 := by rw [Nat.mul_right_comm]
  omega

theorem div64_nums (hi lo y t : Nat) (h2' : lo < 18446744073709551616) (h4 : hi < y) (ht : t ≤ 63) (y1 : y * 2 ^ t < 18446744073709551616) (y2 : 9223372036854775808 ≤ y * 2 ^ t) :
    ∃ Y Y1 Y0 U V V1 V0 Q W Z X : Int,
      IntKind.u64.wrap ((y : Int) * 2 ^ (t : Int).toNat) = Y ∧ Y / 4294967296 = Y1 ∧ bits BinOp.and IntKind.u64 Y 4294967295 = Y0 ∧
      bits BinOp.or IntKind.u64 (IntKind.u64.wrap ((hi : Int) * 2 ^ (t : Int).toNat)) ((lo : Int) / 2 ^ ((64 : Int) - (t : Int)).toNat) = U ∧
      IntKind.u64.wrap ((lo : Int) * 2 ^ (t : Int).toNat) = V ∧ V / 4294967296 = V1 ∧ bits BinOp.and IntKind.u64 V 4294967295 = V0 ∧
      Digit U Y Y1 Y0 V1 ∧ (U * 4294967296 + V1) / Y = Q ∧ 0 ≤ Q ∧ Q ≤ 4294967295 ∧
      IntKind.u64.wrap (IntKind.u64.wrap (IntKind.u64.wrap (U * 4294967296) + V1) - IntKind.u64.wrap (Q * Y)) = W ∧
      Digit W Y Y1 Y0 V0 ∧ (W * 4294967296 + V0) / Y = Z ∧ 0 ≤ Z ∧ Z ≤ 4294967295 ∧
      IntKind.u64.wrap (IntKind.u64.wrap (IntKind.u64.wrap (W * 4294967296) + V0) - IntKind.u64.wrap (Z * Y)) = X ∧ 0 ≤ X ∧
      Q * 4294967296 + Z = ((hi : Int) * 18446744073709551616 + (lo : Int)) / (y : Int) ∧ X / 2 ^ (t : Int).toNat = ((hi : Int) * 18446744073709551616 + (lo : Int)) % (y : Int) := by
  have P : 0 < 2 ^ t := Nat.two_pow_pos t
  obtain ⟨s1, s2, s3, s4⟩ := shift_parts hi lo y t ht h2' h4 y1
  have hU := bits_or_u64_nat (hi * 2 ^ t) (lo / 2 ^ (64 - t)) s3 s4
  have hA := Mul64.maskN (y * 2 ^ t) y1
  have hB := Mul64.maskN (lo * 2 ^ t % 18446744073709551616) (Nat.mod_lt _ (by omega))
  have e1 : (y : Int) * 2 ^ (t : Int).toNat = ((y * 2 ^ t : Nat) : Int) := by rw [Int.toNat_natCast, Int.natCast_mul, Int.natCast_pow]; rfl
  have e2 : (hi : Int) * 2 ^ (t : Int).toNat = ((hi * 2 ^ t : Nat) : Int) := by rw [Int.toNat_natCast, Int.natCast_mul, Int.natCast_pow]; rfl
  have e3 : (lo : Int) * 2 ^ (t : Int).toNat = ((lo * 2 ^ t : Nat) : Int) := by rw [Int.toNat_natCast, Int.natCast_mul, Int.natCast_pow]; rfl
  have e4 : (lo : Int) / (2 : Int) ^ ((64 : Int) - (t : Int)).toNat = ((lo / 2 ^ (64 - t) : Nat) : Int) := by
    rw [Int.natCast_ediv, Int.natCast_pow, show ((64 : Int) - (t : Int)).toNat = 64 - t by omega]; rfl
  have s1' : ((hi * 2 ^ t ||| lo / 2 ^ (64 - t) : Nat) : Int) * 18446744073709551616 + ((lo * 2 ^ t % 18446744073709551616 : Nat) : Int) = ((hi : Int) * 18446744073709551616 + (lo : Int)) * (2 : Int) ^ t := by
    have h := congrArg (fun n : Nat => (n : Int)) s1
    have k : ((18446744073709551616 : Nat) : Int) = 18446744073709551616 := rfl
    have k2 : ((2 ^ t : Nat) : Int) = (2 : Int) ^ t := by rw [Int.natCast_pow]; rfl
    simp only [Int.natCast_add, Int.natCast_mul] at h
    rw [k, k2] at h
    exact h
  have eY : ((y * 2 ^ t : Nat) : Int) = (y : Int) * (2 : Int) ^ t := by rw [Int.natCast_mul, Int.natCast_pow]; rfl
  have w1 : IntKind.u64.wrap ((y * 2 ^ t : Nat) : Int) = ((y * 2 ^ t : Nat) : Int) := by rw [IntKind.wrap_u64]; omega
  have w2 : IntKind.u64.wrap ((hi * 2 ^ t : Nat) : Int) = ((hi * 2 ^ t : Nat) : Int) := by rw [IntKind.wrap_u64]; omega
  have w3 : IntKind.u64.wrap ((lo * 2 ^ t : Nat) : Int) = ((lo * 2 ^ t % 18446744073709551616 : Nat) : Int) := by rw [IntKind.wrap_u64]; omega
  have vlt : lo * 2 ^ t % 18446744073709551616 < 18446744073709551616 := Nat.mod_lt _ (by omega)
  rw [e1, e2, e3, e4, w1, w2, w3, hU]
  generalize (hi * 2 ^ t ||| lo / 2 ^ (64 - t)) = U at *
  generalize lo * 2 ^ t % 18446744073709551616 = V at *
  generalize y * 2 ^ t = Y at *
  have d1 : Digit (U : Int) (Y : Int) ((Y : Int) / 4294967296) ((Y % 4294967296 : Nat) : Int) ((V : Int) / 4294967296) :=
    ⟨by omega, by omega, by omega, by omega, by omega, by omega, by omega, by omega, by omega⟩
  have hW0 := Int.emod_nonneg ((U : Int) * 4294967296 + (V : Int) / 4294967296) (show (Y : Int) ≠ 0 by omega)
  have hW1 := Int.emod_lt_of_pos ((U : Int) * 4294967296 + (V : Int) / 4294967296) (show (0 : Int) < Y by omega)
  have d2 : Digit (((U : Int) * 4294967296 + (V : Int) / 4294967296) % Y) (Y : Int) ((Y : Int) / 4294967296) ((Y % 4294967296 : Nat) : Int) ((V % 4294967296 : Nat) : Int) :=
    ⟨by omega, by omega, by omega, by omega, by omega, hW0, hW1, by omega, by omega⟩
  have both := Digit.both (U := (U : Int)) (Y := (Y : Int)) (V1 := (V : Int) / 4294967296) (V0 := ((V % 4294967296 : Nat) : Int)) (by omega)
  have r1 := d1.rest (by omega)
  have r2 := d2.rest (by omega)
  have q1 := d1.lt; have q1' := d1.ge; have q2 := d2.lt; have q2' := d2.ge
  have wx0 := Int.emod_nonneg ((((U : Int) * 4294967296 + (V : Int) / 4294967296) % Y) * 4294967296 + ((V % 4294967296 : Nat) : Int)) (show (Y : Int) ≠ 0 by omega)
  have vv : ((V : Int) / 4294967296) * 4294967296 + ((V % 4294967296 : Nat) : Int) = (V : Int) := by omega
  rw [vv] at both
  have P0 : (0 : Int) < (2 : Int) ^ t := Int.pow_pos (by omega)
  have f1 : ((U : Int) * 18446744073709551616 + (V : Int)) / (Y : Int) = ((hi : Int) * 18446744073709551616 + (lo : Int)) / (y : Int) := by
    rw [s1', eY, Int.mul_ediv_mul_of_pos_left _ _ P0]
  have f2 : ((U : Int) * 18446744073709551616 + (V : Int)) % (Y : Int) / (2 : Int) ^ t = ((hi : Int) * 18446744073709551616 + (lo : Int)) % (y : Int) := by
    rw [s1', eY, Int.mul_comm _ ((2 : Int) ^ t), Int.mul_comm (y : Int), Int.mul_emod_mul_of_pos _ _ P0, Int.mul_ediv_cancel_left _ (Int.ne_of_gt P0)]
  refine ⟨_, _, _, _, _, _, _, _, _, _, _, rfl, rfl, hA, rfl, rfl, rfl, hB, d1, rfl, q1', by omega, ?_, d2, rfl, q2', by omega, ?_, wx0, ?_, ?_⟩
  · exact (wrapU3 _ _ _).trans r1
  · exact (wrapU3 _ _ _).trans r2
  · rw [both.1, f1]
  · rw [both.2, Int.toNat_natCast, f2]

theorem div64_high (hi lo y : Nat) (w : World) (h2 : 1 ≤ hi) (h2' : lo < 18446744073709551616) (h3 : y < 18446744073709551616) (h4 : hi < y) :
    Calls Try.prog 132 #[.int .u64 (hi : Int), .int .u64 (lo : Int), .int .u64 (y : Int)] w fun e w' => e = .returned (.tuple #[.int .u64 (((hi : Int) * 18446744073709551616 + (lo : Int)) / (y : Int)), .int .u64 (((hi : Int) * 18446744073709551616 + (lo : Int)) % (y : Int))]) ∧ w' = w := by
  obtain ⟨t, ht, y1, y2, es⟩ : ∃ t : Nat, t ≤ 63 ∧ y * 2 ^ t < 18446744073709551616 ∧ 9223372036854775808 ≤ y * 2 ^ t ∧ (64 : Int) - (Lib.bitLen (y : Int).toNat : Int) = (t : Int) := by
    obtain ⟨b1, b2, b3⟩ := Lib.bitLenAux_bounds 64 y (by omega) (by omega)
    have b4 : Lib.bitLenAux 64 y ≤ 64 := Lib.bitLen_le y 64 (by omega) (by omega)
    rw [show Lib.bitLen ((y : Int).toNat) = Lib.bitLenAux 64 y from rfl]
    generalize Lib.bitLenAux 64 y = b at *
    obtain ⟨t, rfl⟩ : ∃ t, b = 64 - t := ⟨64 - b, by omega⟩
    refine ⟨t % 64, by omega, ?_, ?_, by omega⟩
    · have := Nat.mul_lt_mul_of_pos_right b3 (Nat.two_pow_pos (t % 64))
      rw [← Nat.pow_add, show 64 - t + t % 64 = 64 by omega] at this
      omega
    · have := Nat.mul_le_mul_right (2 ^ (t % 64)) b2
      rw [← Nat.pow_add, show 64 - t - 1 + t % 64 = 63 by omega] at this
      omega
  have HL : Hid (∀ w, Calls Try.prog 134 #[.int .u64 (y : Int)] w fun e w' => e = .returned (.int .i64 (t : Int)) ∧ w' = w) := by
    intro w; rw [← es]; exact Try.bits_LeadingZeros64 (y : Int) w (by omega) (by omega)
  obtain ⟨Y, Y1, Y0, U, V, V1, V0, Q, W, Z, X, k1, k2, k3, k4, k5, k6, k7, d1, k8, k9, k10, k11, d2, k12, k13, k14, k15, k16, k17, k18⟩ := div64_nums hi lo y t h2' h4 ht y1 y2
  rw [← k17, ← k18]
  exact div64_walk (hi : Int) (lo : Int) (y : Int) (t : Int) Y Y1 Y0 U V V1 V0 w (by omega) (by omega) (by omega) (by omega) (by omega) (by omega) (by omega) HL k1 k2 k3 k4 k5 k6 k7 d1 Q k8 k9 k10 W k11 d2 Z k12 k13 k14 X k15 k16

theorem div64_any (hi lo y : Int) (h0 : 0 ≤ hi) (h4 : hi < y) (h1 : 0 ≤ lo) (h2 : lo ≤ 18446744073709551615) (h3 : y ≤ 18446744073709551615) (w : World) :
    Calls Try.prog 132 #[.int .u64 hi, .int .u64 lo, .int .u64 y] w fun e w' => e = .returned (.tuple #[.int .u64 ((hi * 18446744073709551616 + lo) / y), .int .u64 ((hi * 18446744073709551616 + lo) % y)]) ∧ Below w.heap.size w w' := by
  rcases (show hi = 0 ∨ 1 ≤ hi by omega) with h | h
  · subst h
    refine (div64_low lo y h1 (by omega) w h2 h3).mono fun e w' ⟨he, n, hw⟩ => ⟨?_, ?_⟩
    · rw [he, Int.zero_mul, Int.zero_add]
    · rw [hw]; exact below_drewN (Below.refl _ _) n
  · obtain ⟨hi, rfl⟩ := Int.eq_ofNat_of_zero_le h0
    obtain ⟨lo, rfl⟩ := Int.eq_ofNat_of_zero_le h1
    obtain ⟨y, rfl⟩ := Int.eq_ofNat_of_zero_le (show 0 ≤ y by omega)
    refine (div64_high hi lo y w (by omega) (by omega) (by omega) (by omega)).mono fun e w' ⟨he, hw⟩ => ⟨he, ?_⟩
    rw [hw]; exact Below.refl _ _
end Go.Proofs.Ytdimmnoflenfhaa
/-
  Fractions: the parts of a rational number, which of them fit, and the code's way to them.
-/
namespace Go.Proofs.Ytdimmnoflenfhaa

/-- The parts of a rational number. -/
def fn (q : Rat) : Int := q.num
def fd (q : Rat) : Int := (q.den : Int)
/-- It fits. -/
def fits (q : Rat) : Prop := -4611686018427387903 ≤ fn q ∧ fn q ≤ 4611686018427387903 ∧ fd q ≤ 4611686018427387903
instance (q : Rat) : Decidable (fits q) := inferInstanceAs (Decidable (_ ∧ _))
/-- What a call returns for a rational number: its parts, or zeros and the error that it is too large. -/
def rn (q : Rat) : Int := if fits q then fn q else 0
def rd (q : Rat) : Int := if fits q then fd q else 0
def re (q : Rat) : Int := if fits q then 0 else 4
theorem fd_pos (q : Rat) : 1 ≤ fd q := by unfold fd; have := q.den_pos; omega
theorem fd_ne (q : Rat) : fd q ≠ 0 := by have := fd_pos q; omega
/-- The greatest common divisor. -/
def gcdI (x y : Int) : Int := (Int.gcd x y : Int)
theorem gcdI_pos_right (x y : Int) (h : 0 < y) : 0 < gcdI x y := by
  unfold gcdI; have := Int.gcd_pos_of_ne_zero_right x (show y ≠ 0 by omega); omega
theorem gcdI_pos_left (x y : Int) (h : 0 < x) : 0 < gcdI x y := by
  unfold gcdI; have := Int.gcd_pos_of_ne_zero_left y (show x ≠ 0 by omega); omega
theorem gcdI_le_right (x y : Int) (h : 0 < y) : gcdI x y ≤ y := by
  unfold gcdI; have := Nat.le_of_dvd (by omega) (Nat.gcd_dvd_right x.natAbs y.natAbs); rw [← Int.gcd_eq_natAbs_gcd_natAbs] at this; omega
theorem gcdI_le_left (x y : Int) (h : 0 < x) : gcdI x y ≤ x := by
  unfold gcdI; have := Nat.le_of_dvd (by omega) (Nat.gcd_dvd_left x.natAbs y.natAbs); rw [← Int.gcd_eq_natAbs_gcd_natAbs] at this; omega
theorem gcdI_zero (x : Int) (h : 0 ≤ x) : gcdI x 0 = x := by unfold gcdI; rw [Int.gcd_zero_right]; omega
theorem gcdI_step (x y : Int) (hx : 0 ≤ x) (hy : 0 < y) : gcdI y (x % y) = gcdI x y := by
  unfold gcdI
  congr 1
  obtain ⟨X, rfl⟩ := Int.eq_ofNat_of_zero_le hx
  obtain ⟨Y, rfl⟩ := Int.eq_ofNat_of_zero_le (Int.le_of_lt hy)
  rw [← Int.natCast_emod, Int.gcd_natCast_natCast, Int.gcd_natCast_natCast, Nat.gcd_comm X, Nat.gcd_rec Y X, Nat.gcd_comm]

theorem q_gcd (q : Rat) : gcdI (fn q) (fd q) = 1 := by
  unfold gcdI fn fd
  rw [Int.gcd_eq_natAbs_gcd_natAbs, Int.natAbs_natCast, show q.num.natAbs.gcd q.den = 1 from q.reduced]; rfl
/-- Two numbers without a common divisor are the parts of a rational number. -/
theorem q_of (a b : Int) (hb : 1 ≤ b) (h : gcdI a b = 1) : ∃ q : Rat, fn q = a ∧ fd q = b := by
  obtain ⟨B, rfl⟩ := Int.eq_ofNat_of_zero_le (show 0 ≤ b by omega)
  have h1 : a.natAbs.Coprime B := by
    unfold gcdI at h
    rw [Int.gcd_eq_natAbs_gcd_natAbs, Int.natAbs_natCast] at h
    unfold Nat.Coprime; omega
  exact ⟨⟨a, B, by omega, h1⟩, rfl, rfl⟩
theorem q_ext {q r : Rat} (h1 : fn q = fn r) (h2 : fd q = fd r) : q = r := by
  unfold fn fd at *; exact Rat.ext h1 (by omega)
/-- A fraction is valid. -/
def okF (a b : Int) : Prop := 1 ≤ b ∧ b ≤ 4611686018427387903 ∧ -4611686018427387903 ≤ a ∧ a ≤ 4611686018427387903 ∧ gcdI a b = 1
instance (a b : Int) : Decidable (okF a b) := inferInstanceAs (Decidable (_ ∧ _))
theorem okF_iff (a b : Int) : okF a b ↔ ∃ q : Rat, fits q ∧ fn q = a ∧ fd q = b := by
  constructor
  · rintro ⟨h1, h2, h3, h4, h5⟩
    obtain ⟨q, rfl, rfl⟩ := q_of a b h1 h5
    exact ⟨q, ⟨h3, h4, h2⟩, rfl, rfl⟩
  · rintro ⟨q, ⟨h1, h2, h3⟩, rfl, rfl⟩
    exact ⟨fd_pos q, h3, h1, h2, q_gcd q⟩
theorem okF_q {q : Rat} (h : fits q) : okF (fn q) (fd q) := (okF_iff _ _).2 ⟨q, h, rfl, rfl⟩
theorem mul_bound (x y M N : Int) (hx : -M ≤ x ∧ x ≤ M) (hy : -N ≤ y ∧ y ≤ N) (hM : 0 ≤ M) (hN : 0 ≤ N) : -(M * N) ≤ x * y ∧ x * y ≤ M * N := by
  have h : (x * y).natAbs ≤ (M * N).natAbs := by
    rw [Int.natAbs_mul, Int.natAbs_mul]
    exact Nat.mul_le_mul (by omega) (by omega)
  have := Int.mul_nonneg hM hN
  omega

/-- The code's way to a sum or a difference. -/
theorem div_bounds (b g : Int) (hb : 1 ≤ b) (hg : 0 < g) (hd : g ≤ b) : 1 ≤ b / g ∧ b / g ≤ b := by
  constructor
  · exact (Int.le_ediv_iff_mul_le hg).2 (by omega)
  · exact Int.ediv_le_self _ (by omega)
theorem gcdI_fd (q r : Rat) : gcdI (fd q) (fd r) = ((q.den.gcd r.den : Nat) : Int) := by
  unfold gcdI fd; rw [Int.gcd_natCast_natCast]
theorem gcdI_mag (g t : Int) (hg : 0 < g) : gcdI g ((t.natAbs : Int) % g) = ((t.natAbs.gcd g.toNat : Nat) : Int) := by
  obtain ⟨G, rfl⟩ := Int.eq_ofNat_of_zero_le (Int.le_of_lt hg)
  unfold gcdI
  rw [← Int.natCast_emod, Int.gcd_natCast_natCast, Int.toNat_natCast, Nat.gcd_comm G, ← Nat.gcd_rec, Nat.gcd_comm]
theorem add_parts (q r : Rat) (g l t s : Int) (hg : g = gcdI (fd q) (fd r)) (hl : l = fd q / g) (ht : t = fn q * (fd r / g) + fn r * l) (hs : s = gcdI g ((t.natAbs : Int) % g)) :
    t.tdiv s = fn (q + r) ∧ l * (fd r / s) = fd (q + r) := by
  have e : q + r = Rat.add q r := rfl
  have gp : 0 < g := by rw [hg]; exact gcdI_pos_left _ _ (by have := fd_pos q; omega)
  rw [gcdI_mag g t gp] at hs
  rw [gcdI_fd] at hg
  unfold fn fd at *
  rw [e]
  unfold Rat.add
  subst hg
  rw [Int.toNat_natCast] at hs
  have d1 : ((q.den : Int) / ((q.den.gcd r.den : Nat) : Int)) = ((q.den / q.den.gcd r.den : Nat) : Int) := by rw [Int.natCast_ediv]
  have d2 : ((r.den : Int) / ((q.den.gcd r.den : Nat) : Int)) = ((r.den / q.den.gcd r.den : Nat) : Int) := by rw [Int.natCast_ediv]
  rw [d1] at hl
  rw [d2, hl] at ht
  by_cases h : q.den.gcd r.den = 1
  · rw [dif_pos h]
    rw [h] at hs ht hl
    rw [Nat.gcd_one_right] at hs
    subst hs
    simp only [Nat.div_one] at ht hl
    exact ⟨by rw [ht]; simp, by rw [hl]; simp⟩
  · rw [dif_neg h]
    dsimp only
    subst ht
    unfold Rat.maybeNormalize
    have dv : ∀ t : Int, t.natAbs.gcd (q.den.gcd r.den) ∣ r.den := fun _ => Nat.dvd_trans (Nat.gcd_dvd_right _ _) (Nat.gcd_dvd_right _ _)
    split
    · rename_i h1
      rw [h1] at hs; subst hs
      exact ⟨by simp, by rw [hl]; simp⟩
    · dsimp only
      refine ⟨by rw [hs, Int.divExact_eq_tdiv], ?_⟩
      rw [hs, hl, Nat.divExact_eq_div, ← Int.natCast_ediv, ← Int.natCast_mul, Nat.mul_div_assoc _ (dv _)]
theorem sub_parts (q r : Rat) (g l t s : Int) (hg : g = gcdI (fd q) (fd r)) (hl : l = fd q / g) (ht : t = fn q * (fd r / g) - fn r * l) (hs : s = gcdI g ((t.natAbs : Int) % g)) :
    t.tdiv s = fn (q - r) ∧ l * (fd r / s) = fd (q - r) := by
  have e1 : fn (-r) = -fn r := rfl
  have e2 : fd (-r) = fd r := rfl
  rw [Rat.sub_eq_add_neg]
  have := add_parts q (-r) g l t s (by rw [e2]; exact hg) hl (by rw [e1, e2, ht, Int.neg_mul, Int.sub_eq_add_neg]) hs
  rw [e2] at this; exact this
theorem cmp_parts (q r : Rat) : (fn q * fd r - fn r * fd q < 0 ↔ q < r) ∧ (fn q * fd r - fn r * fd q = 0 ↔ q = r) ∧ (0 < fn q * fd r - fn r * fd q ↔ r < q) := by
  have a := Rat.lt_iff q r
  have b := Rat.lt_iff r q
  unfold fn fd
  refine ⟨by rw [a]; omega, ?_, by rw [b]; omega⟩
  constructor
  · intro h
    have h1 : ¬ q < r := by rw [a]; omega
    have h2 : ¬ r < q := by rw [b]; omega
    exact Rat.le_antisymm (Rat.not_lt.1 h2) (Rat.not_lt.1 h1)
  · rintro rfl; omega
/-- -1, 0 or 1: whether a number is less than another one, equal, or greater. -/
def ordQ (q r : Rat) : Int := (fn q * fd r - fn r * fd q).sign
theorem ordQ_lt {q r : Rat} : ordQ q r < 0 ↔ q < r := by
  rw [← (cmp_parts q r).1]; unfold ordQ; exact Int.sign_neg_iff
theorem ordQ_gt {q r : Rat} : 0 < ordQ q r ↔ r < q := by
  rw [← (cmp_parts q r).2.2]; unfold ordQ; exact Int.sign_pos_iff
theorem ordQ_le {q r : Rat} : ordQ q r ≤ 0 ↔ q ≤ r := by
  rw [← Rat.not_lt, ← ordQ_gt]; omega
/-- The rational number of two whole numbers. -/
def mkR (n d : Int) : Rat := Rat.divInt n d
theorem mkR_parts (n d g : Int) (hd : d ≠ 0) (hg : g = gcdI (n.natAbs : Int) (d.natAbs : Int)) :
    fn (mkR n d) = d.sign * n.sign * ((n.natAbs : Int) / g) ∧ fd (mkR n d) = (d.natAbs : Int) / g := by
  have hg' : g = (d.gcd n : Int) := by
    rw [hg]; unfold gcdI
    rw [Int.gcd_natCast_natCast, ← Int.gcd_eq_natAbs_gcd_natAbs, Int.gcd_comm]
  unfold fn fd mkR
  rw [Rat.num_divInt, Rat.den_divInt, if_neg hd, hg']
  have dv : (d.gcd n : Int) ∣ n := Int.gcd_dvd_right d n
  refine ⟨?_, by rw [Int.natCast_ediv]⟩
  have dv2 : (d.gcd n : Int) ∣ (n.natAbs : Int) := Int.dvd_natAbs.2 dv
  have e2 : d.sign * n = d.sign * n.sign * (n.natAbs : Int) := by rw [Int.mul_assoc, Int.sign_mul_natAbs]
  rw [e2, Int.mul_ediv_assoc _ dv2]
end Go.Proofs.Ytdimmnoflenfhaa
/-
  Layer 1: quotients of wide numbers, their parts, greatest common divisors.
-/
namespace Go.Proofs.Ytdimmnoflenfhaa
open Go.RowKit

set_option maxHeartbeats 1000000 in
theorem divide_pos (z d Q R : Int) (w : World) (h0 : 0 ≤ z) (h1 : z < 170141183460469231731687303715884105728) (hd : 1 ≤ d) (hd1 : d ≤ 18446744073709551615) (eQ : Hid (z / d = Q)) (eR : Hid (z % d = R)) :
    Calls Try.prog 130 #[.agg #[.int .u64 (whi z), .int .u64 (wlo z)], .int .u64 d] w fun e w' => e = .returned (.tuple #[.agg #[.int .u64 (whi Q), .int .u64 (wlo Q)], .int .u64 R]) ∧ Below w.heap.size w w' := by
  obtain ⟨p1, p2, p3, p4, p5⟩ := div_parts z d h0 h1 hd hd1
  have a0 := whi_lo z; have a1 := whi_hi z; have b0 := wlo_lo z; have b1 := wlo_hi z
  have zs : ¬ z.sign < 0 := by
    intro h; have := Int.sign_neg_iff.1 h; omega
  rw [eQ.out] at p1 p2
  rw [eR.out] at p3
  have HD : Hid (∀ w, Calls Try.prog 132 #[.int .u64 (whi z % d), .int .u64 (wlo z), .int .u64 d] w fun e w' => e = .returned (.tuple #[.int .u64 (wlo Q), .int .u64 R]) ∧ Below w.heap.size w w') := by
    intro w
    rw [p2, p3]
    exact div64_any (whi z % d) (wlo z) d p4 p5 b0 b1 hd1 w
  have HQ : Hid (whi Q = whi z / d) := p1
  clear p1 p2 p3
  go_enter Try.func130, Try.ntmps130
  go_wp2_with (go_at_call 106; refine (sign_any z (by omega) h1 _).mono ?_; rintro e w1 ⟨rfl, hb⟩; obtain ⟨hc, hf⟩ := bcell hb; (try simp only [World.heap_drewN] at hc hf); (try simp only [heap_drew] at hc hf); have hz := hb.size; (try simp at hz); try (have hz0 : w.heap.size < w1.heap.size := by omega); try (have hz1 : w.heap.size + 1 < w1.heap.size := by omega); try (have hz2 : w.heap.size + 1 + 1 < w1.heap.size := by omega); try (have hz3 : w.heap.size + 1 + 1 + 1 < w1.heap.size := by omega); try (have hz4 : w.heap.size + 1 + 1 + 1 + 1 < w1.heap.size := by omega); try (have hz5 : w.heap.size + 1 + 1 + 1 + 1 + 1 < w1.heap.size := by omega))
  go_quiet (fail)
  go_wp2_with (go_at_call 132; refine (HD.out _).mono ?_; rintro e w1 ⟨rfl, hb⟩; obtain ⟨hc, hf⟩ := bcell hb; (try simp only [World.heap_drewN] at hc hf); (try simp only [heap_drew] at hc hf); have hz := hb.size; (try simp at hz); try (have hz0 : w.heap.size < w1.heap.size := by omega); try (have hz1 : w.heap.size + 1 < w1.heap.size := by omega); try (have hz2 : w.heap.size + 1 + 1 < w1.heap.size := by omega); try (have hz3 : w.heap.size + 1 + 1 + 1 < w1.heap.size := by omega); try (have hz4 : w.heap.size + 1 + 1 + 1 + 1 < w1.heap.size := by omega); try (have hz5 : w.heap.size + 1 + 1 + 1 + 1 + 1 < w1.heap.size := by omega))
  exact bodyPost_ret (v := .tuple #[.agg #[.int .u64 (whi Q), .int .u64 (wlo Q)], .int .u64 R]) (by rw [HQ.out]; simp only [results, Try.results130]; go_simp) rfl ⟨rfl, by (repeat' (first | (with_reducible exact Below.refl _ _) | (with_reducible assumption) | (with_reducible refine belowThru ?_ (by assumption)) | (with_reducible refine belowAlloc ?_) | (with_reducible refine Below.setCell ?_ (by first | omega | (simp; done) | (simp; omega)) _) | (with_reducible refine Below.drew ?_) | (with_reducible refine below_drewN ?_ _)))⟩

set_option maxHeartbeats 1000000 in
theorem divide_neg (z d Q R : Int) (w : World) (h0 : z < 0) (h1 : -170141183460469231731687303715884105728 < z) (hd : 1 ≤ d) (hd1 : d ≤ 18446744073709551615) (eQ : Hid (-((-z) / d) = Q)) (eR : Hid ((-z) % d = R)) :
    Calls Try.prog 130 #[.agg #[.int .u64 (whi z), .int .u64 (wlo z)], .int .u64 d] w fun e w' => e = .returned (.tuple #[.agg #[.int .u64 (whi Q), .int .u64 (wlo Q)], .int .u64 R]) ∧ Below w.heap.size w w' := by
  have zs : z.sign < 0 := Int.sign_neg_iff.2 h0
  have HD : Hid (∀ w, Calls Try.prog 130 #[.agg #[.int .u64 (whi (-z)), .int .u64 (wlo (-z))], .int .u64 d] w fun e w' => e = .returned (.tuple #[.agg #[.int .u64 (whi ((-z) / d)), .int .u64 (wlo ((-z) / d))], .int .u64 R]) ∧ Below w.heap.size w w') := by
    intro w
    exact divide_pos (-z) d _ R w (by omega) (by omega) hd hd1 rfl eR
  generalize (-z) / d = U at *
  have HO : Hid (∀ w, Calls Try.prog 78 #[.agg #[.int .u64 (whi U), .int .u64 (wlo U)]] w fun e w' => e = .returned (.agg #[.int .u64 (whi Q), .int .u64 (wlo Q)]) ∧ Below w.heap.size w w') := by
    intro w; have := opposite_any U w; rw [eQ.out] at this; exact this
  go_enter Try.func130, Try.ntmps130
  go_wp2_with (first
    | (go_at_call 106; refine (sign_any z (by omega) (by omega) _).mono ?_; rintro e w1 ⟨rfl, hb⟩; obtain ⟨hc, hf⟩ := bcell hb; (try simp only [World.heap_drewN] at hc hf); (try simp only [heap_drew] at hc hf); have hz := hb.size; (try simp at hz); try (have hz0 : w.heap.size < w1.heap.size := by omega); try (have hz1 : w.heap.size + 1 < w1.heap.size := by omega); try (have hz2 : w.heap.size + 1 + 1 < w1.heap.size := by omega); try (have hz3 : w.heap.size + 1 + 1 + 1 < w1.heap.size := by omega); try (have hz4 : w.heap.size + 1 + 1 + 1 + 1 < w1.heap.size := by omega); try (have hz5 : w.heap.size + 1 + 1 + 1 + 1 + 1 < w1.heap.size := by omega))
    | (go_at_call 130; refine (HD.out _).mono ?_; rintro e w1 ⟨rfl, hb⟩; obtain ⟨hc, hf⟩ := bcell hb; (try simp only [World.heap_drewN] at hc hf); (try simp only [heap_drew] at hc hf); have hz := hb.size; (try simp at hz); try (have hz0 : w.heap.size < w1.heap.size := by omega); try (have hz1 : w.heap.size + 1 < w1.heap.size := by omega); try (have hz2 : w.heap.size + 1 + 1 < w1.heap.size := by omega); try (have hz3 : w.heap.size + 1 + 1 + 1 < w1.heap.size := by omega); try (have hz4 : w.heap.size + 1 + 1 + 1 + 1 < w1.heap.size := by omega); try (have hz5 : w.heap.size + 1 + 1 + 1 + 1 + 1 < w1.heap.size := by omega))
    | (go_at_call 78; (with_reducible refine (opposite_any z _).mono ?_); rintro e w1 ⟨rfl, hb⟩; obtain ⟨hc, hf⟩ := bcell hb; (try simp only [World.heap_drewN] at hc hf); (try simp only [heap_drew] at hc hf); have hz := hb.size; (try simp at hz); try (have hz0 : w.heap.size < w1.heap.size := by omega); try (have hz1 : w.heap.size + 1 < w1.heap.size := by omega); try (have hz2 : w.heap.size + 1 + 1 < w1.heap.size := by omega); try (have hz3 : w.heap.size + 1 + 1 + 1 < w1.heap.size := by omega); try (have hz4 : w.heap.size + 1 + 1 + 1 + 1 < w1.heap.size := by omega); try (have hz5 : w.heap.size + 1 + 1 + 1 + 1 + 1 < w1.heap.size := by omega))
    | (go_at_call 78; (with_reducible refine (HO.out _).mono ?_); rintro e w1 ⟨rfl, hb⟩; obtain ⟨hc, hf⟩ := bcell hb; (try simp only [World.heap_drewN] at hc hf); (try simp only [heap_drew] at hc hf); have hz := hb.size; (try simp at hz); try (have hz0 : w.heap.size < w1.heap.size := by omega); try (have hz1 : w.heap.size + 1 < w1.heap.size := by omega); try (have hz2 : w.heap.size + 1 + 1 < w1.heap.size := by omega); try (have hz3 : w.heap.size + 1 + 1 + 1 < w1.heap.size := by omega); try (have hz4 : w.heap.size + 1 + 1 + 1 + 1 < w1.heap.size := by omega); try (have hz5 : w.heap.size + 1 + 1 + 1 + 1 + 1 < w1.heap.size := by omega)))
  exact bodyPost_ret (v := .tuple #[.agg #[.int .u64 (whi Q), .int .u64 (wlo Q)], .int .u64 R]) (by simp only [results, Try.results130]; go_simp) rfl ⟨rfl, by (repeat' (first | (with_reducible exact Below.refl _ _) | (with_reducible assumption) | (with_reducible refine belowThru ?_ (by assumption)) | (with_reducible refine belowAlloc ?_) | (with_reducible refine Below.setCell ?_ (by first | omega | (simp; done) | (simp; omega)) _) | (with_reducible refine Below.drew ?_) | (with_reducible refine below_drewN ?_ _)))⟩

/-- The quotient without its fraction, and the size of the rest. -/
theorem divide_any (z d : Int) (w : World) (h0 : -170141183460469231731687303715884105728 < z) (h1 : z < 170141183460469231731687303715884105728) (hd : 1 ≤ d) (hd1 : d ≤ 18446744073709551615) :
    Calls Try.prog 130 #[.agg #[.int .u64 (whi z), .int .u64 (wlo z)], .int .u64 d] w fun e w' => e = .returned (.tuple #[.agg #[.int .u64 (whi (z.tdiv d)), .int .u64 (wlo (z.tdiv d))], .int .u64 ((z.natAbs : Int) % d)]) ∧ Below w.heap.size w w' := by
  rcases (show z < 0 ∨ 0 ≤ z by omega) with h | h
  · exact divide_neg z d _ _ w h h0 hd hd1 (tdiv_neg z d h).symm (by show _ = _; rw [show ((z.natAbs : Int)) = -z by omega])
  · exact divide_pos z d _ _ w h h1 hd hd1 (Int.tdiv_eq_ediv_of_nonneg h).symm (by show _ = _; rw [show ((z.natAbs : Int)) = z by omega])
end Go.Proofs.Ytdimmnoflenfhaa
/-
  Layer 1: parts of fractions, greatest common divisors, valid fractions.
-/
namespace Go.Proofs.Ytdimmnoflenfhaa
open Go.RowKit

set_option maxHeartbeats 1000000 in
theorem part_ok0 (z : Int) (w : World) (h0 : 0 ≤ z) (h1 : z ≤ 4611686018427387903) :
    Calls Try.prog 103 #[.agg #[.int .u64 (whi z), .int .u64 (wlo z)]] w fun e w' => e = .returned (.tuple #[.int .i64 z, .bool true]) ∧ Below w.heap.size w w' := by
  have zs : ¬ z.sign < 0 := by intro h; have := Int.sign_neg_iff.1 h; omega
  have e1 := whi_of z h0 (by omega)
  have e2 := wlo_of z h0 (by omega)
  have HS : Hid (∀ w, Calls Try.prog 106 #[.agg #[.int .u64 0, .int .u64 z]] w fun e w' => e = .returned (.int .i64 z.sign) ∧ Below w.heap.size w w') := by
    intro w; have := sign_any z (by omega) (by omega) w; rw [e1, e2] at this; exact this
  rw [e1, e2]
  clear e1 e2
  go_enter Try.func103, Try.ntmps103
  go_wp2_with (go_at_call 106; (with_reducible refine (HS.out _).mono ?_); rintro e w1 ⟨rfl, hb⟩; obtain ⟨hc, hf⟩ := bcell hb; (try simp only [World.heap_drewN] at hc hf); (try simp only [heap_drew] at hc hf); have hz := hb.size; (try simp at hz); try (have hz0 : w.heap.size < w1.heap.size := by omega); try (have hz1 : w.heap.size + 1 < w1.heap.size := by omega); try (have hz2 : w.heap.size + 1 + 1 < w1.heap.size := by omega); try (have hz3 : w.heap.size + 1 + 1 + 1 < w1.heap.size := by omega); try (have hz4 : w.heap.size + 1 + 1 + 1 + 1 < w1.heap.size := by omega); try (have hz5 : w.heap.size + 1 + 1 + 1 + 1 + 1 < w1.heap.size := by omega))
  go_ret2
  exact ⟨rfl, by (repeat' (first | (with_reducible exact Below.refl _ _) | (with_reducible assumption) | (with_reducible refine belowThru ?_ (by assumption)) | (with_reducible refine belowAlloc ?_) | (with_reducible refine Below.setCell ?_ (by first | omega | (simp; done) | (simp; omega)) _) | (with_reducible refine Below.drew ?_) | (with_reducible refine below_drewN ?_ _)))⟩

set_option maxHeartbeats 1000000 in
theorem part_neg (z m r : Int) (b : Bool) (w : World) (h0 : z < 0) (h1 : -170141183460469231731687303715884105728 < z) (em : Hid (-z = m))
    (hm : Hid (∀ w, Calls Try.prog 103 #[.agg #[.int .u64 (whi m), .int .u64 (wlo m)]] w fun e w' => e = .returned (.tuple #[.int .i64 r, .bool b]) ∧ Below w.heap.size w w')) (r0 : 0 ≤ r) (r1 : r ≤ 4611686018427387903) :
    Calls Try.prog 103 #[.agg #[.int .u64 (whi z), .int .u64 (wlo z)]] w fun e w' => e = .returned (.tuple #[.int .i64 (-r), .bool b]) ∧ Below w.heap.size w w' := by
  have zs : z.sign < 0 := Int.sign_neg_iff.2 h0
  have HO : Hid (∀ w, Calls Try.prog 78 #[.agg #[.int .u64 (whi z), .int .u64 (wlo z)]] w fun e w' => e = .returned (.agg #[.int .u64 (whi m), .int .u64 (wlo m)]) ∧ Below w.heap.size w w') := by
    intro w; have := opposite_any z w; rw [em.out] at this; exact this
  go_enter Try.func103, Try.ntmps103
  go_wp2_with (first
    | (go_at_call 106; (with_reducible refine (sign_any z (by omega) (by omega) _).mono ?_); rintro e w1 ⟨rfl, hb⟩; obtain ⟨hc, hf⟩ := bcell hb; (try simp only [World.heap_drewN] at hc hf); (try simp only [heap_drew] at hc hf); have hz := hb.size; (try simp at hz); try (have hz0 : w.heap.size < w1.heap.size := by omega); try (have hz1 : w.heap.size + 1 < w1.heap.size := by omega); try (have hz2 : w.heap.size + 1 + 1 < w1.heap.size := by omega); try (have hz3 : w.heap.size + 1 + 1 + 1 < w1.heap.size := by omega); try (have hz4 : w.heap.size + 1 + 1 + 1 + 1 < w1.heap.size := by omega); try (have hz5 : w.heap.size + 1 + 1 + 1 + 1 + 1 < w1.heap.size := by omega))
    | (go_at_call 78; (with_reducible refine (HO.out _).mono ?_); rintro e w1 ⟨rfl, hb⟩; obtain ⟨hc, hf⟩ := bcell hb; (try simp only [World.heap_drewN] at hc hf); (try simp only [heap_drew] at hc hf); have hz := hb.size; (try simp at hz); try (have hz0 : w.heap.size < w1.heap.size := by omega); try (have hz1 : w.heap.size + 1 < w1.heap.size := by omega); try (have hz2 : w.heap.size + 1 + 1 < w1.heap.size := by omega); try (have hz3 : w.heap.size + 1 + 1 + 1 < w1.heap.size := by omega); try (have hz4 : w.heap.size + 1 + 1 + 1 + 1 < w1.heap.size := by omega); try (have hz5 : w.heap.size + 1 + 1 + 1 + 1 + 1 < w1.heap.size := by omega))
    | (go_at_call 103; (with_reducible refine (hm.out _).mono ?_); rintro e w1 ⟨rfl, hb⟩; obtain ⟨hc, hf⟩ := bcell hb; (try simp only [World.heap_drewN] at hc hf); (try simp only [heap_drew] at hc hf); have hz := hb.size; (try simp at hz); try (have hz0 : w.heap.size < w1.heap.size := by omega); try (have hz1 : w.heap.size + 1 < w1.heap.size := by omega); try (have hz2 : w.heap.size + 1 + 1 < w1.heap.size := by omega); try (have hz3 : w.heap.size + 1 + 1 + 1 < w1.heap.size := by omega); try (have hz4 : w.heap.size + 1 + 1 + 1 + 1 < w1.heap.size := by omega); try (have hz5 : w.heap.size + 1 + 1 + 1 + 1 + 1 < w1.heap.size := by omega)))
  go_ret2
  exact ⟨rfl, by (repeat' (first | (with_reducible exact Below.refl _ _) | (with_reducible assumption) | (with_reducible refine belowThru ?_ (by assumption)) | (with_reducible refine belowAlloc ?_) | (with_reducible refine Below.setCell ?_ (by first | omega | (simp; done) | (simp; omega)) _) | (with_reducible refine Below.drew ?_) | (with_reducible refine below_drewN ?_ _)))⟩

set_option maxHeartbeats 1000000 in
theorem part_no0 (z : Int) (w : World) (h0 : 4611686018427387903 < z) (h1 : z < 170141183460469231731687303715884105728) :
    Calls Try.prog 103 #[.agg #[.int .u64 (whi z), .int .u64 (wlo z)]] w fun e w' => e = .returned (.tuple #[.int .i64 0, .bool false]) ∧ Below w.heap.size w w' := by
  have zs : ¬ z.sign < 0 := by intro h; have := Int.sign_neg_iff.1 h; omega
  have hz := pos_whi z (by omega) h1
  have b0 := wlo_lo z; have b1 := wlo_hi z; have a0 := whi_lo z
  by_cases h : whi z = 0
  · have hl : 4611686018427387903 < wlo z := by omega
    have hd : (whi z != 0) = false := by simpa using h
    clear hz h
    go_enter Try.func103, Try.ntmps103
    go_wp2_with (go_at_call 106; (with_reducible refine (sign_any z (by omega) (by omega) _).mono ?_); rintro e w1 ⟨rfl, hb⟩; obtain ⟨hc, hf⟩ := bcell hb; (try simp only [World.heap_drewN] at hc hf); (try simp only [heap_drew] at hc hf); have hz := hb.size; (try simp at hz); try (have hz0 : w.heap.size < w1.heap.size := by omega); try (have hz1 : w.heap.size + 1 < w1.heap.size := by omega); try (have hz2 : w.heap.size + 1 + 1 < w1.heap.size := by omega); try (have hz3 : w.heap.size + 1 + 1 + 1 < w1.heap.size := by omega); try (have hz4 : w.heap.size + 1 + 1 + 1 + 1 < w1.heap.size := by omega); try (have hz5 : w.heap.size + 1 + 1 + 1 + 1 + 1 < w1.heap.size := by omega))
    go_ret2
    exact ⟨rfl, by (repeat' (first | (with_reducible exact Below.refl _ _) | (with_reducible assumption) | (with_reducible refine belowThru ?_ (by assumption)) | (with_reducible refine belowAlloc ?_) | (with_reducible refine Below.setCell ?_ (by first | omega | (simp; done) | (simp; omega)) _) | (with_reducible refine Below.drew ?_) | (with_reducible refine below_drewN ?_ _)))⟩
  · have hd : (whi z != 0) = true := by simpa using h
    clear hz h
    go_enter Try.func103, Try.ntmps103
    go_wp2_with (go_at_call 106; (with_reducible refine (sign_any z (by omega) (by omega) _).mono ?_); rintro e w1 ⟨rfl, hb⟩; obtain ⟨hc, hf⟩ := bcell hb; (try simp only [World.heap_drewN] at hc hf); (try simp only [heap_drew] at hc hf); have hz := hb.size; (try simp at hz); try (have hz0 : w.heap.size < w1.heap.size := by omega); try (have hz1 : w.heap.size + 1 < w1.heap.size := by omega); try (have hz2 : w.heap.size + 1 + 1 < w1.heap.size := by omega); try (have hz3 : w.heap.size + 1 + 1 + 1 < w1.heap.size := by omega); try (have hz4 : w.heap.size + 1 + 1 + 1 + 1 < w1.heap.size := by omega); try (have hz5 : w.heap.size + 1 + 1 + 1 + 1 + 1 < w1.heap.size := by omega))
    go_ret2
    exact ⟨rfl, by (repeat' (first | (with_reducible exact Below.refl _ _) | (with_reducible assumption) | (with_reducible refine belowThru ?_ (by assumption)) | (with_reducible refine belowAlloc ?_) | (with_reducible refine Below.setCell ?_ (by first | omega | (simp; done) | (simp; omega)) _) | (with_reducible refine Below.drew ?_) | (with_reducible refine below_drewN ?_ _)))⟩

theorem part_ok (z : Int) (w : World) (h0 : -4611686018427387903 ≤ z) (h1 : z ≤ 4611686018427387903) :
    Calls Try.prog 103 #[.agg #[.int .u64 (whi z), .int .u64 (wlo z)]] w fun e w' => e = .returned (.tuple #[.int .i64 z, .bool true]) ∧ Below w.heap.size w w' := by
  rcases (show z < 0 ∨ 0 ≤ z by omega) with h | h
  · have := part_neg z (-z) (-z) true w h (by omega) rfl (fun w => part_ok0 (-z) w (by omega) (by omega)) (by omega) (by omega)
    rw [Int.neg_neg] at this; exact this
  · exact part_ok0 z w h h1
theorem part_no (z : Int) (w : World) (h : z < -4611686018427387903 ∨ 4611686018427387903 < z) (h0 : -170141183460469231731687303715884105728 < z) (h1 : z < 170141183460469231731687303715884105728) :
    Calls Try.prog 103 #[.agg #[.int .u64 (whi z), .int .u64 (wlo z)]] w fun e w' => e = .returned (.tuple #[.int .i64 0, .bool false]) ∧ Below w.heap.size w w' := by
  rcases h with h | h
  · exact part_neg z (-z) 0 false w (by omega) h0 rfl (fun w => part_no0 (-z) w (by omega) (by omega)) (by omega) (by omega)
  · exact part_no0 z w h h1

set_option maxHeartbeats 1000000 in
theorem divisor_any (x y : Int) (hx0 : 0 ≤ x) (hx1 : x ≤ 18446744073709551615) (hy0 : 0 ≤ y) (hy1 : y ≤ 18446744073709551615) (w : World) :
    Calls Try.prog 76 #[.int .u64 x, .int .u64 y] w fun e w' => e = .returned (.int .u64 (gcdI x y)) ∧ ∃ n, w' = w.drewN n := by
  go_enter Try.func76, Try.ntmps76
  go_wp2
  go_loopw [0, 1] (fun p q wr => ∃ a b : Int, p = .int .u64 a ∧ q = .int .u64 b ∧ 0 ≤ a ∧ a ≤ 18446744073709551615 ∧ 0 ≤ b ∧ b ≤ 18446744073709551615 ∧ Hid (gcdI a b = gcdI x y) ∧ ∃ n, wr = w.drewN n) (fun _ q _ => (intOf q).toNat)
  case atStart => exact ⟨x, y, rfl, rfl, hx0, hx1, hy0, hy1, rfl, 0, rfl⟩
  case round =>
    obtain ⟨a, b, rfl, rfl, a0, a1, b0, b1, hg, n, rfl⟩ := hrel
    by_cases hb : b = 0
    · subst hb
      go_wp2
      go_ret
      have := hg.out
      rw [gcdI_zero a a0] at this
      exact ⟨by rw [← this]; rfl, n, rfl⟩
    · have hd : (b != 0) = true := by simpa using hb
      have hp : 1 ≤ b := by omega
      have m0 : 0 ≤ a % b := Int.emod_nonneg _ (by omega)
      have m1 : a % b < b := Int.emod_lt_of_pos _ (by omega)
      clear hb
      go_wp2
      go_quiet (fail)
      go_wp2
      go_roundw
      case rel => exact ⟨b, a % b, rfl, rfl, b0, b1, m0, by omega, by show _ = _; rw [gcdI_step a b a0 (by omega)]; exact hg.out, n + nq, by rw [World.drewN_drewN]⟩
      case measure => simp [intOf]; omega
end Go.Proofs.Ytdimmnoflenfhaa
/-
  Layer 1: fractions of wide numbers, valid fractions, order.
-/
namespace Go.Proofs.Ytdimmnoflenfhaa
open Go.RowKit

set_option maxHeartbeats 1000000 in
theorem fraction_ok (t b : Int) (w : World) (h0 : -4611686018427387903 ≤ t) (h1 : t ≤ 4611686018427387903) (k0 : -4611686018427387903 ≤ b) (k1 : b ≤ 4611686018427387903) :
    Calls Try.prog 79 #[.agg #[.int .u64 (whi t), .int .u64 (wlo t)], .agg #[.int .u64 (whi b), .int .u64 (wlo b)]] w fun e w' => e = .returned (.tuple #[.agg #[.int .i64 t, .int .i64 b], .int .i64 0]) ∧ Below w.heap.size w w' := by
  go_enter Try.func79, Try.ntmps79
  go_wp2_with (first
    | (go_at_call 103; (with_reducible refine (part_ok t _ h0 h1).mono ?_); rintro e w1 ⟨rfl, hb⟩; obtain ⟨hc, hf⟩ := bcell hb; (try simp only [World.heap_drewN] at hc hf); (try simp only [heap_drew] at hc hf); have hz := hb.size; (try simp at hz); try (have hz0 : w.heap.size < w1.heap.size := by omega); try (have hz1 : w.heap.size + 1 < w1.heap.size := by omega); try (have hz2 : w.heap.size + 1 + 1 < w1.heap.size := by omega); try (have hz3 : w.heap.size + 1 + 1 + 1 < w1.heap.size := by omega); try (have hz4 : w.heap.size + 1 + 1 + 1 + 1 < w1.heap.size := by omega); try (have hz5 : w.heap.size + 1 + 1 + 1 + 1 + 1 < w1.heap.size := by omega))
    | (go_at_call 103; (with_reducible refine (part_ok b _ k0 k1).mono ?_); rintro e w1 ⟨rfl, hb⟩; obtain ⟨hc, hf⟩ := bcell hb; (try simp only [World.heap_drewN] at hc hf); (try simp only [heap_drew] at hc hf); have hz := hb.size; (try simp at hz); try (have hz0 : w.heap.size < w1.heap.size := by omega); try (have hz1 : w.heap.size + 1 < w1.heap.size := by omega); try (have hz2 : w.heap.size + 1 + 1 < w1.heap.size := by omega); try (have hz3 : w.heap.size + 1 + 1 + 1 < w1.heap.size := by omega); try (have hz4 : w.heap.size + 1 + 1 + 1 + 1 < w1.heap.size := by omega); try (have hz5 : w.heap.size + 1 + 1 + 1 + 1 + 1 < w1.heap.size := by omega)))
  exact bodyPost_ret (v := .tuple #[.agg #[.int .i64 t, .int .i64 b], .int .i64 0]) (by simp only [results, Try.results79]; go_simp) rfl ⟨rfl, by (repeat' (first | (with_reducible exact Below.refl _ _) | (with_reducible assumption) | (with_reducible refine belowThru ?_ (by assumption)) | (with_reducible refine belowAlloc ?_) | (with_reducible refine Below.setCell ?_ (by first | omega | (simp; done) | (simp; omega)) _) | (with_reducible refine Below.drew ?_) | (with_reducible refine below_drewN ?_ _)))⟩

set_option maxHeartbeats 1000000 in
theorem fraction_no (t b x y : Int) (p q : Bool) (w : World)
    (HT : Hid (∀ w, Calls Try.prog 103 #[.agg #[.int .u64 (whi t), .int .u64 (wlo t)]] w fun e w' => e = .returned (.tuple #[.int .i64 x, .bool p]) ∧ Below w.heap.size w w'))
    (HB : Hid (∀ w, Calls Try.prog 103 #[.agg #[.int .u64 (whi b), .int .u64 (wlo b)]] w fun e w' => e = .returned (.tuple #[.int .i64 y, .bool q]) ∧ Below w.heap.size w w'))
    (hpq : (p && q) = false) :
    Calls Try.prog 79 #[.agg #[.int .u64 (whi t), .int .u64 (wlo t)], .agg #[.int .u64 (whi b), .int .u64 (wlo b)]] w fun e w' => e = .returned (.tuple #[.agg #[.int .i64 0, .int .i64 0], .int .i64 4]) ∧ Below w.heap.size w w' := by
  cases p <;> cases q <;> first
    | (exfalso; revert hpq; decide)
    | (clear hpq
       go_enter Try.func79, Try.ntmps79
       go_wp2_with (first
         | (go_at_call 103; (with_reducible refine (HT.out _).mono ?_); rintro e w1 ⟨rfl, hb⟩; obtain ⟨hc, hf⟩ := bcell hb; (try simp only [World.heap_drewN] at hc hf); (try simp only [heap_drew] at hc hf); have hz := hb.size; (try simp at hz); try (have hz0 : w.heap.size < w1.heap.size := by omega); try (have hz1 : w.heap.size + 1 < w1.heap.size := by omega); try (have hz2 : w.heap.size + 1 + 1 < w1.heap.size := by omega); try (have hz3 : w.heap.size + 1 + 1 + 1 < w1.heap.size := by omega); try (have hz4 : w.heap.size + 1 + 1 + 1 + 1 < w1.heap.size := by omega); try (have hz5 : w.heap.size + 1 + 1 + 1 + 1 + 1 < w1.heap.size := by omega))
         | (go_at_call 103; (with_reducible refine (HB.out _).mono ?_); rintro e w1 ⟨rfl, hb⟩; obtain ⟨hc, hf⟩ := bcell hb; (try simp only [World.heap_drewN] at hc hf); (try simp only [heap_drew] at hc hf); have hz := hb.size; (try simp at hz); try (have hz0 : w.heap.size < w1.heap.size := by omega); try (have hz1 : w.heap.size + 1 < w1.heap.size := by omega); try (have hz2 : w.heap.size + 1 + 1 < w1.heap.size := by omega); try (have hz3 : w.heap.size + 1 + 1 + 1 < w1.heap.size := by omega); try (have hz4 : w.heap.size + 1 + 1 + 1 + 1 < w1.heap.size := by omega); try (have hz5 : w.heap.size + 1 + 1 + 1 + 1 + 1 < w1.heap.size := by omega)))
       exact bodyPost_ret (v := .tuple #[.agg #[.int .i64 0, .int .i64 0], .int .i64 4]) (by simp only [results, Try.results79]; go_simp) rfl ⟨rfl, by (repeat' (first | (with_reducible exact Below.refl _ _) | (with_reducible assumption) | (with_reducible refine belowThru ?_ (by assumption)) | (with_reducible refine belowAlloc ?_) | (with_reducible refine Below.setCell ?_ (by first | omega | (simp; done) | (simp; omega)) _) | (with_reducible refine Below.drew ?_) | (with_reducible refine below_drewN ?_ _)))⟩)

/-- The fraction of a top and a bottom, if both are parts. -/
def fr (t b z : Int) : Int := if (-4611686018427387903 ≤ t ∧ t ≤ 4611686018427387903) ∧ -4611686018427387903 ≤ b ∧ b ≤ 4611686018427387903 then z else 0
theorem fraction_any (t b : Int) (w : World) (h0 : -170141183460469231731687303715884105728 < t) (h1 : t < 170141183460469231731687303715884105728) (k0 : -170141183460469231731687303715884105728 < b) (k1 : b < 170141183460469231731687303715884105728) :
    Calls Try.prog 79 #[.agg #[.int .u64 (whi t), .int .u64 (wlo t)], .agg #[.int .u64 (whi b), .int .u64 (wlo b)]] w fun e w' => e = .returned (.tuple #[.agg #[.int .i64 (fr t b t), .int .i64 (fr t b b)], .int .i64 (4 - fr t b 4)]) ∧ Below w.heap.size w w' := by
  unfold fr
  by_cases ht : -4611686018427387903 ≤ t ∧ t ≤ 4611686018427387903 <;> by_cases hb : -4611686018427387903 ≤ b ∧ b ≤ 4611686018427387903
  · rw [if_pos ⟨ht, hb⟩, if_pos ⟨ht, hb⟩, if_pos ⟨ht, hb⟩]; exact fraction_ok t b w ht.1 ht.2 hb.1 hb.2
  · rw [if_neg (fun h => hb h.2), if_neg (fun h => hb h.2), if_neg (fun h => hb h.2)]
    exact fraction_no t b _ _ true false w (fun w => part_ok t w ht.1 ht.2) (fun w => part_no b w (by omega) k0 k1) rfl
  · rw [if_neg (fun h => ht h.1), if_neg (fun h => ht h.1), if_neg (fun h => ht h.1)]
    exact fraction_no t b _ _ false true w (fun w => part_no t w (by omega) h0 h1) (fun w => part_ok b w hb.1 hb.2) rfl
  · rw [if_neg (fun h => ht h.1), if_neg (fun h => ht h.1), if_neg (fun h => ht h.1)]
    exact fraction_no t b _ _ false false w (fun w => part_no t w (by omega) h0 h1) (fun w => part_no b w (by omega) k0 k1) rfl
/-- At the parts of a rational number: what a call returns for it. -/
theorem fraction_q (x : Rat) (t b : Int) (ht : t = fn x) (hb : b = fd x) (w : World) (h0 : -170141183460469231731687303715884105728 < t) (h1 : t < 170141183460469231731687303715884105728) (k1 : b < 170141183460469231731687303715884105728) :
    Calls Try.prog 79 #[.agg #[.int .u64 (whi t), .int .u64 (wlo t)], .agg #[.int .u64 (whi b), .int .u64 (wlo b)]] w fun e w' => e = .returned (.tuple #[.agg #[.int .i64 (rn x), .int .i64 (rd x)], .int .i64 (re x)]) ∧ Below w.heap.size w w' := by
  have := fd_pos x
  have key := fraction_any t b w h0 h1 (by omega) k1
  have e : ∀ z, fr t b z = if fits x then z else 0 := by
    intro z; unfold fr; rw [ht, hb]
    by_cases h : fits x
    · rw [if_pos h, if_pos (by have k := h; unfold fits at k; omega)]
    · rw [if_neg h, if_neg (fun k => h ⟨by omega, by omega, by omega⟩)]
  rw [e, e, e] at key
  unfold rn rd re
  by_cases h : fits x
  · rw [if_pos h, if_pos h, if_pos h] at key ⊢; rw [← ht, ← hb]; exact key
  · rw [if_neg h, if_neg h, if_neg h] at key ⊢; exact key

set_option maxHeartbeats 1000000 in
theorem check_in (a b g c : Int) (w : World) (h1 : 1 ≤ b) (h2 : b ≤ 4611686018427387903) (h3 : -4611686018427387903 ≤ a) (h4 : a ≤ 4611686018427387903) (hg : Hid (gcdI (mag a) b = g)) (hc : Hid (c = if g = 1 then 0 else 8)) :
    Calls Try.prog 104 #[.agg #[.int .i64 a, .int .i64 b]] w fun e w' => e = .returned (.int .i64 c) ∧ Below w.heap.size w w' := by
  have m0 := mag_lo a; have m1 := mag_le a (by omega) (by omega)
  have HB : Hid (∀ w, Calls Try.prog 77 #[.int .i64 b] w fun e w' => e = .returned (.int .u64 b) ∧ w' = w) := by
    intro w; have := size_any b (by omega) (by omega) w; rw [mag_pos b (by omega)] at this; exact this.mono fun _ _ ⟨h, k⟩ => ⟨h, k.symm⟩
  have HA : Hid (∀ w, Calls Try.prog 77 #[.int .i64 a] w fun e w' => e = .returned (.int .u64 (mag a)) ∧ w' = w) := by
    intro w; exact (size_any a (by omega) (by omega) w).mono fun _ _ ⟨h, k⟩ => ⟨h, k.symm⟩
  have HG : Hid (∀ w, Calls Try.prog 76 #[.int .u64 (mag a), .int .u64 b] w fun e w' => e = .returned (.int .u64 g) ∧ ∃ n, w' = w.drewN n) := by
    intro w; have := divisor_any (mag a) b (by omega) (by omega) (by omega) (by omega) w; rw [hg.out] at this; exact this
  rcases (show g = 1 ∨ g ≠ 1 by omega) with h | h
  · have hcc := hc.out
    rw [if_pos h] at hcc
    subst hcc
    have hd : (g != 1) = false := by simpa using h
    clear h hc
    go_enter Try.func104, Try.ntmps104
    go_wp2
    go_quiet ((first
      | (go_at_call 77; (with_reducible refine Calls.quiet_of_same (HA.out _)))
      | (go_at_call 77; (with_reducible refine Calls.quiet_of_same (HB.out _)))
      | (go_at_call 76; (with_reducible refine Calls.quiet_of (HG.out _)))))
    go_wp2
    go_ret
    exact ⟨rfl, by (repeat' (first | (with_reducible exact Below.refl _ _) | (with_reducible assumption) | (with_reducible refine belowThru ?_ (by assumption)) | (with_reducible refine belowAlloc ?_) | (with_reducible refine Below.setCell ?_ (by first | omega | (simp; done) | (simp; omega)) _) | (with_reducible refine Below.drew ?_) | (with_reducible refine below_drewN ?_ _)))⟩
  · have hcc := hc.out
    rw [if_neg h] at hcc
    subst hcc
    have hd : (g != 1) = true := by simpa using h
    clear h hc
    go_enter Try.func104, Try.ntmps104
    go_wp2
    go_quiet ((first
      | (go_at_call 77; (with_reducible refine Calls.quiet_of_same (HA.out _)))
      | (go_at_call 77; (with_reducible refine Calls.quiet_of_same (HB.out _)))
      | (go_at_call 76; (with_reducible refine Calls.quiet_of (HG.out _)))))
    go_wp2
    go_ret
    exact ⟨rfl, by (repeat' (first | (with_reducible exact Below.refl _ _) | (with_reducible assumption) | (with_reducible refine belowThru ?_ (by assumption)) | (with_reducible refine belowAlloc ?_) | (with_reducible refine Below.setCell ?_ (by first | omega | (simp; done) | (simp; omega)) _) | (with_reducible refine Below.drew ?_) | (with_reducible refine below_drewN ?_ _)))⟩

set_option maxHeartbeats 1000000 in
theorem check_out (a b : Int) (w : World) (h : b < 1 ∨ 4611686018427387903 < b ∨ a < -4611686018427387903 ∨ 4611686018427387903 < a) :
    Calls Try.prog 104 #[.agg #[.int .i64 a, .int .i64 b]] w fun e w' => e = .returned (.int .i64 8) ∧ Below w.heap.size w w' := by
  by_cases h1 : b < 1 <;> by_cases h2 : 4611686018427387903 < b <;> by_cases h3 : a < -4611686018427387903 <;> by_cases h4 : 4611686018427387903 < a <;> first
    | (exfalso; omega)
    | (clear h
       go_enter Try.func104, Try.ntmps104
       go_wp2
       go_ret
       exact ⟨rfl, by (repeat' (first | (with_reducible exact Below.refl _ _) | (with_reducible assumption) | (with_reducible refine belowThru ?_ (by assumption)) | (with_reducible refine belowAlloc ?_) | (with_reducible refine Below.setCell ?_ (by first | omega | (simp; done) | (simp; omega)) _) | (with_reducible refine Below.drew ?_) | (with_reducible refine below_drewN ?_ _)))⟩)

/-- 0, or the error of a fraction that is not valid. -/
def ck (a b : Int) : Int := if okF a b then 0 else 8
theorem check_any (a b : Int) (w : World) :
    Calls Try.prog 104 #[.agg #[.int .i64 a, .int .i64 b]] w fun e w' => e = .returned (.int .i64 (ck a b)) ∧ Below w.heap.size w w' := by
  by_cases h : b < 1 ∨ 4611686018427387903 < b ∨ a < -4611686018427387903 ∨ 4611686018427387903 < a
  · have : ck a b = 8 := if_neg (by rintro ⟨h1, h2, h3, h4, -⟩; omega)
    rw [this]; exact check_out a b w h
  · refine check_in a b _ _ w (by omega) (by omega) (by omega) (by omega) rfl ?_
    show ck a b = _
    have e : gcdI (mag a) b = gcdI a b := by
      unfold gcdI; rw [mag_natAbs, Int.gcd_eq_natAbs_gcd_natAbs, Int.gcd_eq_natAbs_gcd_natAbs, Int.natAbs_natCast]
    rw [e]
    unfold ck
    by_cases k : gcdI a b = 1
    · rw [if_pos k, if_pos (show okF a b from ⟨by omega, by omega, by omega, by omega, k⟩)]
    · rw [if_neg k, if_neg (fun x : okF a b => k x.2.2.2.2)]
end Go.Proofs.Ytdimmnoflenfhaa
/-
  Layer 1: order, sums, differences, products and quotients of valid fractions.
-/
namespace Go.Proofs.Ytdimmnoflenfhaa
open Go.RowKit

theorem prod_bound (q r : Rat) (hq : fits q) (hr : fits r) : -21267647932558653957237540927630737409 ≤ fn q * fd r ∧ fn q * fd r ≤ 21267647932558653957237540927630737409 := by
  have fq := hq; have fr' := hr; unfold fits at fq fr'; obtain ⟨q1, q2, q3⟩ := fq; obtain ⟨r1, r2, r3⟩ := fr'; have q4 := fd_pos q; have r4 := fd_pos r
  have := mul_bound (fn q) (fd r) 4611686018427387903 4611686018427387903 ⟨q1, q2⟩ ⟨by omega, r3⟩ (by omega) (by omega)
  omega

set_option maxHeartbeats 1000000 in
theorem order_q (q r : Rat) (hq : fits q) (hr : fits r) (w : World) :
    Calls Try.prog 81 #[.agg #[.int .i64 (fn q), .int .i64 (fd q)], .agg #[.int .i64 (fn r), .int .i64 (fd r)]] w fun e w' => e = .returned (.int .i64 (ordQ q r)) ∧ Below w.heap.size w w' := by
  have b1 := prod_bound q r hq hr
  have b2 := prod_bound r q hr hq
  have fq := hq; have fr' := hr; unfold fits at fq fr'; obtain ⟨q1, q2, q3⟩ := fq; obtain ⟨r1, r2, r3⟩ := fr'; have q4 := fd_pos q; have r4 := fd_pos r
  have e : Hid ((fn q * fd r - fn r * fd q).sign = ordQ q r) := rfl
  have HS : Hid (∀ w, Calls Try.prog 106 #[.agg #[.int .u64 (whi (fn q * fd r - fn r * fd q)), .int .u64 (wlo (fn q * fd r - fn r * fd q))]] w fun e w' => e = .returned (.int .i64 (ordQ q r)) ∧ Below w.heap.size w w') := by
    intro w; have := sign_any (fn q * fd r - fn r * fd q) (by omega) (by omega) w; rw [e.out] at this; exact this
  go_enter Try.func81, Try.ntmps81
  go_wp2
  go_region_held3 (fun w' => (Blk w' w.heap.size #[.int .i64 (fn q), .int .i64 (fd q)] 23 ∧ (∀ i : Nat, w'.cell? ⟨w.heap.size, i, none⟩ = (#[.int .i64 (fn q), .int .i64 (fd q)] : Array Value)[i]?)) ∧ (Blk w' (w.heap.size + 1) #[.int .i64 (fn r), .int .i64 (fd r)] 23 ∧ (∀ i : Nat, w'.cell? ⟨w.heap.size + 1, i, none⟩ = (#[.int .i64 (fn r), .int .i64 (fd r)] : Array Value)[i]?)) ∧ Below w.heap.size w w')
    (((first | (apply hold2; (focus assumption); intro p0 p1 pB) | skip); refine ⟨Blk.full ?_, Blk.full ?_, ?_⟩; all_goals (first | ((repeat' (first | (with_reducible assumption) | ((with_reducible refine Blk.new ?_); first | rfl | (simp; done)) | (with_reducible refine Blk.later (by assumption) ?_) | (with_reducible refine Blk.alloc ?_) | (with_reducible refine Blk.drewN ?_) | (with_reducible refine Blk.drew ?_) | (with_reducible refine Blk.other ?_ (by first | omega | (simp; done) | (simp; omega))))); done) | ((repeat' (first | (with_reducible exact Below.refl _ _) | (with_reducible assumption) | (with_reducible refine belowThru ?_ (by assumption)) | (with_reducible refine belowAlloc ?_) | (with_reducible refine Below.setCell ?_ (by first | omega | (simp; done) | (simp; omega)) _) | (with_reducible refine Below.drew ?_) | (with_reducible refine below_drewN ?_ _))); done))))
    (first
      | (go_at_call 105; (with_reducible refine (product_any _ _ (by omega) (by omega) (by omega) (by omega) _).mono ?_); rintro e w1 ⟨rfl, hb⟩)
      | (go_at_call 102; (with_reducible refine (minus_any _ _ _).mono ?_); rintro e w1 ⟨rfl, hb⟩)
      | (go_at_call 106; (with_reducible refine (HS.out _).mono ?_); rintro e w1 ⟨rfl, hb⟩))
  obtain ⟨-, -, hB⟩ := ‹(Blk _ _ _ _ ∧ _) ∧ (Blk _ _ _ _ ∧ _) ∧ Below _ _ _›
  go_wp2
  go_ret
  exact ⟨rfl, hB⟩

set_option maxRecDepth 100000 in
set_option maxHeartbeats 4000000 in
theorem combine_walk (q r : Rat) (hq : fits q) (hr : fits r) (F : FuncId) (g l m t s k N M E : Int) (w : World)
    (HG : Hid (∀ w, Calls Try.prog 76 #[.int .u64 (fd q), .int .u64 (fd r)] w fun e w' => e = .returned (.int .u64 g) ∧ ∃ n, w' = w.drewN n)) (g1 : 1 ≤ g) (g2 : g ≤ 4611686018427387903)
    (el : fd q / g = l) (em : fd r / g = m) (l1 : 1 ≤ l) (l2 : l ≤ 4611686018427387903) (m1 : 1 ≤ m) (m2 : m ≤ 4611686018427387903)
    (ek : fd r / s = k) (kk1 : 1 ≤ k) (kk2 : k ≤ 4611686018427387903)
    (HR : Hid (∀ w, Calls Try.prog 79 #[.agg #[.int .u64 (whi (t.tdiv s)), .int .u64 (wlo (t.tdiv s))], .agg #[.int .u64 (whi (l * k)), .int .u64 (wlo (l * k))]] w fun e w' => e = .returned (.tuple #[.agg #[.int .i64 N, .int .i64 M], .int .i64 E]) ∧ Below w.heap.size w w'))
    (HE : ∀ args w, (callFunc F args).run Try.prog w = .ok (.enter F args) w)
    (t0 : -170141183460469231731687303715884105728 < t) (t1 : t < 170141183460469231731687303715884105728) (s1 : 1 ≤ s) (s2 : s ≤ 4611686018427387903)
    (HS : Hid (∀ w, Calls Try.prog 76 #[.int .u64 g, .int .u64 ((t.natAbs : Int) % g)] w fun e w' => e = .returned (.int .u64 s) ∧ Below w.heap.size w w'))
    (HF : Hid (∀ w, Calls Try.prog F #[.agg #[.int .u64 (whi (fn q * m)), .int .u64 (wlo (fn q * m))], .agg #[.int .u64 (whi (fn r * l)), .int .u64 (wlo (fn r * l))]] w fun e w' => e = .returned (.agg #[.int .u64 (whi t), .int .u64 (wlo t)]) ∧ Below w.heap.size w w')) :
    Calls Try.prog 113 #[.agg #[.int .i64 (fn q), .int .i64 (fd q)], .agg #[.int .i64 (fn r), .int .i64 (fd r)], .func (.func F) #[] #[]] w fun e w' => e = .returned (.tuple #[.agg #[.int .i64 N, .int .i64 M], .int .i64 E]) ∧ Below w.heap.size w w' := by
  have fq := hq; have fr' := hr; unfold fits at fq fr'; obtain ⟨q1, q2, q3⟩ := fq; obtain ⟨r1, r2, r3⟩ := fr'; have q4 := fd_pos q; have r4 := fd_pos r
  have HA : Hid (∀ w, Calls Try.prog 77 #[.int .i64 (fd q)] w fun e w' => e = .returned (.int .u64 (fd q)) ∧ w' = w) := by
    intro w; have := size_any (fd q) (by omega) (by omega) w; rw [mag_pos (fd q) (by omega)] at this; exact this.mono fun _ _ ⟨h, k⟩ => ⟨h, k.symm⟩
  have HB : Hid (∀ w, Calls Try.prog 77 #[.int .i64 (fd r)] w fun e w' => e = .returned (.int .u64 (fd r)) ∧ w' = w) := by
    intro w; have := size_any (fd r) (by omega) (by omega) w; rw [mag_pos (fd r) (by omega)] at this; exact this.mono fun _ _ ⟨h, k⟩ => ⟨h, k.symm⟩
  go_enter Try.func113, Try.ntmps113
  go_upto_region 1 with fail
  go_cut [8] (fun s8 wx => s8 = .int .u64 g ∧ Blk wx w.heap.size #[.int .i64 (fn q), .int .i64 (fd q)] 23 ∧ Blk wx (w.heap.size + 1) #[.int .i64 (fn r), .int .i64 (fd r)] 23 ∧ Blk wx (w.heap.size + 1 + 1) #[.int .i64 0, .int .i64 0] 23 ∧ Below w.heap.size w wx)
  case first =>
    go_quiet ((first
      | (go_at_call 77; (with_reducible refine Calls.quiet_of_same (HA.out _)))
      | (go_at_call 77; (with_reducible refine Calls.quiet_of_same (HB.out _)))
      | (go_at_call 76; (with_reducible refine Calls.quiet_of (HG.out _)))))
    go_wp2_with fail
    go_meet
    exact ⟨rfl, by (repeat' (first | (with_reducible assumption) | ((with_reducible refine Blk.new ?_); first | rfl | (simp; done)) | (with_reducible refine Blk.later (by assumption) ?_) | (with_reducible refine Blk.alloc ?_) | (with_reducible refine Blk.drewN ?_) | (with_reducible refine Blk.drew ?_) | (with_reducible refine Blk.other ?_ (by first | omega | (simp; done) | (simp; omega))))), by (repeat' (first | (with_reducible assumption) | ((with_reducible refine Blk.new ?_); first | rfl | (simp; done)) | (with_reducible refine Blk.later (by assumption) ?_) | (with_reducible refine Blk.alloc ?_) | (with_reducible refine Blk.drewN ?_) | (with_reducible refine Blk.drew ?_) | (with_reducible refine Blk.other ?_ (by first | omega | (simp; done) | (simp; omega))))), by (repeat' (first | (with_reducible assumption) | ((with_reducible refine Blk.new ?_); first | rfl | (simp; done)) | (with_reducible refine Blk.later (by assumption) ?_) | (with_reducible refine Blk.alloc ?_) | (with_reducible refine Blk.drewN ?_) | (with_reducible refine Blk.drew ?_) | (with_reducible refine Blk.other ?_ (by first | omega | (simp; done) | (simp; omega))))), by (repeat' (first | (with_reducible exact Below.refl _ _) | (with_reducible assumption) | (with_reducible refine belowThru ?_ (by assumption)) | (with_reducible refine belowAlloc ?_) | (with_reducible refine Below.setCell ?_ (by first | omega | (simp; done) | (simp; omega)) _) | (with_reducible refine Below.drew ?_) | (with_reducible refine below_drewN ?_ _)))⟩
  case rest =>
    obtain ⟨rfl, k0, k1, k2, hB⟩ := hcut
    obtain ⟨a0, b0⟩ := k0.read; obtain ⟨a1, b1⟩ := k1.read; obtain ⟨a2, b2⟩ := k2.read
    have z0 := k0.lt; have z1 := k1.lt; have z2 := k2.lt
    have y0 : ∀ n, w.heap.size < (wc.drewN n).heap.size := fun _ => z0
    have y1 : ∀ n, w.heap.size + 1 < (wc.drewN n).heap.size := fun _ => z1
    have y2 : ∀ n, w.heap.size + 1 + 1 < (wc.drewN n).heap.size := fun _ => z2
    go_upto_region 2 with fail
    go_quiet (fail)
    go_upto_region 3 with fail
    go_cut [9, 10, 11] (fun s9 s10 s11 wx => s9 = .int .i64 l ∧ s10 = .int .i64 m ∧ At wx (w.heap.size + 1 + 1 + 1) #[.int .u64 (whi t), .int .u64 (wlo t)] 109 s11 ∧ Blk wx w.heap.size #[.int .i64 (fn q), .int .i64 (fd q)] 23 ∧ Blk wx (w.heap.size + 1) #[.int .i64 (fn r), .int .i64 (fd r)] 23 ∧ Blk wx (w.heap.size + 1 + 1) #[.int .i64 0, .int .i64 0] 23 ∧ Below w.heap.size w wx)
    case first =>
      go_region_held3 (fun w' => (Blk w' w.heap.size #[.int .i64 (fn q), .int .i64 (fd q)] 23 ∧ (∀ i : Nat, w'.cell? ⟨w.heap.size, i, none⟩ = (#[.int .i64 (fn q), .int .i64 (fd q)] : Array Value)[i]?)) ∧ (Blk w' (w.heap.size + 1) #[.int .i64 (fn r), .int .i64 (fd r)] 23 ∧ (∀ i : Nat, w'.cell? ⟨w.heap.size + 1, i, none⟩ = (#[.int .i64 (fn r), .int .i64 (fd r)] : Array Value)[i]?)) ∧ Below w.heap.size w w')
        (((first | (apply hold2; (focus assumption); intro p0 p1 pB) | skip); refine ⟨Blk.full ?_, Blk.full ?_, ?_⟩; all_goals (first | ((repeat' (first | (with_reducible assumption) | ((with_reducible refine Blk.new ?_); first | rfl | (simp; done)) | (with_reducible refine Blk.later (by assumption) ?_) | (with_reducible refine Blk.alloc ?_) | (with_reducible refine Blk.drewN ?_) | (with_reducible refine Blk.drew ?_) | (with_reducible refine Blk.other ?_ (by first | omega | (simp; done) | (simp; omega))))); done) | ((repeat' (first | (with_reducible exact Below.refl _ _) | (with_reducible assumption) | (with_reducible refine belowThru ?_ (by assumption)) | (with_reducible refine belowAlloc ?_) | (with_reducible refine Below.setCell ?_ (by first | omega | (simp; done) | (simp; omega)) _) | (with_reducible refine Below.drew ?_) | (with_reducible refine below_drewN ?_ _))); done))))
        (first
        | (go_at_call 105; (with_reducible refine (product_any _ _ (by omega) (by omega) (by omega) (by omega) _).mono ?_); rintro e w1 ⟨rfl, hb⟩; (try (have zk := k0.lt; (first | ((with_reducible refine Blk.keepG hb k0 (fun h => ?_) ?_); (focus ((repeat' (first | (with_reducible assumption) | ((with_reducible refine Blk.new ?_); first | rfl | (simp; done)) | (with_reducible refine Blk.later (by assumption) ?_) | (with_reducible refine Blk.alloc ?_) | (with_reducible refine Blk.drewN ?_) | (with_reducible refine Blk.drew ?_) | (with_reducible refine Blk.other ?_ (by first | omega | (simp; done) | (simp; omega))))); done)); clear k0; intro k0) | (with_reducible replace k0 := Blk.later hb (Blk.set (Blk.set k0))) | (with_reducible replace k0 := Blk.later hb (Blk.set k0))); clear a0 b0; obtain ⟨a0, b0⟩ := k0.read; have zl := k0.lt)); (try (have zk := k1.lt; (first | ((with_reducible refine Blk.keepG hb k1 (fun h => ?_) ?_); (focus ((repeat' (first | (with_reducible assumption) | ((with_reducible refine Blk.new ?_); first | rfl | (simp; done)) | (with_reducible refine Blk.later (by assumption) ?_) | (with_reducible refine Blk.alloc ?_) | (with_reducible refine Blk.drewN ?_) | (with_reducible refine Blk.drew ?_) | (with_reducible refine Blk.other ?_ (by first | omega | (simp; done) | (simp; omega))))); done)); clear k1; intro k1) | (with_reducible replace k1 := Blk.later hb (Blk.set (Blk.set k1))) | (with_reducible replace k1 := Blk.later hb (Blk.set k1))); clear a1 b1; obtain ⟨a1, b1⟩ := k1.read; have zl := k1.lt)); (try (have zk := k2.lt; (first | ((with_reducible refine Blk.keepG hb k2 (fun h => ?_) ?_); (focus ((repeat' (first | (with_reducible assumption) | ((with_reducible refine Blk.new ?_); first | rfl | (simp; done)) | (with_reducible refine Blk.later (by assumption) ?_) | (with_reducible refine Blk.alloc ?_) | (with_reducible refine Blk.drewN ?_) | (with_reducible refine Blk.drew ?_) | (with_reducible refine Blk.other ?_ (by first | omega | (simp; done) | (simp; omega))))); done)); clear k2; intro k2) | (with_reducible replace k2 := Blk.later hb (Blk.set (Blk.set k2))) | (with_reducible replace k2 := Blk.later hb (Blk.set k2))); clear a2 b2; obtain ⟨a2, b2⟩ := k2.read; have zl := k2.lt)); (try (have zk := k3.lt; (first | ((with_reducible refine Blk.keepG hb k3 (fun h => ?_) ?_); (focus ((repeat' (first | (with_reducible assumption) | ((with_reducible refine Blk.new ?_); first | rfl | (simp; done)) | (with_reducible refine Blk.later (by assumption) ?_) | (with_reducible refine Blk.alloc ?_) | (with_reducible refine Blk.drewN ?_) | (with_reducible refine Blk.drew ?_) | (with_reducible refine Blk.other ?_ (by first | omega | (simp; done) | (simp; omega))))); done)); clear k3; intro k3) | (with_reducible replace k3 := Blk.later hb (Blk.set (Blk.set k3))) | (with_reducible replace k3 := Blk.later hb (Blk.set k3))); clear a3 b3; obtain ⟨a3, b3⟩ := k3.read; have zl := k3.lt)); (first | (have zk := kn.lt; (first | ((with_reducible refine Blk.keepG hb kn (fun h => ?_) ?_); (focus ((repeat' (first | (with_reducible assumption) | ((with_reducible refine Blk.new ?_); first | rfl | (simp; done)) | (with_reducible refine Blk.later (by assumption) ?_) | (with_reducible refine Blk.alloc ?_) | (with_reducible refine Blk.drewN ?_) | (with_reducible refine Blk.drew ?_) | (with_reducible refine Blk.other ?_ (by first | omega | (simp; done) | (simp; omega))))); done)); clear kn; intro kn) | (with_reducible replace kn := Blk.later hb (Blk.set (Blk.set kn))) | (with_reducible replace kn := Blk.later hb (Blk.set kn))); clear an bn; obtain ⟨an, bn⟩ := kn.read; have zl := kn.lt) | ((first | (with_reducible have kn := Blk.later hb (Blk.new rfl)) | (with_reducible have kn := Blk.later hb (Blk.drew (Blk.new rfl))) | (with_reducible have kn := Blk.later hb (Blk.drewN (Blk.new rfl)))); (try simp only [World.heap_drewN] at kn); obtain ⟨an, bn⟩ := kn.read; have zl := kn.lt) | skip))
        | ((with_reducible refine (HF.out _).mono ?_); rintro e w1 ⟨rfl, hb⟩; (try (have zk := k0.lt; (first | ((with_reducible refine Blk.keepG hb k0 (fun h => ?_) ?_); (focus ((repeat' (first | (with_reducible assumption) | ((with_reducible refine Blk.new ?_); first | rfl | (simp; done)) | (with_reducible refine Blk.later (by assumption) ?_) | (with_reducible refine Blk.alloc ?_) | (with_reducible refine Blk.drewN ?_) | (with_reducible refine Blk.drew ?_) | (with_reducible refine Blk.other ?_ (by first | omega | (simp; done) | (simp; omega))))); done)); clear k0; intro k0) | (with_reducible replace k0 := Blk.later hb (Blk.set (Blk.set k0))) | (with_reducible replace k0 := Blk.later hb (Blk.set k0))); clear a0 b0; obtain ⟨a0, b0⟩ := k0.read; have zl := k0.lt)); (try (have zk := k1.lt; (first | ((with_reducible refine Blk.keepG hb k1 (fun h => ?_) ?_); (focus ((repeat' (first | (with_reducible assumption) | ((with_reducible refine Blk.new ?_); first | rfl | (simp; done)) | (with_reducible refine Blk.later (by assumption) ?_) | (with_reducible refine Blk.alloc ?_) | (with_reducible refine Blk.drewN ?_) | (with_reducible refine Blk.drew ?_) | (with_reducible refine Blk.other ?_ (by first | omega | (simp; done) | (simp; omega))))); done)); clear k1; intro k1) | (with_reducible replace k1 := Blk.later hb (Blk.set (Blk.set k1))) | (with_reducible replace k1 := Blk.later hb (Blk.set k1))); clear a1 b1; obtain ⟨a1, b1⟩ := k1.read; have zl := k1.lt)); (try (have zk := k2.lt; (first | ((with_reducible refine Blk.keepG hb k2 (fun h => ?_) ?_); (focus ((repeat' (first | (with_reducible assumption) | ((with_reducible refine Blk.new ?_); first | rfl | (simp; done)) | (with_reducible refine Blk.later (by assumption) ?_) | (with_reducible refine Blk.alloc ?_) | (with_reducible refine Blk.drewN ?_) | (with_reducible refine Blk.drew ?_) | (with_reducible refine Blk.other ?_ (by first | omega | (simp; done) | (simp; omega))))); done)); clear k2; intro k2) | (with_reducible replace k2 := Blk.later hb (Blk.set (Blk.set k2))) | (with_reducible replace k2 := Blk.later hb (Blk.set k2))); clear a2 b2; obtain ⟨a2, b2⟩ := k2.read; have zl := k2.lt)); (try (have zk := k3.lt; (first | ((with_reducible refine Blk.keepG hb k3 (fun h => ?_) ?_); (focus ((repeat' (first | (with_reducible assumption) | ((with_reducible refine Blk.new ?_); first | rfl | (simp; done)) | (with_reducible refine Blk.later (by assumption) ?_) | (with_reducible refine Blk.alloc ?_) | (with_reducible refine Blk.drewN ?_) | (with_reducible refine Blk.drew ?_) | (with_reducible refine Blk.other ?_ (by first | omega | (simp; done) | (simp; omega))))); done)); clear k3; intro k3) | (with_reducible replace k3 := Blk.later hb (Blk.set (Blk.set k3))) | (with_reducible replace k3 := Blk.later hb (Blk.set k3))); clear a3 b3; obtain ⟨a3, b3⟩ := k3.read; have zl := k3.lt)); (first | (have zk := kn.lt; (first | ((with_reducible refine Blk.keepG hb kn (fun h => ?_) ?_); (focus ((repeat' (first | (with_reducible assumption) | ((with_reducible refine Blk.new ?_); first | rfl | (simp; done)) | (with_reducible refine Blk.later (by assumption) ?_) | (with_reducible refine Blk.alloc ?_) | (with_reducible refine Blk.drewN ?_) | (with_reducible refine Blk.drew ?_) | (with_reducible refine Blk.other ?_ (by first | omega | (simp; done) | (simp; omega))))); done)); clear kn; intro kn) | (with_reducible replace kn := Blk.later hb (Blk.set (Blk.set kn))) | (with_reducible replace kn := Blk.later hb (Blk.set kn))); clear an bn; obtain ⟨an, bn⟩ := kn.read; have zl := kn.lt) | ((first | (with_reducible have kn := Blk.later hb (Blk.new rfl)) | (with_reducible have kn := Blk.later hb (Blk.drew (Blk.new rfl))) | (with_reducible have kn := Blk.later hb (Blk.drewN (Blk.new rfl)))); (try simp only [World.size_alloc, World.size_drew, World.heap_drewN] at kn); obtain ⟨an, bn⟩ := kn.read; have zl := kn.lt) | skip)))
      all_goals
        have zz := k2.lt
        go_wp2_with fail
        go_meet
        refine ⟨rfl, rfl, At.mk (by omega) ?_, ?_, ?_, ?_, ?_⟩
        · first | exact Blk.set (Blk.set kn) | (repeat' (first | (with_reducible assumption) | ((with_reducible refine Blk.new ?_); first | rfl | (simp; done)) | (with_reducible refine Blk.later (by assumption) ?_) | (with_reducible refine Blk.alloc ?_) | (with_reducible refine Blk.drewN ?_) | (with_reducible refine Blk.drew ?_) | (with_reducible refine Blk.other ?_ (by first | omega | (simp; done) | (simp; omega)))))
        · (repeat' (first | (with_reducible assumption) | ((with_reducible refine Blk.new ?_); first | rfl | (simp; done)) | (with_reducible refine Blk.later (by assumption) ?_) | (with_reducible refine Blk.alloc ?_) | (with_reducible refine Blk.drewN ?_) | (with_reducible refine Blk.drew ?_) | (with_reducible refine Blk.other ?_ (by first | omega | (simp; done) | (simp; omega)))))
        · (repeat' (first | (with_reducible assumption) | ((with_reducible refine Blk.new ?_); first | rfl | (simp; done)) | (with_reducible refine Blk.later (by assumption) ?_) | (with_reducible refine Blk.alloc ?_) | (with_reducible refine Blk.drewN ?_) | (with_reducible refine Blk.drew ?_) | (with_reducible refine Blk.other ?_ (by first | omega | (simp; done) | (simp; omega)))))
        · (repeat' (first | (with_reducible assumption) | ((with_reducible refine Blk.new ?_); first | rfl | (simp; done)) | (with_reducible refine Blk.later (by assumption) ?_) | (with_reducible refine Blk.alloc ?_) | (with_reducible refine Blk.drewN ?_) | (with_reducible refine Blk.drew ?_) | (with_reducible refine Blk.other ?_ (by first | omega | (simp; done) | (simp; omega)))))
        · (repeat' (first | (with_reducible exact Below.refl _ _) | (with_reducible assumption) | (with_reducible refine belowThru ?_ (by assumption)) | (with_reducible refine belowAlloc ?_) | (with_reducible refine Below.setCell ?_ (by first | omega | (simp; done) | (simp; omega)) _) | (with_reducible refine Below.drew ?_) | (with_reducible refine below_drewN ?_ _)))
    case rest =>
      obtain ⟨rfl, rfl, ⟨bt, rfl, hbt, k3⟩, k0, k1, k2, hB⟩ := hcut
      obtain ⟨a0, b0⟩ := k0.read; obtain ⟨a1, b1⟩ := k1.read; obtain ⟨a2, b2⟩ := k2.read; obtain ⟨a3, b3⟩ := k3.read
      have z0 := k0.lt; have z1 := k1.lt; have z2 := k2.lt; have z3 := k3.lt
      go_upto_region 6 with (first
        | (go_at_call 130; (with_reducible refine (divide_any t g _ (by omega) (by omega) (by omega) (by omega)).mono ?_); rintro e w1 ⟨rfl, hb⟩; (try (have zk := k0.lt; (first | ((with_reducible refine Blk.keepG hb k0 (fun h => ?_) ?_); (focus ((repeat' (first | (with_reducible assumption) | ((with_reducible refine Blk.new ?_); first | rfl | (simp; done)) | (with_reducible refine Blk.later (by assumption) ?_) | (with_reducible refine Blk.alloc ?_) | (with_reducible refine Blk.drewN ?_) | (with_reducible refine Blk.drew ?_) | (with_reducible refine Blk.other ?_ (by first | omega | (simp; done) | (simp; omega))))); done)); clear k0; intro k0) | (with_reducible replace k0 := Blk.later hb (Blk.set (Blk.set k0))) | (with_reducible replace k0 := Blk.later hb (Blk.set k0))); clear a0 b0; obtain ⟨a0, b0⟩ := k0.read; have zl := k0.lt)); (try (have zk := k1.lt; (first | ((with_reducible refine Blk.keepG hb k1 (fun h => ?_) ?_); (focus ((repeat' (first | (with_reducible assumption) | ((with_reducible refine Blk.new ?_); first | rfl | (simp; done)) | (with_reducible refine Blk.later (by assumption) ?_) | (with_reducible refine Blk.alloc ?_) | (with_reducible refine Blk.drewN ?_) | (with_reducible refine Blk.drew ?_) | (with_reducible refine Blk.other ?_ (by first | omega | (simp; done) | (simp; omega))))); done)); clear k1; intro k1) | (with_reducible replace k1 := Blk.later hb (Blk.set (Blk.set k1))) | (with_reducible replace k1 := Blk.later hb (Blk.set k1))); clear a1 b1; obtain ⟨a1, b1⟩ := k1.read; have zl := k1.lt)); (try (have zk := k2.lt; (first | ((with_reducible refine Blk.keepG hb k2 (fun h => ?_) ?_); (focus ((repeat' (first | (with_reducible assumption) | ((with_reducible refine Blk.new ?_); first | rfl | (simp; done)) | (with_reducible refine Blk.later (by assumption) ?_) | (with_reducible refine Blk.alloc ?_) | (with_reducible refine Blk.drewN ?_) | (with_reducible refine Blk.drew ?_) | (with_reducible refine Blk.other ?_ (by first | omega | (simp; done) | (simp; omega))))); done)); clear k2; intro k2) | (with_reducible replace k2 := Blk.later hb (Blk.set (Blk.set k2))) | (with_reducible replace k2 := Blk.later hb (Blk.set k2))); clear a2 b2; obtain ⟨a2, b2⟩ := k2.read; have zl := k2.lt)); (try (have zk := k3.lt; (first | ((with_reducible refine Blk.keepG hb k3 (fun h => ?_) ?_); (focus ((repeat' (first | (with_reducible assumption) | ((with_reducible refine Blk.new ?_); first | rfl | (simp; done)) | (with_reducible refine Blk.later (by assumption) ?_) | (with_reducible refine Blk.alloc ?_) | (with_reducible refine Blk.drewN ?_) | (with_reducible refine Blk.drew ?_) | (with_reducible refine Blk.other ?_ (by first | omega | (simp; done) | (simp; omega))))); done)); clear k3; intro k3) | (with_reducible replace k3 := Blk.later hb (Blk.set (Blk.set k3))) | (with_reducible replace k3 := Blk.later hb (Blk.set k3))); clear a3 b3; obtain ⟨a3, b3⟩ := k3.read; have zl := k3.lt)); (first | (have zk := kn.lt; (first | ((with_reducible refine Blk.keepG hb kn (fun h => ?_) ?_); (focus ((repeat' (first | (with_reducible assumption) | ((with_reducible refine Blk.new ?_); first | rfl | (simp; done)) | (with_reducible refine Blk.later (by assumption) ?_) | (with_reducible refine Blk.alloc ?_) | (with_reducible refine Blk.drewN ?_) | (with_reducible refine Blk.drew ?_) | (with_reducible refine Blk.other ?_ (by first | omega | (simp; done) | (simp; omega))))); done)); clear kn; intro kn) | (with_reducible replace kn := Blk.later hb (Blk.set (Blk.set kn))) | (with_reducible replace kn := Blk.later hb (Blk.set kn))); clear an bn; obtain ⟨an, bn⟩ := kn.read; have zl := kn.lt) | ((first | (with_reducible have kn := Blk.later hb (Blk.new rfl)) | (with_reducible have kn := Blk.later hb (Blk.drew (Blk.new rfl))) | (with_reducible have kn := Blk.later hb (Blk.drewN (Blk.new rfl)))); (try simp only [World.size_alloc, World.size_drew, World.heap_drewN] at kn); obtain ⟨an, bn⟩ := kn.read; have zl := kn.lt) | skip))
        | (go_at_call 76; (with_reducible refine (HS.out _).mono ?_); rintro e w1 ⟨rfl, hb⟩; (try (have zk := k0.lt; (first | ((with_reducible refine Blk.keepG hb k0 (fun h => ?_) ?_); (focus ((repeat' (first | (with_reducible assumption) | ((with_reducible refine Blk.new ?_); first | rfl | (simp; done)) | (with_reducible refine Blk.later (by assumption) ?_) | (with_reducible refine Blk.alloc ?_) | (with_reducible refine Blk.drewN ?_) | (with_reducible refine Blk.drew ?_) | (with_reducible refine Blk.other ?_ (by first | omega | (simp; done) | (simp; omega))))); done)); clear k0; intro k0) | (with_reducible replace k0 := Blk.later hb (Blk.set (Blk.set k0))) | (with_reducible replace k0 := Blk.later hb (Blk.set k0))); clear a0 b0; obtain ⟨a0, b0⟩ := k0.read; have zl := k0.lt)); (try (have zk := k1.lt; (first | ((with_reducible refine Blk.keepG hb k1 (fun h => ?_) ?_); (focus ((repeat' (first | (with_reducible assumption) | ((with_reducible refine Blk.new ?_); first | rfl | (simp; done)) | (with_reducible refine Blk.later (by assumption) ?_) | (with_reducible refine Blk.alloc ?_) | (with_reducible refine Blk.drewN ?_) | (with_reducible refine Blk.drew ?_) | (with_reducible refine Blk.other ?_ (by first | omega | (simp; done) | (simp; omega))))); done)); clear k1; intro k1) | (with_reducible replace k1 := Blk.later hb (Blk.set (Blk.set k1))) | (with_reducible replace k1 := Blk.later hb (Blk.set k1))); clear a1 b1; obtain ⟨a1, b1⟩ := k1.read; have zl := k1.lt)); (try (have zk := k2.lt; (first | ((with_reducible refine Blk.keepG hb k2 (fun h => ?_) ?_); (focus ((repeat' (first | (with_reducible assumption) | ((with_reducible refine Blk.new ?_); first | rfl | (simp; done)) | (with_reducible refine Blk.later (by assumption) ?_) | (with_reducible refine Blk.alloc ?_) | (with_reducible refine Blk.drewN ?_) | (with_reducible refine Blk.drew ?_) | (with_reducible refine Blk.other ?_ (by first | omega | (simp; done) | (simp; omega))))); done)); clear k2; intro k2) | (with_reducible replace k2 := Blk.later hb (Blk.set (Blk.set k2))) | (with_reducible replace k2 := Blk.later hb (Blk.set k2))); clear a2 b2; obtain ⟨a2, b2⟩ := k2.read; have zl := k2.lt)); (try (have zk := k3.lt; (first | ((with_reducible refine Blk.keepG hb k3 (fun h => ?_) ?_); (focus ((repeat' (first | (with_reducible assumption) | ((with_reducible refine Blk.new ?_); first | rfl | (simp; done)) | (with_reducible refine Blk.later (by assumption) ?_) | (with_reducible refine Blk.alloc ?_) | (with_reducible refine Blk.drewN ?_) | (with_reducible refine Blk.drew ?_) | (with_reducible refine Blk.other ?_ (by first | omega | (simp; done) | (simp; omega))))); done)); clear k3; intro k3) | (with_reducible replace k3 := Blk.later hb (Blk.set (Blk.set k3))) | (with_reducible replace k3 := Blk.later hb (Blk.set k3))); clear a3 b3; obtain ⟨a3, b3⟩ := k3.read; have zl := k3.lt)); (first | (have zk := kn.lt; (first | ((with_reducible refine Blk.keepG hb kn (fun h => ?_) ?_); (focus ((repeat' (first | (with_reducible assumption) | ((with_reducible refine Blk.new ?_); first | rfl | (simp; done)) | (with_reducible refine Blk.later (by assumption) ?_) | (with_reducible refine Blk.alloc ?_) | (with_reducible refine Blk.drewN ?_) | (with_reducible refine Blk.drew ?_) | (with_reducible refine Blk.other ?_ (by first | omega | (simp; done) | (simp; omega))))); done)); clear kn; intro kn) | (with_reducible replace kn := Blk.later hb (Blk.set (Blk.set kn))) | (with_reducible replace kn := Blk.later hb (Blk.set kn))); clear an bn; obtain ⟨an, bn⟩ := kn.read; have zl := kn.lt) | ((first | (with_reducible have kn := Blk.later hb (Blk.new rfl)) | (with_reducible have kn := Blk.later hb (Blk.drew (Blk.new rfl))) | (with_reducible have kn := Blk.later hb (Blk.drewN (Blk.new rfl)))); (try simp only [World.size_alloc, World.size_drew, World.heap_drewN] at kn); obtain ⟨an, bn⟩ := kn.read; have zl := kn.lt) | skip)))
      go_cut [11] (fun s11 wx => s11 = .pointer (some ⟨bt, 0, none⟩) ∧ Blk wx bt #[.int .u64 (whi (t.tdiv s)), .int .u64 (wlo (t.tdiv s))] 109 ∧ Blk wx w.heap.size #[.int .i64 (fn q), .int .i64 (fd q)] 23 ∧ Blk wx (w.heap.size + 1) #[.int .i64 (fn r), .int .i64 (fd r)] 23 ∧ Blk wx (w.heap.size + 1 + 1) #[.int .i64 0, .int .i64 0] 23 ∧ Below w.heap.size w wx)
      case first =>
        go_wp2_with (go_at_call 130; (with_reducible refine (divide_any t s _ (by omega) (by omega) (by omega) (by omega)).mono ?_); rintro e w1 ⟨rfl, hb⟩; (try (have zk := k0.lt; (first | ((with_reducible refine Blk.keepG hb k0 (fun h => ?_) ?_); (focus ((repeat' (first | (with_reducible assumption) | ((with_reducible refine Blk.new ?_); first | rfl | (simp; done)) | (with_reducible refine Blk.later (by assumption) ?_) | (with_reducible refine Blk.alloc ?_) | (with_reducible refine Blk.drewN ?_) | (with_reducible refine Blk.drew ?_) | (with_reducible refine Blk.other ?_ (by first | omega | (simp; done) | (simp; omega))))); done)); clear k0; intro k0) | (with_reducible replace k0 := Blk.later hb (Blk.set (Blk.set k0))) | (with_reducible replace k0 := Blk.later hb (Blk.set k0))); clear a0 b0; obtain ⟨a0, b0⟩ := k0.read; have zl := k0.lt)); (try (have zk := k1.lt; (first | ((with_reducible refine Blk.keepG hb k1 (fun h => ?_) ?_); (focus ((repeat' (first | (with_reducible assumption) | ((with_reducible refine Blk.new ?_); first | rfl | (simp; done)) | (with_reducible refine Blk.later (by assumption) ?_) | (with_reducible refine Blk.alloc ?_) | (with_reducible refine Blk.drewN ?_) | (with_reducible refine Blk.drew ?_) | (with_reducible refine Blk.other ?_ (by first | omega | (simp; done) | (simp; omega))))); done)); clear k1; intro k1) | (with_reducible replace k1 := Blk.later hb (Blk.set (Blk.set k1))) | (with_reducible replace k1 := Blk.later hb (Blk.set k1))); clear a1 b1; obtain ⟨a1, b1⟩ := k1.read; have zl := k1.lt)); (try (have zk := k2.lt; (first | ((with_reducible refine Blk.keepG hb k2 (fun h => ?_) ?_); (focus ((repeat' (first | (with_reducible assumption) | ((with_reducible refine Blk.new ?_); first | rfl | (simp; done)) | (with_reducible refine Blk.later (by assumption) ?_) | (with_reducible refine Blk.alloc ?_) | (with_reducible refine Blk.drewN ?_) | (with_reducible refine Blk.drew ?_) | (with_reducible refine Blk.other ?_ (by first | omega | (simp; done) | (simp; omega))))); done)); clear k2; intro k2) | (with_reducible replace k2 := Blk.later hb (Blk.set (Blk.set k2))) | (with_reducible replace k2 := Blk.later hb (Blk.set k2))); clear a2 b2; obtain ⟨a2, b2⟩ := k2.read; have zl := k2.lt)); (try (have zk := k3.lt; (first | ((with_reducible refine Blk.keepG hb k3 (fun h => ?_) ?_); (focus ((repeat' (first | (with_reducible assumption) | ((with_reducible refine Blk.new ?_); first | rfl | (simp; done)) | (with_reducible refine Blk.later (by assumption) ?_) | (with_reducible refine Blk.alloc ?_) | (with_reducible refine Blk.drewN ?_) | (with_reducible refine Blk.drew ?_) | (with_reducible refine Blk.other ?_ (by first | omega | (simp; done) | (simp; omega))))); done)); clear k3; intro k3) | (with_reducible replace k3 := Blk.later hb (Blk.set (Blk.set k3))) | (with_reducible replace k3 := Blk.later hb (Blk.set k3))); clear a3 b3; obtain ⟨a3, b3⟩ := k3.read; have zl := k3.lt)); (first | (have zk := kn.lt; (first | ((with_reducible refine Blk.keepG hb kn (fun h => ?_) ?_); (focus ((repeat' (first | (with_reducible assumption) | ((with_reducible refine Blk.new ?_); first | rfl | (simp; done)) | (with_reducible refine Blk.later (by assumption) ?_) | (with_reducible refine Blk.alloc ?_) | (with_reducible refine Blk.drewN ?_) | (with_reducible refine Blk.drew ?_) | (with_reducible refine Blk.other ?_ (by first | omega | (simp; done) | (simp; omega))))); done)); clear kn; intro kn) | (with_reducible replace kn := Blk.later hb (Blk.set (Blk.set kn))) | (with_reducible replace kn := Blk.later hb (Blk.set kn))); clear an bn; obtain ⟨an, bn⟩ := kn.read; have zl := kn.lt) | ((first | (with_reducible have kn := Blk.later hb (Blk.new rfl)) | (with_reducible have kn := Blk.later hb (Blk.drew (Blk.new rfl))) | (with_reducible have kn := Blk.later hb (Blk.drewN (Blk.new rfl)))); (try simp only [World.size_alloc, World.size_drew, World.heap_drewN] at kn); obtain ⟨an, bn⟩ := kn.read; have zl := kn.lt) | skip))
        go_meet
        refine ⟨rfl, ?_, ?_, ?_, ?_, ?_⟩
        · exact Blk.set (Blk.set k3)
        · (repeat' (first | (with_reducible assumption) | ((with_reducible refine Blk.new ?_); first | rfl | (simp; done)) | (with_reducible refine Blk.later (by assumption) ?_) | (with_reducible refine Blk.alloc ?_) | (with_reducible refine Blk.drewN ?_) | (with_reducible refine Blk.drew ?_) | (with_reducible refine Blk.other ?_ (by first | omega | (simp; done) | (simp; omega)))))
        · (repeat' (first | (with_reducible assumption) | ((with_reducible refine Blk.new ?_); first | rfl | (simp; done)) | (with_reducible refine Blk.later (by assumption) ?_) | (with_reducible refine Blk.alloc ?_) | (with_reducible refine Blk.drewN ?_) | (with_reducible refine Blk.drew ?_) | (with_reducible refine Blk.other ?_ (by first | omega | (simp; done) | (simp; omega)))))
        · (repeat' (first | (with_reducible assumption) | ((with_reducible refine Blk.new ?_); first | rfl | (simp; done)) | (with_reducible refine Blk.later (by assumption) ?_) | (with_reducible refine Blk.alloc ?_) | (with_reducible refine Blk.drewN ?_) | (with_reducible refine Blk.drew ?_) | (with_reducible refine Blk.other ?_ (by first | omega | (simp; done) | (simp; omega)))))
        · (repeat' (first | (with_reducible exact Below.refl _ _) | (with_reducible assumption) | (with_reducible refine belowThru ?_ (by assumption)) | (with_reducible refine belowAlloc ?_) | (with_reducible refine Below.setCell ?_ (by first | omega | (simp; done) | (simp; omega)) _) | (with_reducible refine Below.drew ?_) | (with_reducible refine below_drewN ?_ _)))
      case rest =>
        obtain ⟨rfl, k3, k0, k1, k2, hB⟩ := hcut
        obtain ⟨a0, b0⟩ := k0.read; obtain ⟨a1, b1⟩ := k1.read; obtain ⟨a2, b2⟩ := k2.read; obtain ⟨a3, b3⟩ := k3.read
        have z0 := k0.lt; have z1 := k1.lt; have z2 := k2.lt; have z3 := k3.lt
        go_upto_region 7 with fail
        have v1 : IntKind.i64.wrap s = s := IntWalk.i64_in _ (by omega)
        have v2 : (s == 0) = false := by simp; omega
        have v4 : ¬ s = 0 := by omega
        have v3 : IntKind.i64.wrap ((fd r).tdiv s) = k := by rw [Int.tdiv_eq_ediv_of_nonneg (by omega), ek]; exact IntWalk.i64_in _ (by omega)
        go_region_held3 (fun w' => (Blk w' (w.heap.size + 1) #[.int .i64 (fn r), .int .i64 (fd r)] 23 ∧ (∀ i : Nat, w'.cell? ⟨w.heap.size + 1, i, none⟩ = (#[.int .i64 (fn r), .int .i64 (fd r)] : Array Value)[i]?)) ∧ (Blk w' bt #[.int .u64 (whi (t.tdiv s)), .int .u64 (wlo (t.tdiv s))] 109 ∧ (∀ i : Nat, w'.cell? ⟨bt, i, none⟩ = (#[.int .u64 (whi (t.tdiv s)), .int .u64 (wlo (t.tdiv s))] : Array Value)[i]?)) ∧ Below w.heap.size w w')
          (((first | (apply hold2; (focus assumption); intro p0 p1 pB) | skip); refine ⟨Blk.full ?_, Blk.full ?_, ?_⟩; all_goals (first | ((repeat' (first | (with_reducible assumption) | ((with_reducible refine Blk.new ?_); first | rfl | (simp; done)) | (with_reducible refine Blk.later (by assumption) ?_) | (with_reducible refine Blk.alloc ?_) | (with_reducible refine Blk.drewN ?_) | (with_reducible refine Blk.drew ?_) | (with_reducible refine Blk.other ?_ (by first | omega | (simp; done) | (simp; omega))))); done) | ((repeat' (first | (with_reducible exact Below.refl _ _) | (with_reducible assumption) | (with_reducible refine belowThru ?_ (by assumption)) | (with_reducible refine belowAlloc ?_) | (with_reducible refine Below.setCell ?_ (by first | omega | (simp; done) | (simp; omega)) _) | (with_reducible refine Below.drew ?_) | (with_reducible refine below_drewN ?_ _))); done))))
          (first
          | (go_at_call 105; (with_reducible refine (product_any _ _ (by omega) (by omega) (by omega) (by omega) _).mono ?_); rintro e w1 ⟨rfl, hb⟩; (try (have zk := k0.lt; (first | ((with_reducible refine Blk.keepG hb k0 (fun h => ?_) ?_); (focus ((repeat' (first | (with_reducible assumption) | ((with_reducible refine Blk.new ?_); first | rfl | (simp; done)) | (with_reducible refine Blk.later (by assumption) ?_) | (with_reducible refine Blk.alloc ?_) | (with_reducible refine Blk.drewN ?_) | (with_reducible refine Blk.drew ?_) | (with_reducible refine Blk.other ?_ (by first | omega | (simp; done) | (simp; omega))))); done)); clear k0; intro k0) | (with_reducible replace k0 := Blk.later hb (Blk.set (Blk.set k0))) | (with_reducible replace k0 := Blk.later hb (Blk.set k0))); clear a0 b0; obtain ⟨a0, b0⟩ := k0.read; have zl := k0.lt)); (try (have zk := k1.lt; (first | ((with_reducible refine Blk.keepG hb k1 (fun h => ?_) ?_); (focus ((repeat' (first | (with_reducible assumption) | ((with_reducible refine Blk.new ?_); first | rfl | (simp; done)) | (with_reducible refine Blk.later (by assumption) ?_) | (with_reducible refine Blk.alloc ?_) | (with_reducible refine Blk.drewN ?_) | (with_reducible refine Blk.drew ?_) | (with_reducible refine Blk.other ?_ (by first | omega | (simp; done) | (simp; omega))))); done)); clear k1; intro k1) | (with_reducible replace k1 := Blk.later hb (Blk.set (Blk.set k1))) | (with_reducible replace k1 := Blk.later hb (Blk.set k1))); clear a1 b1; obtain ⟨a1, b1⟩ := k1.read; have zl := k1.lt)); (try (have zk := k2.lt; (first | ((with_reducible refine Blk.keepG hb k2 (fun h => ?_) ?_); (focus ((repeat' (first | (with_reducible assumption) | ((with_reducible refine Blk.new ?_); first | rfl | (simp; done)) | (with_reducible refine Blk.later (by assumption) ?_) | (with_reducible refine Blk.alloc ?_) | (with_reducible refine Blk.drewN ?_) | (with_reducible refine Blk.drew ?_) | (with_reducible refine Blk.other ?_ (by first | omega | (simp; done) | (simp; omega))))); done)); clear k2; intro k2) | (with_reducible replace k2 := Blk.later hb (Blk.set (Blk.set k2))) | (with_reducible replace k2 := Blk.later hb (Blk.set k2))); clear a2 b2; obtain ⟨a2, b2⟩ := k2.read; have zl := k2.lt)); (try (have zk := k3.lt; (first | ((with_reducible refine Blk.keepG hb k3 (fun h => ?_) ?_); (focus ((repeat' (first | (with_reducible assumption) | ((with_reducible refine Blk.new ?_); first | rfl | (simp; done)) | (with_reducible refine Blk.later (by assumption) ?_) | (with_reducible refine Blk.alloc ?_) | (with_reducible refine Blk.drewN ?_) | (with_reducible refine Blk.drew ?_) | (with_reducible refine Blk.other ?_ (by first | omega | (simp; done) | (simp; omega))))); done)); clear k3; intro k3) | (with_reducible replace k3 := Blk.later hb (Blk.set (Blk.set k3))) | (with_reducible replace k3 := Blk.later hb (Blk.set k3))); clear a3 b3; obtain ⟨a3, b3⟩ := k3.read; have zl := k3.lt)); (first | (have zk := kn.lt; (first | ((with_reducible refine Blk.keepG hb kn (fun h => ?_) ?_); (focus ((repeat' (first | (with_reducible assumption) | ((with_reducible refine Blk.new ?_); first | rfl | (simp; done)) | (with_reducible refine Blk.later (by assumption) ?_) | (with_reducible refine Blk.alloc ?_) | (with_reducible refine Blk.drewN ?_) | (with_reducible refine Blk.drew ?_) | (with_reducible refine Blk.other ?_ (by first | omega | (simp; done) | (simp; omega))))); done)); clear kn; intro kn) | (with_reducible replace kn := Blk.later hb (Blk.set (Blk.set kn))) | (with_reducible replace kn := Blk.later hb (Blk.set kn))); clear an bn; obtain ⟨an, bn⟩ := kn.read; have zl := kn.lt) | ((first | (with_reducible have kn := Blk.later hb (Blk.new rfl)) | (with_reducible have kn := Blk.later hb (Blk.drew (Blk.new rfl))) | (with_reducible have kn := Blk.later hb (Blk.drewN (Blk.new rfl)))); (try simp only [World.size_alloc, World.size_drew, World.heap_drewN] at kn); obtain ⟨an, bn⟩ := kn.read; have zl := kn.lt) | skip))
          | (go_at_call 79; (with_reducible refine (HR.out _).mono ?_); rintro e w1 ⟨rfl, hb⟩; (try (have zk := k0.lt; (first | ((with_reducible refine Blk.keepG hb k0 (fun h => ?_) ?_); (focus ((repeat' (first | (with_reducible assumption) | ((with_reducible refine Blk.new ?_); first | rfl | (simp; done)) | (with_reducible refine Blk.later (by assumption) ?_) | (with_reducible refine Blk.alloc ?_) | (with_reducible refine Blk.drewN ?_) | (with_reducible refine Blk.drew ?_) | (with_reducible refine Blk.other ?_ (by first | omega | (simp; done) | (simp; omega))))); done)); clear k0; intro k0) | (with_reducible replace k0 := Blk.later hb (Blk.set (Blk.set k0))) | (with_reducible replace k0 := Blk.later hb (Blk.set k0))); clear a0 b0; obtain ⟨a0, b0⟩ := k0.read; have zl := k0.lt)); (try (have zk := k1.lt; (first | ((with_reducible refine Blk.keepG hb k1 (fun h => ?_) ?_); (focus ((repeat' (first | (with_reducible assumption) | ((with_reducible refine Blk.new ?_); first | rfl | (simp; done)) | (with_reducible refine Blk.later (by assumption) ?_) | (with_reducible refine Blk.alloc ?_) | (with_reducible refine Blk.drewN ?_) | (with_reducible refine Blk.drew ?_) | (with_reducible refine Blk.other ?_ (by first | omega | (simp; done) | (simp; omega))))); done)); clear k1; intro k1) | (with_reducible replace k1 := Blk.later hb (Blk.set (Blk.set k1))) | (with_reducible replace k1 := Blk.later hb (Blk.set k1))); clear a1 b1; obtain ⟨a1, b1⟩ := k1.read; have zl := k1.lt)); (try (have zk := k2.lt; (first | ((with_reducible refine Blk.keepG hb k2 (fun h => ?_) ?_); (focus ((repeat' (first | (with_reducible assumption) | ((with_reducible refine Blk.new ?_); first | rfl | (simp; done)) | (with_reducible refine Blk.later (by assumption) ?_) | (with_reducible refine Blk.alloc ?_) | (with_reducible refine Blk.drewN ?_) | (with_reducible refine Blk.drew ?_) | (with_reducible refine Blk.other ?_ (by first | omega | (simp; done) | (simp; omega))))); done)); clear k2; intro k2) | (with_reducible replace k2 := Blk.later hb (Blk.set (Blk.set k2))) | (with_reducible replace k2 := Blk.later hb (Blk.set k2))); clear a2 b2; obtain ⟨a2, b2⟩ := k2.read; have zl := k2.lt)); (try (have zk := k3.lt; (first | ((with_reducible refine Blk.keepG hb k3 (fun h => ?_) ?_); (focus ((repeat' (first | (with_reducible assumption) | ((with_reducible refine Blk.new ?_); first | rfl | (simp; done)) | (with_reducible refine Blk.later (by assumption) ?_) | (with_reducible refine Blk.alloc ?_) | (with_reducible refine Blk.drewN ?_) | (with_reducible refine Blk.drew ?_) | (with_reducible refine Blk.other ?_ (by first | omega | (simp; done) | (simp; omega))))); done)); clear k3; intro k3) | (with_reducible replace k3 := Blk.later hb (Blk.set (Blk.set k3))) | (with_reducible replace k3 := Blk.later hb (Blk.set k3))); clear a3 b3; obtain ⟨a3, b3⟩ := k3.read; have zl := k3.lt)); (first | (have zk := kn.lt; (first | ((with_reducible refine Blk.keepG hb kn (fun h => ?_) ?_); (focus ((repeat' (first | (with_reducible assumption) | ((with_reducible refine Blk.new ?_); first | rfl | (simp; done)) | (with_reducible refine Blk.later (by assumption) ?_) | (with_reducible refine Blk.alloc ?_) | (with_reducible refine Blk.drewN ?_) | (with_reducible refine Blk.drew ?_) | (with_reducible refine Blk.other ?_ (by first | omega | (simp; done) | (simp; omega))))); done)); clear kn; intro kn) | (with_reducible replace kn := Blk.later hb (Blk.set (Blk.set kn))) | (with_reducible replace kn := Blk.later hb (Blk.set kn))); clear an bn; obtain ⟨an, bn⟩ := kn.read; have zl := kn.lt) | ((first | (with_reducible have kn := Blk.later hb (Blk.new rfl)) | (with_reducible have kn := Blk.later hb (Blk.drew (Blk.new rfl))) | (with_reducible have kn := Blk.later hb (Blk.drewN (Blk.new rfl)))); (try simp only [World.size_alloc, World.size_drew, World.heap_drewN] at kn); obtain ⟨an, bn⟩ := kn.read; have zl := kn.lt) | skip)))
        all_goals
          go_wp2_with fail
          exact bodyPost_ret (v := .tuple #[.agg #[.int .i64 N, .int .i64 M], .int .i64 E]) (by simp only [results, Try.results113]; go_simp) rfl ⟨rfl, by (repeat' (first | (with_reducible exact Below.refl _ _) | (with_reducible assumption) | (with_reducible refine belowThru ?_ (by assumption)) | (with_reducible refine belowAlloc ?_) | (with_reducible refine Below.setCell ?_ (by first | omega | (simp; done) | (simp; omega)) _) | (with_reducible refine Below.drew ?_) | (with_reducible refine below_drewN ?_ _)))⟩
end Go.Proofs.Ytdimmnoflenfhaa
