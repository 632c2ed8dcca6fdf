/-
  The texts that the laws of this seat share, merged: part 1.
-/
import Derived.BigQuiet
import Derived.ChangeSame
import Derived.Deep.CutBlock
import Derived.Deep.CutRange
import Derived.Deep.DeepCutAuto
import Derived.Deep.DeepHandedRow
import Derived.Deep.Draws
import Derived.Deep.LoopGhost
import Derived.Deep.QuietTactic
import Derived.Deep.RegionHeld3
import Derived.LaidSub
import Derived.Laws.AppendOwn
import Derived.Laws.Bits64b
import Derived.Laws.BitsAll
import Derived.Laws.BitsAllLaws
import Derived.Lay
import Derived.Lib.Hide
import Derived.Lib.ItoaNum
import Derived.Lib.SmallJoins
import Derived.LoopTactic
import Derived.OneCell
import Derived.OpenShut
import Derived.ProofKit
import Derived.Shelf.Bits.Mul64
import Derived.Shelf.Small.Bits
import Derived.Shelf.Spec.BitsCarry
import Derived.Shelf.Strconv.Itoa0
import Derived.StillTailTactics
import Derived.Test.YtbdcmdofmokoeaaProg
import Derived.Test.YtbdcmdofmokoeaaRows
import Derived.WalkKit
import Derived.WalkLawsBesides
import Derived.WalkSmall
import Derived.WalkSpells
/-
  A block of the memory that is known whole, and what leaves it so.
-/
namespace Go.Proofs.Ytbdcmdofmokoeaa
open Go.RowKit

/-- Block b holds these cells, and may be written. -/
def Blk (w : World) (b : Nat) (c : Array Value) (t : TypeId) : Prop := w.heap[b]? = some (.cells c t (0, 0))
theorem Blk.lt {w : World} {b : Nat} {c : Array Value} {t : TypeId} (h : Blk w b c t) : b < w.heap.size := lt_of_block h
theorem Blk.later {w wx : World} {b : Nat} {c : Array Value} {t : TypeId} (hb : Below w.heap.size w wx) (h : Blk w b c t) : Blk wx b c t := (hb.block b h.lt).trans h
theorem Blk.below {B : Nat} {w wx : World} {b : Nat} {c : Array Value} {t : TypeId} (hb : Below B w wx) (hB : b < B) (h : Blk w b c t) : Blk wx b c t := (hb.block b hB).trans h
theorem Blk.new {w : World} {n : Nat} {c : Array Value} {t : TypeId} (hn : n = w.heap.size) : Blk (w.alloc (.cells c t)) n c t := by
  subst hn
  show (w.heap.push _)[w.heap.size]? = _
  simp
theorem Blk.alloc {w : World} {o : Obj} {b : Nat} {c : Array Value} {t : TypeId} (h : Blk w b c t) : Blk (w.alloc o) b c t := by
  have := h.lt
  exact (Below.heap_alloc w o b this).trans h
theorem Blk.drewN {w : World} {n b : Nat} {c : Array Value} {t : TypeId} (h : Blk w b c t) : Blk (w.drewN n) b c t := h
theorem Blk.drew {w : World} {b : Nat} {c : Array Value} {t : TypeId} (h : Blk w b c t) : Blk w.drew b c t := h
theorem Blk.other {w : World} {a : Addr} {v : Value} {b : Nat} {c : Array Value} {t : TypeId} (h : Blk w b c t) (ha : b ≠ a.block) : Blk (w.setCell a v) b c t :=
  (Below.heap_setCell w a v b ha).trans h
theorem Blk.set {w : World} {i b : Nat} {v : Value} {c : Array Value} {t : TypeId} (h : Blk w b c t) : Blk (w.setCell ⟨b, i, none⟩ v) b (c.setIfInBounds i v) t := by
  have hlt := h.lt
  have h' : w.heap[b] = .cells c t (0, 0) := by
    have : w.heap[b]? = some (.cells c t (0, 0)) := h
    simpa [Array.getElem?_eq_getElem hlt] using this
  show (w.heap.modify b _)[b]? = _
  rw [Array.getElem?_eq_getElem (by simpa using hlt), Array.getElem_modify_self, h']
  rfl
theorem Blk.keep {w W w1 : World} {b : Nat} {c : Array Value} {t : TypeId} (hb : Below W.heap.size W w1) (k : Blk w b c t) (h : Blk w b c t → Blk W b c t) : Blk w1 b c t := Blk.later hb (h k)
theorem Blk.keepG {w W w1 : World} {b : Nat} {c : Array Value} {t : TypeId} {G : Prop} (hb : Below W.heap.size W w1) (k : Blk w b c t) (h : Blk w b c t → Blk W b c t) (g : Blk w1 b c t → G) : G := g (Blk.later hb (h k))
theorem Blk.cells {w : World} {b : Nat} {c : Array Value} {t : TypeId} (h : Blk w b c t) (i : Nat) : w.cell? ⟨b, i, none⟩ = c[i]? := by
  have h' : w.heap[b]? = some (.cells c t (0, 0)) := h
  simp [World.cell?, h']
theorem Blk.free {w : World} {b : Nat} {c : Array Value} {t : TypeId} (h : Blk w b c t) (i : Nat) : w.frozen? ⟨b, i, none⟩ = false := by
  have h' : w.heap[b]? = some (.cells c t (0, 0)) := h
  simp [World.frozen?, h']
theorem Blk.full {w : World} {b : Nat} {c : Array Value} {t : TypeId} (h : Blk w b c t) : Blk w b c t ∧ (∀ i : Nat, w.cell? ⟨b, i, none⟩ = c[i]?) := ⟨h, h.cells⟩
theorem Blk.read {w : World} {b : Nat} {c : Array Value} {t : TypeId} (h : Blk w b c t) : (∀ i, w.cell? ⟨b, i, none⟩ = c[i]?) ∧ (∀ i, w.frozen? ⟨b, i, none⟩ = false) := ⟨h.cells, h.free⟩
theorem belowThru {w W w1 : World} (h : Below w.heap.size w W) (hb : Below W.heap.size W w1) : Below w.heap.size w w1 := h.trans (hb.mono h.size)
theorem belowAlloc {w W : World} {o : Obj} (h : Below w.heap.size w W) : Below w.heap.size w (W.alloc o) := h.alloc h.size o
/-- A pointer to a block from a number on that holds these cells. -/
def At (wx : World) (lo : Nat) (c : Array Value) (t : TypeId) (s : Value) : Prop := ∃ b : Nat, s = .pointer (some ⟨b, 0, none⟩) ∧ lo ≤ b ∧ Blk wx b c t
theorem At.mk {wx : World} {lo b : Nat} {c : Array Value} {t : TypeId} (h : lo ≤ b) (k : Blk wx b c t) : At wx lo c t (.pointer (some ⟨b, 0, none⟩)) := ⟨b, rfl, h, k⟩
/-- Two pointers to two blocks from a number on. -/
def At2 (wx : World) (lo : Nat) (c d : Array Value) (t : TypeId) (s u : Value) : Prop := ∃ a b : Nat, s = .pointer (some ⟨a, 0, none⟩) ∧ u = .pointer (some ⟨b, 0, none⟩) ∧ lo ≤ a ∧ lo ≤ b ∧ a ≠ b ∧ Blk wx a c t ∧ Blk wx b d t
theorem At2.mk {wx : World} {lo a b : Nat} {c d : Array Value} {t : TypeId} (ha : lo ≤ a) (hb : lo ≤ b) (hn : a ≠ b) (k : Blk wx a c t) (l : Blk wx b d t) : At2 wx lo c d t (.pointer (some ⟨a, 0, none⟩)) (.pointer (some ⟨b, 0, none⟩)) := ⟨a, b, rfl, rfl, ha, hb, hn, k, l⟩
/-- What is held of two blocks, handed on. -/
theorem hold2 {w : World} {b0 b1 : Nat} {c0 c1 : Array Value} {t0 t1 : TypeId} {B D E G : Prop} (h : (Blk w b0 c0 t0 ∧ B) ∧ (Blk w b1 c1 t1 ∧ D) ∧ E) (g : Blk w b0 c0 t0 → Blk w b1 c1 t1 → E → G) : G := g h.1.1 h.2.1.1 h.2.2
theorem hold1 {w : World} {b0 : Nat} {c0 : Array Value} {t0 : TypeId} {B E G : Prop} (h : (Blk w b0 c0 t0 ∧ B) ∧ E) (g : Blk w b0 c0 t0 → E → G) : G := g h.1.1 h.2
end Go.Proofs.Ytbdcmdofmokoeaa
/-
  Slices that read as lists; what a call keeps.
-/
namespace Go.Proofs.Ytbdcmdofmokoeaa
open Go.RowKit
set_option linter.unusedVariables false
set_option linter.unusedSimpArgs false

/-- The cells of some numbers. -/
def ints (zs : List Int) : Array Value := (zs.map (Value.int .i64)).toArray
theorem ints_get (zs : List Int) (j : Nat) : (ints zs)[j]? = zs[j]?.map (Value.int .i64) := by simp [ints]
theorem cell_alloc {w : World} {o : Obj} {a : Addr} {v : Value} (h : w.cell? a = some v) : (w.alloc o).cell? a = some v := cell_later (belowAlloc (Below.refl _ _)) h
theorem ret_int {k : IntKind} {a b : Int} (h : a = b) : Ending.returned (.int k a) = .returned (.int k b) := by rw [h]
/-- A slice that reads as these values; its address is known only where it has an element. -/
def Row (w : World) (a : Option Addr) (n : Nat) (vs : List Value) : Prop :=
  vs.length = n ∧ (0 < n → ∃ b off, a = some ⟨b, off, none⟩ ∧ b < w.heap.size ∧ ∀ j, j < n → w.cell? ⟨b, off + j, none⟩ = vs[j]?)
/-- Whole numbers, and truth values, as values. -/
def iv (zs : List Int) : List Value := zs.map (Value.int .i64)
def bv (zs : List Bool) : List Value := zs.map Value.bool
theorem iv_length (zs : List Int) : (iv zs).length = zs.length := by simp [iv]
theorem bv_length (zs : List Bool) : (bv zs).length = zs.length := by simp [bv]
theorem iv_get (zs : List Int) (j : Nat) : (iv zs)[j]? = zs[j]?.map (Value.int .i64) := by simp [iv]
theorem bv_get (zs : List Bool) (j : Nat) : (bv zs)[j]? = zs[j]?.map Value.bool := by simp [bv]
theorem Row.later {w w' : World} (hb : Below w.heap.size w w') {a : Option Addr} {n : Nat} {vs : List Value} (h : Row w a n vs) : Row w' a n vs :=
  ⟨h.1, fun hn => by
    obtain ⟨b, off, ha, hlt, hc⟩ := h.2 hn
    exact ⟨b, off, ha, Nat.lt_of_lt_of_le hlt hb.size, fun j hj => (World.cell?_of_block (w := w) (hb.block b hlt)).trans (hc j hj)⟩⟩
theorem Row.drew {w : World} {a : Option Addr} {n : Nat} {vs : List Value} (h : Row w a n vs) : Row w.drew a n vs := h
theorem Row.int {w : World} {a : Option Addr} {n : Nat} {zs : List Int} (h : Row w a n (iv zs)) {k : Nat} (hk : k < n) :
    ∃ b off z, a = some ⟨b, off, none⟩ ∧ b < w.heap.size ∧ zs[k]? = some z ∧ w.cell? ⟨b, off + k, none⟩ = some (.int .i64 z) := by
  obtain ⟨b, off, ha, hlt, hc⟩ := h.2 (by omega)
  have hl : k < zs.length := by have := h.1; rw [iv_length] at this; omega
  refine ⟨b, off, zs[k], ha, hlt, List.getElem?_eq_getElem hl, ?_⟩
  rw [hc k hk, iv_get, List.getElem?_eq_getElem hl]; rfl
theorem Row.bool {w : World} {a : Option Addr} {n : Nat} {zs : List Bool} (h : Row w a n (bv zs)) {k : Nat} (hk : k < n) :
    ∃ b off z, a = some ⟨b, off, none⟩ ∧ b < w.heap.size ∧ zs[k]? = some z ∧ w.cell? ⟨b, off + k, none⟩ = some (.bool z) := by
  obtain ⟨b, off, ha, hlt, hc⟩ := h.2 (by omega)
  have hl : k < zs.length := by have := h.1; rw [bv_length] at this; omega
  refine ⟨b, off, zs[k], ha, hlt, List.getElem?_eq_getElem hl, ?_⟩
  rw [hc k hk, bv_get, List.getElem?_eq_getElem hl]; rfl
theorem Row.of_blk {w : World} {b : Nat} {zs : List Int} {t : TypeId} (h : Blk w b (ints zs) t) : Row w (some ⟨b, 0, none⟩) zs.length (iv zs) :=
  ⟨iv_length zs, fun _ => ⟨b, 0, rfl, h.lt, fun j _ => by rw [h.cells, ints_get, iv_get, Nat.zero_add]⟩⟩
theorem Row.nil (w : World) (a : Option Addr) : Row w a 0 [] := ⟨rfl, fun h => absurd h (by omega)⟩

end Go.Proofs.Ytbdcmdofmokoeaa
/-
  What every plain law of the seat asks beside its walk, whatever its arguments: the answer true in a world in which all that was there reads as before.
-/
namespace Go.Proofs.Ytbdcmdofmokoeaa
open Go.ChangeShapes Go.WideShapes Go.ChangeAt Go.RowKit
set_option linter.unusedVariables false
set_option linter.unusedSimpArgs false

theorem own : ownKnob Try.prog.godebug = none := by kernel_rfl
theorem laidOut : laidOutB Try.prog = true := by kernel_rfl

section
variable {H : Type} {enc : TypeId × Value → H}
/-- All that was there reads as before. -/
theorem trodAll_keep {P : Program} (hl : laidOutB P = true) {W W' : World} (hb : Below W.heap.size W W') (sp : Nat → Bool) (ts : List TypeId) :
    ∀ (vs : List Value) (ds : List (DataW H)) (ps : List MemPlace), (ts.all fun t => P.readableRec t && decide (t < P.types.size)) = true → DataW.TrodAll enc P W 0 (fun _ => true) true ts vs ds ps → (∀ x ∈ ps, x.block < W.heap.size) → (∀ x ∈ ps, sp x.block = true) →
    DataW.TrodAll enc P W' 0 sp true ts vs ds ps := by
  induction ts with
  | nil =>
    intro vs ds ps _ h _ _
    obtain ⟨rfl, rfl, rfl⟩ := trodAll_nil h
    exact trodAll_mk0
  | cons t ts ih =>
    intro vs ds ps hr h hlt hsp
    obtain ⟨v, vs, d, ds, p, q, rfl, rfl, rfl, h0, h1⟩ := trodAll_cons h
    rw [List.all_cons, Bool.and_eq_true, Bool.and_eq_true, decide_eq_true_eq] at hr
    exact trodAll_cons_mk (WideElems.Trod_stays hl hr.1.1 hr.1.2 h0 (fun x hx => hb.same (hlt x (List.mem_append_left _ hx))) (fun x hx => hsp x (List.mem_append_left _ hx)))
      (ih vs ds q hr.2 h1 (fun x hx => hlt x (List.mem_append_right _ hx)) (fun x hx => hsp x (List.mem_append_right _ hx)))

set_option maxRecDepth 100000 in
/-- The answer is true, and what was there is as it was. -/
theorem post_keep {fn : Func} {s : ChangeSpec} {apart : Bool} {W W' : World} {args : Array Value} {ds : List (DataW H)} {before : List MemPlace}
    (hW : DataW.Whole enc Try.prog fn.params.toList s.vars apart W args.toList ds [] before) (hv : s.vars = []) (hr : fn.resultTypes = #[4])
    (hs : s.fn H ds = { results := [.lit (.bool true)], args := ds })
    (hp : (fn.params.toList.all fun t => Try.prog.readableRec t && decide (t < Try.prog.types.size)) = true)
    (hb : Below W.heap.size W W') : s.post enc Try.prog fn apart true false false W args (.bool true) W' := by
  have hbool : Try.prog.underlying 4 = some .bool := by kernel_rfl
  have hlt : ∀ p ∈ before, p.block < W.heap.size := fun p hp => hW.lt p hp
  have hold : ∀ p ∈ before, (fun b => decide (b < W.heap.size)) p.block = true := fun p hp => by simpa using hlt p hp
  have hW0 := hW
  obtain ⟨pa, pv, hA, hV, rfl, hz, hn⟩ := hW0
  have hV' := hV
  rw [hv] at hV'
  obtain ⟨-, rfl⟩ := trodVars_none hV'
  have hres : ∀ (b : Nat) (sp : Nat → Bool) (hd : Bool), DataW.TrodAll enc Try.prog W' b sp hd fn.resultTypes.toList ((Value.bool true).resultList fn.resultTypes.size) (s.fn H (ds ++ [])).results [] := by
    intro b sp hd
    rw [List.append_nil, hs, hr]
    exact trodAll_cons_mk (shut_bool hbool _) trodAll_mk0
  have hargs : ∀ sp : Nat → Bool, (∀ p ∈ pa, sp p.block = true) → DataW.TrodAll enc Try.prog W' 0 sp true fn.params.toList args.toList (s.fn H (ds ++ [])).args pa := by
    intro sp hsp
    rw [List.append_nil, hs]
    exact trodAll_keep laidOut hb sp _ _ _ _ hp hA (fun x hx => hlt x (by simpa using hx)) hsp
  have hvars : ∀ sp : Nat → Bool, DataW.TrodVars enc Try.prog W' sp s.vars (s.fn H (ds ++ [])).vars [] := by
    intro sp
    rw [hv, List.append_nil, hs]
    exact rfl
  have hk : Value.okWide Try.prog W' .any 0 4 (.bool true) := okWide_bool_mk hbool true
  have hok := ok_one (P := Try.prog) (W' := W') (f := fn) (v := .bool true) hr (by simp [Value.resultList]) hk
  refine ⟨ds, [], pa ++ [], [], pa, [], hW, hres _ _ _, hargs _ (fun p hp => hold p (by simpa using hp)), hvars _, World.keptBut_mono (fun p hp => ⟨hp, ?_⟩) (hb.frame (· ∈ pa ++ [])), fun _ => ?_⟩
  · rw [List.mem_append] at hp
    exact Or.inr hp
  · refine ⟨hok, _, _, ([] ++ pa) ++ [], ⟨[] ++ pa, [], trodAll_append (hargs _ (fun _ _ => rfl)) (hres _ _ _), hvars _, rfl, ?_, ?_⟩, ?_⟩
    · intro b off hp
      have hin : MemPlace.cell b off ∈ pa ++ [] := by simpa using hp
      rw [hb.frozen (hlt _ hin)]
      exact hz b off hin
    · intro ha
      have := hn ha
      simpa using this
    · intro p hp _
      simpa using hp

/-! ### A list among the arguments -/
/-! ### A struct of whole numbers among the arguments -/
def numV : Value → Int
  | .int _ n => n
  | _ => 0
theorem open_nums {P : Program} {ti : TypeId} (hti : P.underlying ti = some (.int .i64)) {W : World} {b0 : Nat} {r : Reach} {t : TypeId} {fs : Array Field} {v : Value} {d : DataW H} {p : List MemPlace} (hs : P.underlying t = some (.struct fs)) (hone : Deep.oneCellFields P fs = true) (hC : P.cellsOf t = fs.size) (hty : (fs.all fun f => f.type == ti) = true)
    (hval : Value.okWide P W r b0 t v) (h : DataW.Trod enc P W 0 (fun _ => true) true t v d p) :
    ∃ zs : List Int, zs.length = fs.size ∧ v = .agg (ints zs) ∧ ∀ z ∈ zs, (Lit.int .i64 z).wf = true := by
  obtain ⟨cs, rfl, hsz⟩ := okWide_struct hs hval
  obtain ⟨fuel, hf⟩ := h
  obtain ⟨xs, n, _, hx, _, hlen, hg⟩ := DataW.trod_struct hs hf
  have each : ∀ j, j < cs.size → ∃ z, cs[j]? = some (.int .i64 z) ∧ (Lit.int .i64 z).wf = true := by
    intro j hj
    have hjf : j < fs.size := by omega
    have hfj : fs[j]? = some fs[j] := Array.getElem?_eq_getElem hjf
    obtain ⟨ho, hk⟩ := Deep.hone_of hone j fs[j] hfj
    have h1 := hg j fs[j] hfj
    have ht : fs[j].type = ti := by simpa using (Array.all_eq_true.1 hty) j hjf
    rw [ho, hk, ht] at h1
    have e : ((Value.agg cs).cells.toList.drop j).take 1 = [cs[j]] := by
      show (cs.toList.drop j).take 1 = _
      rw [List.drop_eq_getElem_cons (by simpa using hj)]
      simp
    rw [e, List.getElem?_eq_getElem (show j < xs.length by omega)] at h1
    obtain ⟨z, hz, -, wz⟩ := DataW.trod_int hti h1
    simp only [List.cons.injEq, and_true] at hz
    exact ⟨z, by rw [Array.getElem?_eq_getElem hj, hz], wz⟩
  refine ⟨cs.toList.map numV, by simp; omega, ?_, ?_⟩
  · congr 1
    apply Array.ext'
    apply List.ext_getElem?
    intro j
    unfold ints
    simp only [List.map_map, List.getElem?_map]
    by_cases hj : j < cs.size
    · obtain ⟨z, hz, -⟩ := each j hj
      rw [Array.getElem?_toList, hz]; rfl
    · rw [List.getElem?_eq_none (by simpa using hj)]; rfl
  · intro z hz
    obtain ⟨u, hu, rfl⟩ := List.mem_map.1 hz
    obtain ⟨j, hj, rfl⟩ := List.mem_iff_getElem.1 hu
    obtain ⟨z, hz', wz⟩ := each j (by simpa using hj)
    have : cs.toList[j] = .int .i64 z := by
      have h2 : cs.toList[j]? = some (.int .i64 z) := by rw [Array.getElem?_toList, hz']
      rw [List.getElem?_eq_getElem hj] at h2; exact Option.some.inj h2
    rw [this]; exact wz
end
end Go.Proofs.Ytbdcmdofmokoeaa
/-
  Layer 4: are all numbers of a list in a range?
-/
namespace Go.Proofs.Ytbdcmdofmokoeaa
open Go.RowKit
set_option linter.unusedVariables false
set_option linter.unusedSimpArgs false

theorem lt_of_cell {w : World} {b o : Nat} {v : Value} (h : w.cell? ⟨b, o, none⟩ = some v) : b < w.heap.size := by
  unfold World.cell? at h
  by_cases hb : b < w.heap.size
  · exact hb
  · simp [Array.getElem?_eq_none (show w.heap.size ≤ b by omega)] at h
theorem Row.one {w : World} {b : Nat} {x : Int} (h : w.cell? ⟨b, 0, none⟩ = some (.int .i64 x)) : Row w (some ⟨b, 0, none⟩) 1 (iv [x]) :=
  ⟨rfl, fun _ => ⟨b, 0, rfl, lt_of_cell h, fun j hj => by obtain rfl : j = 0 := (by omega); exact h⟩⟩
theorem Row.two {w : World} {b : Nat} {x y : Int} (h : w.cell? ⟨b, 0, none⟩ = some (.int .i64 x)) (k : w.cell? ⟨b, 1, none⟩ = some (.int .i64 y)) : Row w (some ⟨b, 0, none⟩) 2 (iv [x, y]) :=
  ⟨rfl, fun _ => ⟨b, 0, rfl, lt_of_cell h, fun j hj => by
    rcases (show j = 0 ∨ j = 1 by omega) with rfl | rfl
    · exact h
    · exact k⟩⟩
/-- All numbers are in a range. -/
def AllIn (lo hi : Int) (zs : List Int) : Prop := ∀ z ∈ zs, lo ≤ z ∧ z ≤ hi
instance (lo hi : Int) (zs : List Int) : Decidable (AllIn lo hi zs) := inferInstanceAs (Decidable (∀ z ∈ zs, _))
theorem AllIn.snoc {lo hi : Int} {zs : List Int} {k : Nat} {z : Int} (h : AllIn lo hi (zs.take k)) (hz : zs[k]? = some z) (ok : lo ≤ z ∧ z ≤ hi) : AllIn lo hi (zs.take (k + 1)) := by
  rw [List.take_add_one, hz]
  intro x hx
  rcases List.mem_append.1 hx with k | k
  · exact h x k
  · simp at k; subst k; exact ok
theorem AllIn.all {lo hi : Int} {zs : List Int} {k : Nat} (h : AllIn lo hi (zs.take k)) (hk : zs.length ≤ k) : AllIn lo hi zs := by
  rwa [List.take_of_length_le hk] at h
theorem AllIn.not {lo hi : Int} {zs : List Int} {k : Nat} {z : Int} (hz : zs[k]? = some z) (no : ¬ (lo ≤ z ∧ z ≤ hi)) : ¬ AllIn lo hi zs := fun h => no (h z (List.mem_of_getElem? hz))

set_option maxHeartbeats 2000000 in
theorem jwithin_any (lo hi : Int) (a : Option Addr) (n c : Nat) (zs : List Int) (hn : n ≤ maxLen) (w : World) (hR : Row w a n (iv zs)) :
    Calls Try.prog 54 #[.int .i64 lo, .int .i64 hi, .slice a n c] w fun e w' => e = .returned (.bool (decide (AllIn lo hi zs))) ∧ Below w.heap.size w w' := by
  unfold maxLen at hn
  have hx : zs.length = n := by have := hR.1; rwa [iv_length] at this
  have HX := Lib.hid hx; have HR := Lib.hid hR
  clear hx hR
  go_enter Try.func54, Try.ntmps54
  go_wp2
  go_loopw [8, 11] (fun v i wr => ∃ k : Nat, k ≤ n ∧ i = .int .i64 k ∧ Hid (AllIn lo hi (zs.take k)) ∧ Below w.heap.size w wr) (fun _ i _ => n - (intOf i).toNat)
  case atStart => exact ⟨0, Nat.zero_le _, rfl, (show AllIn lo hi (zs.take 0) from fun z hz => by simp at hz), by (repeat' (first | (with_reducible exact Below.refl _ _) | (with_reducible assumption) | (with_reducible refine belowThru ?_ (by assumption)) | (with_reducible refine belowAlloc ?_) | (with_reducible refine Below.setCell ?_ (by first | omega | (simp; done) | (simp; omega)) _) | (with_reducible refine Below.drew ?_) | (with_reducible refine below_drewN ?_ _)))⟩
  case round =>
    obtain ⟨k, hk, rfl, ht, hB⟩ := hrel
    by_cases hlt : k < n
    · obtain ⟨b1, o1, z1, rfl, l1, h1, c1⟩ := HR.out.int hlt
      have c1 := cell_later hB c1
      have p0 : (0 : Int) ≤ (k : Int) := by omega
      have p1 : (k : Int) < (n : Int) := by omega
      by_cases he : lo ≤ z1 ∧ z1 ≤ hi
      · have ht' : Hid (AllIn lo hi (zs.take (k + 1))) := AllIn.snoc ht.out h1 he
        obtain ⟨e1, e2⟩ := he
        clear h1
        go_wp2
        go_roundw
        case rel => exact ⟨k + 1, hlt, by go_num, ht', by (repeat' (first | (with_reducible exact Below.refl _ _) | (with_reducible assumption) | (with_reducible refine belowThru ?_ (by assumption)) | (with_reducible refine belowAlloc ?_) | (with_reducible refine Below.setCell ?_ (by first | omega | (simp; done) | (simp; omega)) _) | (with_reducible refine Below.drew ?_) | (with_reducible refine below_drewN ?_ _)))⟩
        case measure => simp [intOf]; omega
      · have hz : decide (AllIn lo hi zs) = false := decide_eq_false (AllIn.not h1 he)
        have he' : z1 < lo ∨ (lo ≤ z1 ∧ hi < z1) := by omega
        clear h1 he
        rcases he' with e1 | ⟨e1, e2⟩
        all_goals
          go_wp2
          go_ret
          exact ⟨by first | rfl | (rw [hz]; rfl), by (repeat' (first | (with_reducible exact Below.refl _ _) | (with_reducible assumption) | (with_reducible refine belowThru ?_ (by assumption)) | (with_reducible refine belowAlloc ?_) | (with_reducible refine Below.setCell ?_ (by first | omega | (simp; done) | (simp; omega)) _) | (with_reducible refine Below.drew ?_) | (with_reducible refine below_drewN ?_ _)))⟩
    · have hz : decide (AllIn lo hi zs) = true := decide_eq_true (AllIn.all (k := k) ht.out (by rw [HX.out]; omega))
      go_wp2
      go_ret
      exact ⟨by first | rfl | (rw [hz]; rfl), by (repeat' (first | (with_reducible exact Below.refl _ _) | (with_reducible assumption) | (with_reducible refine belowThru ?_ (by assumption)) | (with_reducible refine belowAlloc ?_) | (with_reducible refine Below.setCell ?_ (by first | omega | (simp; done) | (simp; omega)) _) | (with_reducible refine Below.drew ?_) | (with_reducible refine below_drewN ?_ _)))⟩
theorem jwithin_one (lo hi k : Int) (B : Nat) (w : World) (h : w.cell? ⟨B, 0, none⟩ = some (.int .i64 k)) :
    Calls Try.prog 54 #[.int .i64 lo, .int .i64 hi, .slice (some ⟨B, 0, none⟩) 1 1] w fun e w' => e = .returned (.bool (decide (lo ≤ k ∧ k ≤ hi))) ∧ Below w.heap.size w w' := by
  have := jwithin_any lo hi (some ⟨B, 0, none⟩) 1 1 [k] (by unfold maxLen; omega) w (Row.one h)
  rwa [show decide (AllIn lo hi [k]) = decide (lo ≤ k ∧ k ≤ hi) from by
    rw [Bool.eq_iff_iff, decide_eq_true_eq, decide_eq_true_eq]
    exact ⟨fun h => h k (by simp), fun h z hz => by simp at hz; subst hz; exact h⟩] at this
end Go.Proofs.Ytbdcmdofmokoeaa
/-
  Gray codes and stripes: plain numbers.
-/
namespace Go.Proofs.Ytbdcmdofmokoeaa

/-- A number by its bits, the highest first. -/
def fromBits (bs : List Bool) : Nat := bs.foldl (fun a b => 2 * a + b.toNat) 0
theorem fromBits_snoc (bs : List Bool) (b : Bool) : fromBits (bs ++ [b]) = 2 * fromBits bs + b.toNat := by simp [fromBits]
theorem fromBits_lt (bs : List Bool) : fromBits bs < 2 ^ bs.length := by
  rw [← List.reverse_reverse bs]
  generalize bs.reverse = l
  induction l with
  | nil => simp [fromBits]
  | cons b l ih =>
    rw [List.reverse_cons, fromBits_snoc, List.length_append, List.length_singleton, Nat.pow_succ]
    cases b <;> simp only [Bool.toNat, cond_true, cond_false] <;> omega
/-- Is a value above the other list's by more than m? -/
def brs (m : Int) (xs ys : List Int) : List Bool := List.zipWith (fun x y => decide (m < x - y)) xs ys
/-- The Gray code. -/
def grayN (k : Nat) : Nat := k ^^^ (k / 2)
/-- May the stripe be k? -/
def mayB (m : Int) (xs ys : List Int) (k : Nat) : Bool := (grayN k &&& fromBits (brs m xs ys) == fromBits (brs m xs ys)) && (grayN k &&& fromBits (brs m ys xs) == 0)
theorem brs_length (m : Int) (xs ys : List Int) (h : xs.length = ys.length) : (brs m xs ys).length = xs.length := by simp [brs, h]
theorem brs_get (m : Int) (xs ys : List Int) (h : xs.length = ys.length) (i : Nat) (hi : i < xs.length) : (brs m xs ys)[i]? = some (decide (m < xs[i]?.getD 0 - ys[i]?.getD 0)) := by
  simp [brs, List.getElem?_zipWith, List.getElem?_eq_getElem hi, List.getElem?_eq_getElem (h ▸ hi)]
/-- The numbers that a stripe may be. -/
def stripes (m : Int) (xs ys : List Int) (c : Nat) : List Int := List.map (fun k : Nat => (k : Int)) ((List.range c).filter (mayB m xs ys))
theorem stripes_snoc (m : Int) (xs ys : List Int) (c : Nat) : stripes m xs ys (c + 1) = stripes m xs ys c ++ if mayB m xs ys c then [(c : Int)] else [] := by
  unfold stripes
  rw [List.range_succ, List.filter_append, List.map_append]
  cases hm : mayB m xs ys c <;> simp [hm]
theorem stripes_len (m : Int) (xs ys : List Int) (c : Nat) : (stripes m xs ys c).length ≤ c := by
  unfold stripes
  rw [List.length_map]
  have := List.length_filter_le (mayB m xs ys) (List.range c)
  simpa using this
end Go.Proofs.Ytbdcmdofmokoeaa
/-
  Layer 4: Gray codes; the bits of a stripe.
-/
namespace Go.Proofs.Ytbdcmdofmokoeaa
open Go.RowKit
set_option linter.unusedVariables false
set_option linter.unusedSimpArgs false

theorem i64_xor_nat (a b : Nat) (ha : a < 9223372036854775808) (hb : b < 9223372036854775808) : bits .xor .i64 (a : Int) (b : Int) = ((a ^^^ b : Nat) : Int) := by
  have hx : a ^^^ b < 2 ^ 63 := Nat.xor_lt_two_pow (by omega) (by omega)
  show IntKind.i64.wrap ((BitVec.ofInt 64 (a : Int) ^^^ BitVec.ofInt 64 (b : Int)).toNat : Int) = _
  rw [BitVec.toNat_xor, ofInt_u64 a (by omega), ofInt_u64 b (by omega), IntKind.wrap_i64]
  omega
theorem i64_and_nat (a b : Nat) (ha : a < 9223372036854775808) (hb : b < 9223372036854775808) : bits .and .i64 (a : Int) (b : Int) = ((a &&& b : Nat) : Int) := by
  have hx : a &&& b < 2 ^ 63 := Nat.and_lt_two_pow _ (by omega)
  show IntKind.i64.wrap ((BitVec.ofInt 64 (a : Int) &&& BitVec.ofInt 64 (b : Int)).toNat : Int) = _
  rw [BitVec.toNat_and, ofInt_u64 a (by omega), ofInt_u64 b (by omega), IntKind.wrap_i64]
  omega
theorem xor_gray (k : Nat) (hk : k ≤ 255) : bits .xor .i64 (k : Int) ((k : Int) / 2) = (grayN k : Int) := by
  rw [show (k : Int) / 2 = ((k / 2 : Nat) : Int) from by omega, i64_xor_nat _ _ (by omega) (by omega)]; rfl
theorem grayN_lt (k : Nat) (hk : k ≤ 255) : grayN k < 256 := Nat.xor_lt_two_pow (n := 8) (by omega) (by omega)

set_option maxHeartbeats 400000 in
theorem gray_any (k : Nat) (hk : k ≤ 255) (w : World) :
    Calls Try.prog 63 #[.int .i64 (k : Int)] w fun e w' => e = .returned (.int .i64 (grayN k : Int)) ∧ w = w' := by
  have h0 : (0 : Int) ≤ (k : Int) := by omega
  have h1 : (k : Int) ≤ 255 := by omega
  have HX := Lib.hid (xor_gray k hk)
  go_enter Try.func63, Try.ntmps63
  go_wp2
  go_ret
  exact ⟨ret_int HX.out, rfl⟩
/-- The bits, one value after the other. -/
theorem brs_take_succ (m : Int) (xs ys : List Int) (h : xs.length = ys.length) (k : Nat) {x y : Int} (hx : xs[k]? = some x) (hy : ys[k]? = some y) :
    fromBits ((brs m xs ys).take (k + 1)) = 2 * fromBits ((brs m xs ys).take k) + (decide (m < x - y)).toNat := by
  have hk : k < xs.length := (List.getElem?_eq_some_iff.1 hx).1
  rw [List.take_add_one, brs_get m xs ys h k hk, hx, hy]
  exact fromBits_snoc _ _
theorem fromBits_le (bs : List Bool) (n : Nat) (h : bs.length ≤ n) (hn : n ≤ 50) : (fromBits bs : Int) ≤ 1125899906842624 := by
  have h1 := fromBits_lt bs
  have h2 : 2 ^ bs.length ≤ 2 ^ 50 := Nat.pow_le_pow_right (by omega) (by omega)
  omega
set_option maxHeartbeats 2000000 in
theorem brighter_any (m : Int) (a b : Option Addr) (n c d : Nat) (xs ys : List Int) (hn : n ≤ 50) (w : World) (hR : Row w a n (iv xs)) (hS : Row w b n (iv ys))
    (hv : AllIn 0 255 xs) (hu : AllIn 0 255 ys) :
    Calls Try.prog 85 #[.slice a n c, .slice b n d, .int .i64 m] w fun e w' => e = .returned (.int .i64 (fromBits (brs m xs ys) : Int)) ∧ Below w.heap.size w w' := by
  have hx : xs.length = n := by have := hR.1; rwa [iv_length] at this
  have hy : ys.length = n := by have := hS.1; rwa [iv_length] at this
  have HX := Lib.hid hx; have HY := Lib.hid hy; have HR := Lib.hid hR; have HS := Lib.hid hS; have HV := Lib.hid hv; have HU := Lib.hid hu
  clear hx hy hR hS hv hu
  go_enter Try.func85, Try.ntmps85
  go_wp2
  go_loopw [7, 8, 9, 12] (fun v _ _ i wr => ∃ k : Nat, k ≤ n ∧ i = .int .i64 k ∧ v = .int .i64 (fromBits ((brs m xs ys).take k) : Int) ∧ Below w.heap.size w wr) (fun _ _ _ i _ => n - (intOf i).toNat)
  case atStart => exact ⟨0, Nat.zero_le _, rfl, rfl, by (repeat' (first | (with_reducible exact Below.refl _ _) | (with_reducible assumption) | (with_reducible refine belowThru ?_ (by assumption)) | (with_reducible refine belowAlloc ?_) | (with_reducible refine Below.setCell ?_ (by first | omega | (simp; done) | (simp; omega)) _) | (with_reducible refine Below.drew ?_) | (with_reducible refine below_drewN ?_ _)))⟩
  case round =>
    obtain ⟨k, hk, rfl, rfl, hB⟩ := hrel
    by_cases hlt : k < n
    · obtain ⟨b1, o1, z1, rfl, l1, h1, c1⟩ := HR.out.int hlt
      obtain ⟨b2, o2, z2, rfl, l2, h2, c2⟩ := HS.out.int hlt
      have c1 := cell_later hB c1
      have c2 := cell_later hB c2
      have p0 : (0 : Int) ≤ (k : Int) := by omega
      have p1 : (k : Int) < (n : Int) := by omega
      obtain ⟨v1, v2⟩ := HV.out z1 (List.mem_of_getElem? h1)
      obtain ⟨v3, v4⟩ := HU.out z2 (List.mem_of_getElem? h2)
      have q0 : (0 : Int) ≤ (fromBits ((brs m xs ys).take k) : Int) := by omega
      have q1 := fromBits_le ((brs m xs ys).take k) k (by rw [List.length_take]; omega) (by omega)
      have HT := Lib.hid (brs_take_succ m xs ys (HX.out.trans HY.out.symm) k h1 h2)
      clear h1 h2
      by_cases hd : m < z1 - z2
      · have HT' : Hid ((fromBits ((brs m xs ys).take (k + 1)) : Int) = (fromBits ((brs m xs ys).take k) : Int) * 2 + 1) := by
          show _ = _; rw [HT.out, decide_eq_true hd]; simp [Bool.toNat]; omega
        clear HT
        generalize fromBits ((brs m xs ys).take k) = F at *
        go_wp2
        go_roundw
        case rel => exact ⟨k + 1, hlt, by go_num, by rw [HT'.out], by (repeat' (first | (with_reducible exact Below.refl _ _) | (with_reducible assumption) | (with_reducible refine belowThru ?_ (by assumption)) | (with_reducible refine belowAlloc ?_) | (with_reducible refine Below.setCell ?_ (by first | omega | (simp; done) | (simp; omega)) _) | (with_reducible refine Below.drew ?_) | (with_reducible refine below_drewN ?_ _)))⟩
        case measure => simp [intOf]; omega
      · have HT' : Hid ((fromBits ((brs m xs ys).take (k + 1)) : Int) = (fromBits ((brs m xs ys).take k) : Int) * 2) := by
          show _ = _; rw [HT.out, decide_eq_false hd]; simp [Bool.toNat]; omega
        clear HT
        generalize fromBits ((brs m xs ys).take k) = F at *
        go_wp2
        go_roundw
        case rel => exact ⟨k + 1, hlt, by go_num, by rw [HT'.out], by (repeat' (first | (with_reducible exact Below.refl _ _) | (with_reducible assumption) | (with_reducible refine belowThru ?_ (by assumption)) | (with_reducible refine belowAlloc ?_) | (with_reducible refine Below.setCell ?_ (by first | omega | (simp; done) | (simp; omega)) _) | (with_reducible refine Below.drew ?_) | (with_reducible refine below_drewN ?_ _)))⟩
        case measure => simp [intOf]; omega
    · have hz : (brs m xs ys).take k = brs m xs ys := List.take_of_length_le (by rw [brs_length _ _ _ (HX.out.trans HY.out.symm), HX.out]; omega)
      have HZ := Lib.hid hz
      clear hz
      go_wp2
      go_ret
      exact ⟨ret_int (by rw [HZ.out]), by (repeat' (first | (with_reducible exact Below.refl _ _) | (with_reducible assumption) | (with_reducible refine belowThru ?_ (by assumption)) | (with_reducible refine belowAlloc ?_) | (with_reducible refine Below.setCell ?_ (by first | omega | (simp; done) | (simp; omega)) _) | (with_reducible refine Below.drew ?_) | (with_reducible refine below_drewN ?_ _)))⟩
end Go.Proofs.Ytbdcmdofmokoeaa
/-
  Layer 4: tables in the memory; whether a table is valid, by the code and by the document.
-/
namespace Go.Proofs.Ytbdcmdofmokoeaa
open Go.RowKit
set_option linter.unusedVariables false
set_option linter.unusedSimpArgs false

/-- A slice that reads as these pairs of numbers. -/
def KRow (w : World) (a : Option Addr) (n : Nat) (ks : List (Int × Int)) : Prop :=
  ks.length = n ∧ (0 < n → ∃ b off, a = some ⟨b, off, none⟩ ∧ b < w.heap.size ∧ ∀ j, j < n → w.cell? ⟨b, off + j * 2, none⟩ = some (.int .i64 (ks[j]?.getD (0, 0)).1) ∧ w.cell? ⟨b, off + j * 2 + 1, none⟩ = some (.int .i64 (ks[j]?.getD (0, 0)).2))
theorem KRow.later {w w' : World} (hb : Below w.heap.size w w') {a : Option Addr} {n : Nat} {ks : List (Int × Int)} (h : KRow w a n ks) : KRow w' a n ks :=
  ⟨h.1, fun hn => by
    obtain ⟨b, off, ha, hlt, hc⟩ := h.2 hn
    exact ⟨b, off, ha, Nat.lt_of_lt_of_le hlt hb.size, fun j hj => ⟨(World.cell?_of_block (w := w) (hb.block b hlt)).trans (hc j hj).1, (World.cell?_of_block (w := w) (hb.block b hlt)).trans (hc j hj).2⟩⟩⟩
theorem KRow.at {w : World} {a : Option Addr} {n : Nat} {ks : List (Int × Int)} (h : KRow w a n ks) {k : Nat} (hk : k < n) :
    ∃ b off x y, a = some ⟨b, off, none⟩ ∧ b < w.heap.size ∧ ks[k]? = some (x, y) ∧ w.cell? ⟨b, off + k * 2, none⟩ = some (.int .i64 x) ∧ w.cell? ⟨b, off + k * 2 + 1, none⟩ = some (.int .i64 y) := by
  obtain ⟨b, off, ha, hlt, hc⟩ := h.2 (by omega)
  have hl : k < ks.length := by rw [h.1]; exact hk
  have e : ks[k]? = some ks[k] := List.getElem?_eq_getElem hl
  have := hc k hk
  rw [e] at this
  exact ⟨b, off, ks[k].1, ks[k].2, ha, hlt, e, this.1, this.2⟩
/-- The first of two knots is before the second one, on both sides. -/
def Lt2 (p q : Int × Int) : Prop := p.1 < q.1 ∧ p.2 < q.2
def InT (p : Int × Int) : Prop := (-4096 ≤ p.1 ∧ p.1 ≤ 4096) ∧ (-4096 ≤ p.2 ∧ p.2 ≤ 4096)
/-- The first k knots are in their ranges, and increase. -/
def UpT (ks : List (Int × Int)) (k : Nat) : Prop := (∀ i p, i < k → ks[i]? = some p → InT p) ∧ ∀ i p q, i + 1 < k → ks[i]? = some p → ks[i + 1]? = some q → Lt2 p q
theorem UpT.zero (ks : List (Int × Int)) : UpT ks 0 := ⟨fun i p h => absurd h (by omega), fun i p q h => absurd h (by omega)⟩
theorem UpT.first {ks : List (Int × Int)} {q : Int × Int} (hq : ks[0]? = some q) (h : InT q) : UpT ks 1 :=
  ⟨fun i p hi hp => by obtain rfl : i = 0 := (by omega); rw [hq] at hp; cases hp; exact h, fun i p q h => absurd h (by omega)⟩
theorem UpT.succ {ks : List (Int × Int)} {k : Nat} {p q : Int × Int} (u : UpT ks (k + 1)) (hp : ks[k]? = some p) (hq : ks[k + 1]? = some q) (h : InT q) (hl : Lt2 p q) : UpT ks (k + 2) := by
  refine ⟨fun i r hi hr => ?_, fun i r s hi hr hs => ?_⟩
  · by_cases e : i = k + 1
    · subst e; rw [hq] at hr; cases hr; exact h
    · exact u.1 i r (by omega) hr
  · by_cases e : i = k
    · subst e; rw [hp] at hr; rw [hq] at hs; cases hr; cases hs; exact hl
    · exact u.2 i r s (by omega) hr hs
/-- A table is valid. -/
def okT (ks : List (Int × Int)) : Prop := (2 ≤ ks.length ∧ ks.length ≤ 16) ∧ UpT ks ks.length
theorem okT.not_in {ks : List (Int × Int)} {k : Nat} {q : Int × Int} (hq : ks[k]? = some q) (h : ¬ InT q) : ¬ okT ks := fun o => h (o.2.1 k q (List.getElem?_eq_some_iff.1 hq).1 hq)
theorem okT.not_lt {ks : List (Int × Int)} {k : Nat} {p q : Int × Int} (hp : ks[k]? = some p) (hq : ks[k + 1]? = some q) (h : ¬ Lt2 p q) : ¬ okT ks := fun o => h (o.2.2 k p q (List.getElem?_eq_some_iff.1 hq).1 hp hq)

instance (p : Int × Int) : Decidable (InT p) := inferInstanceAs (Decidable (_ ∧ _))
theorem within_knot (x y : Int) (B : Nat) (w : World) (h0 : w.cell? ⟨B, 0, none⟩ = some (.int .i64 x)) (h1 : w.cell? ⟨B, 1, none⟩ = some (.int .i64 y)) :
    Calls Try.prog 54 #[.int .i64 (-4096), .int .i64 4096, .slice (some ⟨B, 0, none⟩) 2 2] w fun e w' => e = .returned (.bool (decide (InT (x, y)))) ∧ Below w.heap.size w w' := by
  have := jwithin_any (-4096) 4096 (some ⟨B, 0, none⟩) 2 2 [x, y] (by unfold maxLen; omega) w (Row.two h0 h1)
  have e : decide (AllIn (-4096) 4096 [x, y]) = decide (InT (x, y)) := by
    rw [Bool.eq_iff_iff, decide_eq_true_eq, decide_eq_true_eq]
    refine ⟨fun h => ⟨h x (by simp), h y (by simp)⟩, fun h z hz => ?_⟩
    simp at hz
    rcases hz with rfl | rfl
    · exact h.1
    · exact h.2
  rwa [e] at this
set_option maxRecDepth 100000 in
set_option maxHeartbeats 4000000 in
theorem knots_loop (a : Option Addr) (n c : Nat) (ks : List (Int × Int)) (hn2 : 2 ≤ n) (hn16 : n ≤ 16) (w : World) (hR : KRow w a n ks) :
    Calls Try.prog 28 #[.slice a n c] w fun e w' => (okT ks ∧ e = .returned (.int .i64 0) ∨ ¬ okT ks ∧ e = .returned (.int .i64 40)) ∧ Below w.heap.size w w' := by
  have hx : ks.length = n := hR.1
  have HX := Lib.hid hx; have HR := Lib.hid hR
  clear hx hR
  have p0 : (2 : Int) ≤ (n : Int) := by omega
  have p1 : (n : Int) ≤ 16 := by omega
  have HW1 : Hid (∀ (B : Nat) (w : World), w.cell? ⟨B, 0, none⟩ = some (.int .i64 n) → Calls Try.prog 54 #[.int .i64 2, .int .i64 16, .slice (some ⟨B, 0, none⟩) 1 1] w fun e w' => e = .returned (.bool true) ∧ Below w.heap.size w w') := by
    intro B w h0
    have := jwithin_one 2 16 n B w h0
    rwa [decide_eq_true (show 2 ≤ (n : Int) ∧ (n : Int) ≤ 16 from ⟨p0, p1⟩)] at this
  go_enter Try.func28, Try.ntmps28
  go_wp2_with (go_at_call 54; ((with_reducible refine (HW1.out _ _ (by simp [go_sem])).mono ?_); rintro e wq ⟨rfl, hbq⟩; have hB1 : Below w.heap.size w wq := by (repeat' (first | (with_reducible exact Below.refl _ _) | (with_reducible assumption) | (with_reducible refine belowThru ?_ (by assumption)) | (with_reducible refine belowAlloc ?_) | (with_reducible refine Below.setCell ?_ (by first | omega | (simp; done) | (simp; omega)) _) | (with_reducible refine Below.drew ?_) | (with_reducible refine below_drewN ?_ _)))))
  go_loopw [3, 4, 12] (fun _ _ i wr => ∃ k : Nat, k ≤ n ∧ i = .int .i64 k ∧ Hid (UpT ks k) ∧ Below w.heap.size w wr) (fun _ _ i _ => n - (intOf i).toNat)
  case atStart => exact ⟨0, Nat.zero_le _, rfl, (UpT.zero ks : UpT ks 0), hB1⟩
  case round =>
    obtain ⟨k, hk, rfl, ht, hB⟩ := hrel
    by_cases hlt : k < n
    · obtain ⟨bb, oo, x, y, rfl, l1, h1, c1, d1⟩ := HR.out.at hlt
      have c1 := cell_later hB c1
      have d1 := cell_later hB d1
      have q0 : (0 : Int) ≤ (k : Int) := by omega
      have q1 : (k : Int) < (n : Int) := by omega
      have HWx : Hid (∀ (B : Nat) (w : World), w.cell? ⟨B, 0, none⟩ = some (.int .i64 x) → w.cell? ⟨B, 1, none⟩ = some (.int .i64 y) → Calls Try.prog 54 #[.int .i64 (-4096), .int .i64 4096, .slice (some ⟨B, 0, none⟩) 2 2] w fun e w' => e = .returned (.bool (decide (InT (x, y)))) ∧ Below w.heap.size w w') := fun B w => within_knot x y B w
      by_cases hin : InT (x, y)
      · have HWy := HWx
        clear HWx
        rw [decide_eq_true hin] at HWy
        rcases Nat.eq_zero_or_pos k with rfl | hk0
        · have ht' : Hid (UpT ks (0 + 1)) := UpT.first h1 hin
          have c1 : wr.cell? ⟨bb, oo, none⟩ = some (.int .i64 x) := by simpa using c1
          have d1 : wr.cell? ⟨bb, oo + 1, none⟩ = some (.int .i64 y) := by simpa using d1
          clear h1 hin
          go_upto_region 8 with (go_at_call 54; ((with_reducible refine (HWy.out _ _ (by simp [go_sem]) (by simp [go_sem])).mono ?_); rintro e w1 ⟨rfl, hb⟩; (first | ((with_reducible have k0 := Blk.later hb (Blk.alloc (Blk.new rfl))); (with_reducible have k1 := Blk.later hb (Blk.new rfl)); simp only [World.size_alloc] at k1; obtain ⟨a0, b0⟩ := k0.read; have zl := k0.lt; obtain ⟨a1, b1⟩ := k1.read; have zl := k1.lt) | ((try (have zk := k0.lt; (first | ((with_reducible refine Blk.keepG hb k0 (fun h => ?_) ?_); (focus ((repeat' (first | (with_reducible assumption) | ((with_reducible refine Blk.new ?_); first | rfl | (simp; done)) | (with_reducible refine Blk.later (by assumption) ?_) | (with_reducible refine Blk.alloc ?_) | (with_reducible refine Blk.drewN ?_) | (with_reducible refine Blk.drew ?_) | (with_reducible refine Blk.other ?_ (by first | omega | (simp; done) | (simp; omega))))); done)); clear k0; intro k0) | (with_reducible replace k0 := Blk.later hb (Blk.set (Blk.set k0))) | (with_reducible replace k0 := Blk.later hb (Blk.set k0))); clear a0 b0; obtain ⟨a0, b0⟩ := k0.read; have zl := k0.lt)); (try (have zk := k1.lt; (first | ((with_reducible refine Blk.keepG hb k1 (fun h => ?_) ?_); (focus ((repeat' (first | (with_reducible assumption) | ((with_reducible refine Blk.new ?_); first | rfl | (simp; done)) | (with_reducible refine Blk.later (by assumption) ?_) | (with_reducible refine Blk.alloc ?_) | (with_reducible refine Blk.drewN ?_) | (with_reducible refine Blk.drew ?_) | (with_reducible refine Blk.other ?_ (by first | omega | (simp; done) | (simp; omega))))); done)); clear k1; intro k1) | (with_reducible replace k1 := Blk.later hb (Blk.set (Blk.set k1))) | (with_reducible replace k1 := Blk.later hb (Blk.set k1))); clear a1 b1; obtain ⟨a1, b1⟩ := k1.read; have zl := k1.lt))))))
          go_quiet (fail)
          go_wp2
          go_roundw
          case rel => exact ⟨0 + 1, hlt, by go_num, ht', by (repeat' (first | (with_reducible exact Below.refl _ _) | (with_reducible assumption) | (with_reducible refine belowThru ?_ (by assumption)) | (with_reducible refine belowAlloc ?_) | (with_reducible refine Below.setCell ?_ (by first | omega | (simp; done) | (simp; omega)) _) | (with_reducible refine Below.drew ?_) | (with_reducible refine below_drewN ?_ _)))⟩
          case measure => simp [intOf]; omega
        · obtain ⟨j, rfl⟩ : ∃ j, k = j + 1 := ⟨k - 1, by omega⟩
          obtain ⟨b2, o2, x', y', e2, l2, h2, c2, d2⟩ := HR.out.at (show j < n by omega)
          have e3 : bb = b2 ∧ oo = o2 := by simpa using e2
          obtain ⟨rfl, rfl⟩ := e3
          have c2 := cell_later hB c2
          have d2 := cell_later hB d2
          have q2 : (0 : Int) ≤ (j : Int) := by omega
          have q3 : (j : Int) < (n : Int) := by omega
          clear e2
          by_cases hx1 : x' < x
          · by_cases hy1 : y' < y
            · have ht' : Hid (UpT ks (j + 1 + 1)) := UpT.succ ht.out h2 h1 hin ⟨hx1, hy1⟩
              clear h1 h2 hin
              go_upto_region 8 with (go_at_call 54; ((with_reducible refine (HWy.out _ _ (by simp [go_sem]) (by simp [go_sem])).mono ?_); rintro e w1 ⟨rfl, hb⟩; (first | ((with_reducible have k0 := Blk.later hb (Blk.alloc (Blk.new rfl))); (with_reducible have k1 := Blk.later hb (Blk.new rfl)); simp only [World.size_alloc] at k1; obtain ⟨a0, b0⟩ := k0.read; have zl := k0.lt; obtain ⟨a1, b1⟩ := k1.read; have zl := k1.lt) | ((try (have zk := k0.lt; (first | ((with_reducible refine Blk.keepG hb k0 (fun h => ?_) ?_); (focus ((repeat' (first | (with_reducible assumption) | ((with_reducible refine Blk.new ?_); first | rfl | (simp; done)) | (with_reducible refine Blk.later (by assumption) ?_) | (with_reducible refine Blk.alloc ?_) | (with_reducible refine Blk.drewN ?_) | (with_reducible refine Blk.drew ?_) | (with_reducible refine Blk.other ?_ (by first | omega | (simp; done) | (simp; omega))))); done)); clear k0; intro k0) | (with_reducible replace k0 := Blk.later hb (Blk.set (Blk.set k0))) | (with_reducible replace k0 := Blk.later hb (Blk.set k0))); clear a0 b0; obtain ⟨a0, b0⟩ := k0.read; have zl := k0.lt)); (try (have zk := k1.lt; (first | ((with_reducible refine Blk.keepG hb k1 (fun h => ?_) ?_); (focus ((repeat' (first | (with_reducible assumption) | ((with_reducible refine Blk.new ?_); first | rfl | (simp; done)) | (with_reducible refine Blk.later (by assumption) ?_) | (with_reducible refine Blk.alloc ?_) | (with_reducible refine Blk.drewN ?_) | (with_reducible refine Blk.drew ?_) | (with_reducible refine Blk.other ?_ (by first | omega | (simp; done) | (simp; omega))))); done)); clear k1; intro k1) | (with_reducible replace k1 := Blk.later hb (Blk.set (Blk.set k1))) | (with_reducible replace k1 := Blk.later hb (Blk.set k1))); clear a1 b1; obtain ⟨a1, b1⟩ := k1.read; have zl := k1.lt))))))
              have hBw : Below wr.heap.size wr w1 := by (repeat' (first | (with_reducible exact Below.refl _ _) | (with_reducible assumption) | (with_reducible refine belowThru ?_ (by assumption)) | (with_reducible refine belowAlloc ?_) | (with_reducible refine Below.setCell ?_ (by first | omega | (simp; done) | (simp; omega)) _) | (with_reducible refine Below.drew ?_) | (with_reducible refine below_drewN ?_ _)))
              have c2 := cell_later hBw c2
              have d2 := cell_later hBw d2
              have hwj : IntKind.i64.wrap (j : Int) = (j : Int) := IntWalk.i64_in _ (by omega)
              go_quiet (fail)
              go_wp2
              go_roundw
              case rel => exact ⟨j + 1 + 1, hlt, by go_num, ht', by (repeat' (first | (with_reducible exact Below.refl _ _) | (with_reducible assumption) | (with_reducible refine belowThru ?_ (by assumption)) | (with_reducible refine belowAlloc ?_) | (with_reducible refine Below.setCell ?_ (by first | omega | (simp; done) | (simp; omega)) _) | (with_reducible refine Below.drew ?_) | (with_reducible refine below_drewN ?_ _)))⟩
              case measure => simp [intOf]; omega
            · have hno := Lib.hid (okT.not_lt h2 h1 (fun h => hy1 h.2))
              have hy2 : decide (y ≤ y') = true := by simp; omega
              clear h1 h2 hin
              go_upto_region 8 with (go_at_call 54; ((with_reducible refine (HWy.out _ _ (by simp [go_sem]) (by simp [go_sem])).mono ?_); rintro e w1 ⟨rfl, hb⟩; (first | ((with_reducible have k0 := Blk.later hb (Blk.alloc (Blk.new rfl))); (with_reducible have k1 := Blk.later hb (Blk.new rfl)); simp only [World.size_alloc] at k1; obtain ⟨a0, b0⟩ := k0.read; have zl := k0.lt; obtain ⟨a1, b1⟩ := k1.read; have zl := k1.lt) | ((try (have zk := k0.lt; (first | ((with_reducible refine Blk.keepG hb k0 (fun h => ?_) ?_); (focus ((repeat' (first | (with_reducible assumption) | ((with_reducible refine Blk.new ?_); first | rfl | (simp; done)) | (with_reducible refine Blk.later (by assumption) ?_) | (with_reducible refine Blk.alloc ?_) | (with_reducible refine Blk.drewN ?_) | (with_reducible refine Blk.drew ?_) | (with_reducible refine Blk.other ?_ (by first | omega | (simp; done) | (simp; omega))))); done)); clear k0; intro k0) | (with_reducible replace k0 := Blk.later hb (Blk.set (Blk.set k0))) | (with_reducible replace k0 := Blk.later hb (Blk.set k0))); clear a0 b0; obtain ⟨a0, b0⟩ := k0.read; have zl := k0.lt)); (try (have zk := k1.lt; (first | ((with_reducible refine Blk.keepG hb k1 (fun h => ?_) ?_); (focus ((repeat' (first | (with_reducible assumption) | ((with_reducible refine Blk.new ?_); first | rfl | (simp; done)) | (with_reducible refine Blk.later (by assumption) ?_) | (with_reducible refine Blk.alloc ?_) | (with_reducible refine Blk.drewN ?_) | (with_reducible refine Blk.drew ?_) | (with_reducible refine Blk.other ?_ (by first | omega | (simp; done) | (simp; omega))))); done)); clear k1; intro k1) | (with_reducible replace k1 := Blk.later hb (Blk.set (Blk.set k1))) | (with_reducible replace k1 := Blk.later hb (Blk.set k1))); clear a1 b1; obtain ⟨a1, b1⟩ := k1.read; have zl := k1.lt))))))
              have hBw : Below wr.heap.size wr w1 := by (repeat' (first | (with_reducible exact Below.refl _ _) | (with_reducible assumption) | (with_reducible refine belowThru ?_ (by assumption)) | (with_reducible refine belowAlloc ?_) | (with_reducible refine Below.setCell ?_ (by first | omega | (simp; done) | (simp; omega)) _) | (with_reducible refine Below.drew ?_) | (with_reducible refine below_drewN ?_ _)))
              have c2 := cell_later hBw c2
              have d2 := cell_later hBw d2
              have hwj : IntKind.i64.wrap (j : Int) = (j : Int) := IntWalk.i64_in _ (by omega)
              go_quiet (fail)
              go_wp2
              go_ret
              exact ⟨.inr ⟨hno.out, rfl⟩, by (repeat' (first | (with_reducible exact Below.refl _ _) | (with_reducible assumption) | (with_reducible refine belowThru ?_ (by assumption)) | (with_reducible refine belowAlloc ?_) | (with_reducible refine Below.setCell ?_ (by first | omega | (simp; done) | (simp; omega)) _) | (with_reducible refine Below.drew ?_) | (with_reducible refine below_drewN ?_ _)))⟩
          · have hno := Lib.hid (okT.not_lt h2 h1 (fun h => hx1 h.1))
            have hx2 : decide (x ≤ x') = true := by simp; omega
            clear h1 h2 hin
            go_upto_region 8 with (go_at_call 54; ((with_reducible refine (HWy.out _ _ (by simp [go_sem]) (by simp [go_sem])).mono ?_); rintro e w1 ⟨rfl, hb⟩; (first | ((with_reducible have k0 := Blk.later hb (Blk.alloc (Blk.new rfl))); (with_reducible have k1 := Blk.later hb (Blk.new rfl)); simp only [World.size_alloc] at k1; obtain ⟨a0, b0⟩ := k0.read; have zl := k0.lt; obtain ⟨a1, b1⟩ := k1.read; have zl := k1.lt) | ((try (have zk := k0.lt; (first | ((with_reducible refine Blk.keepG hb k0 (fun h => ?_) ?_); (focus ((repeat' (first | (with_reducible assumption) | ((with_reducible refine Blk.new ?_); first | rfl | (simp; done)) | (with_reducible refine Blk.later (by assumption) ?_) | (with_reducible refine Blk.alloc ?_) | (with_reducible refine Blk.drewN ?_) | (with_reducible refine Blk.drew ?_) | (with_reducible refine Blk.other ?_ (by first | omega | (simp; done) | (simp; omega))))); done)); clear k0; intro k0) | (with_reducible replace k0 := Blk.later hb (Blk.set (Blk.set k0))) | (with_reducible replace k0 := Blk.later hb (Blk.set k0))); clear a0 b0; obtain ⟨a0, b0⟩ := k0.read; have zl := k0.lt)); (try (have zk := k1.lt; (first | ((with_reducible refine Blk.keepG hb k1 (fun h => ?_) ?_); (focus ((repeat' (first | (with_reducible assumption) | ((with_reducible refine Blk.new ?_); first | rfl | (simp; done)) | (with_reducible refine Blk.later (by assumption) ?_) | (with_reducible refine Blk.alloc ?_) | (with_reducible refine Blk.drewN ?_) | (with_reducible refine Blk.drew ?_) | (with_reducible refine Blk.other ?_ (by first | omega | (simp; done) | (simp; omega))))); done)); clear k1; intro k1) | (with_reducible replace k1 := Blk.later hb (Blk.set (Blk.set k1))) | (with_reducible replace k1 := Blk.later hb (Blk.set k1))); clear a1 b1; obtain ⟨a1, b1⟩ := k1.read; have zl := k1.lt))))))
            have hBw : Below wr.heap.size wr w1 := by (repeat' (first | (with_reducible exact Below.refl _ _) | (with_reducible assumption) | (with_reducible refine belowThru ?_ (by assumption)) | (with_reducible refine belowAlloc ?_) | (with_reducible refine Below.setCell ?_ (by first | omega | (simp; done) | (simp; omega)) _) | (with_reducible refine Below.drew ?_) | (with_reducible refine below_drewN ?_ _)))
            have c2 := cell_later hBw c2
            have d2 := cell_later hBw d2
            have hwj : IntKind.i64.wrap (j : Int) = (j : Int) := IntWalk.i64_in _ (by omega)
            go_quiet (fail)
            go_wp2
            go_ret
            exact ⟨.inr ⟨hno.out, rfl⟩, by (repeat' (first | (with_reducible exact Below.refl _ _) | (with_reducible assumption) | (with_reducible refine belowThru ?_ (by assumption)) | (with_reducible refine belowAlloc ?_) | (with_reducible refine Below.setCell ?_ (by first | omega | (simp; done) | (simp; omega)) _) | (with_reducible refine Below.drew ?_) | (with_reducible refine below_drewN ?_ _)))⟩
      · have hno := Lib.hid (okT.not_in h1 hin)
        rw [decide_eq_false hin] at HWx
        clear h1 hin
        rcases Nat.eq_zero_or_pos k with rfl | hk0
        · have c1 : wr.cell? ⟨bb, oo, none⟩ = some (.int .i64 x) := by simpa using c1
          have d1 : wr.cell? ⟨bb, oo + 1, none⟩ = some (.int .i64 y) := by simpa using d1
          go_wp2_with (go_at_call 54; ((with_reducible refine (HWx.out _ _ (by simp [go_sem]) (by simp [go_sem])).mono ?_); rintro e w1 ⟨rfl, hb⟩; (first | ((with_reducible have k0 := Blk.later hb (Blk.alloc (Blk.new rfl))); (with_reducible have k1 := Blk.later hb (Blk.new rfl)); simp only [World.size_alloc] at k1; obtain ⟨a0, b0⟩ := k0.read; have zl := k0.lt; obtain ⟨a1, b1⟩ := k1.read; have zl := k1.lt) | ((try (have zk := k0.lt; (first | ((with_reducible refine Blk.keepG hb k0 (fun h => ?_) ?_); (focus ((repeat' (first | (with_reducible assumption) | ((with_reducible refine Blk.new ?_); first | rfl | (simp; done)) | (with_reducible refine Blk.later (by assumption) ?_) | (with_reducible refine Blk.alloc ?_) | (with_reducible refine Blk.drewN ?_) | (with_reducible refine Blk.drew ?_) | (with_reducible refine Blk.other ?_ (by first | omega | (simp; done) | (simp; omega))))); done)); clear k0; intro k0) | (with_reducible replace k0 := Blk.later hb (Blk.set (Blk.set k0))) | (with_reducible replace k0 := Blk.later hb (Blk.set k0))); clear a0 b0; obtain ⟨a0, b0⟩ := k0.read; have zl := k0.lt)); (try (have zk := k1.lt; (first | ((with_reducible refine Blk.keepG hb k1 (fun h => ?_) ?_); (focus ((repeat' (first | (with_reducible assumption) | ((with_reducible refine Blk.new ?_); first | rfl | (simp; done)) | (with_reducible refine Blk.later (by assumption) ?_) | (with_reducible refine Blk.alloc ?_) | (with_reducible refine Blk.drewN ?_) | (with_reducible refine Blk.drew ?_) | (with_reducible refine Blk.other ?_ (by first | omega | (simp; done) | (simp; omega))))); done)); clear k1; intro k1) | (with_reducible replace k1 := Blk.later hb (Blk.set (Blk.set k1))) | (with_reducible replace k1 := Blk.later hb (Blk.set k1))); clear a1 b1; obtain ⟨a1, b1⟩ := k1.read; have zl := k1.lt))))))
          go_ret
          exact ⟨.inr ⟨hno.out, rfl⟩, by (repeat' (first | (with_reducible exact Below.refl _ _) | (with_reducible assumption) | (with_reducible refine belowThru ?_ (by assumption)) | (with_reducible refine belowAlloc ?_) | (with_reducible refine Below.setCell ?_ (by first | omega | (simp; done) | (simp; omega)) _) | (with_reducible refine Below.drew ?_) | (with_reducible refine below_drewN ?_ _)))⟩
        · go_wp2_with (go_at_call 54; ((with_reducible refine (HWx.out _ _ (by simp [go_sem]) (by simp [go_sem])).mono ?_); rintro e w1 ⟨rfl, hb⟩; (first | ((with_reducible have k0 := Blk.later hb (Blk.alloc (Blk.new rfl))); (with_reducible have k1 := Blk.later hb (Blk.new rfl)); simp only [World.size_alloc] at k1; obtain ⟨a0, b0⟩ := k0.read; have zl := k0.lt; obtain ⟨a1, b1⟩ := k1.read; have zl := k1.lt) | ((try (have zk := k0.lt; (first | ((with_reducible refine Blk.keepG hb k0 (fun h => ?_) ?_); (focus ((repeat' (first | (with_reducible assumption) | ((with_reducible refine Blk.new ?_); first | rfl | (simp; done)) | (with_reducible refine Blk.later (by assumption) ?_) | (with_reducible refine Blk.alloc ?_) | (with_reducible refine Blk.drewN ?_) | (with_reducible refine Blk.drew ?_) | (with_reducible refine Blk.other ?_ (by first | omega | (simp; done) | (simp; omega))))); done)); clear k0; intro k0) | (with_reducible replace k0 := Blk.later hb (Blk.set (Blk.set k0))) | (with_reducible replace k0 := Blk.later hb (Blk.set k0))); clear a0 b0; obtain ⟨a0, b0⟩ := k0.read; have zl := k0.lt)); (try (have zk := k1.lt; (first | ((with_reducible refine Blk.keepG hb k1 (fun h => ?_) ?_); (focus ((repeat' (first | (with_reducible assumption) | ((with_reducible refine Blk.new ?_); first | rfl | (simp; done)) | (with_reducible refine Blk.later (by assumption) ?_) | (with_reducible refine Blk.alloc ?_) | (with_reducible refine Blk.drewN ?_) | (with_reducible refine Blk.drew ?_) | (with_reducible refine Blk.other ?_ (by first | omega | (simp; done) | (simp; omega))))); done)); clear k1; intro k1) | (with_reducible replace k1 := Blk.later hb (Blk.set (Blk.set k1))) | (with_reducible replace k1 := Blk.later hb (Blk.set k1))); clear a1 b1; obtain ⟨a1, b1⟩ := k1.read; have zl := k1.lt))))))
          go_ret
          exact ⟨.inr ⟨hno.out, rfl⟩, by (repeat' (first | (with_reducible exact Below.refl _ _) | (with_reducible assumption) | (with_reducible refine belowThru ?_ (by assumption)) | (with_reducible refine belowAlloc ?_) | (with_reducible refine Below.setCell ?_ (by first | omega | (simp; done) | (simp; omega)) _) | (with_reducible refine Below.drew ?_) | (with_reducible refine below_drewN ?_ _)))⟩
    · obtain rfl : k = n := by omega
      have hyes : Hid (okT ks) := by
        have h := ht.out
        rw [← HX.out] at h
        exact ⟨⟨by rw [HX.out]; exact hn2, by rw [HX.out]; exact hn16⟩, h⟩
      go_wp2
      go_ret
      exact ⟨.inl ⟨hyes.out, rfl⟩, by (repeat' (first | (with_reducible exact Below.refl _ _) | (with_reducible assumption) | (with_reducible refine belowThru ?_ (by assumption)) | (with_reducible refine belowAlloc ?_) | (with_reducible refine Below.setCell ?_ (by first | omega | (simp; done) | (simp; omega)) _) | (with_reducible refine Below.drew ?_) | (with_reducible refine below_drewN ?_ _)))⟩
set_option maxHeartbeats 1000000 in
theorem knots_no (a : Option Addr) (n c : Nat) (hn : n ≤ maxLen) (h : ¬ (2 ≤ n ∧ n ≤ 16)) (w : World) :
    Calls Try.prog 28 #[.slice a n c] w fun e w' => e = .returned (.int .i64 40) ∧ Below w.heap.size w w' := by
  have HW1 : Hid (∀ (B : Nat) (w : World), w.cell? ⟨B, 0, none⟩ = some (.int .i64 n) → Calls Try.prog 54 #[.int .i64 2, .int .i64 16, .slice (some ⟨B, 0, none⟩) 1 1] w fun e w' => e = .returned (.bool false) ∧ Below w.heap.size w w') := by
    intro B w h0
    have := jwithin_one 2 16 n B w h0
    rwa [decide_eq_false (show ¬ (2 ≤ (n : Int) ∧ (n : Int) ≤ 16) from fun k => h (by omega))] at this
  unfold maxLen at hn
  clear h
  go_enter Try.func28, Try.ntmps28
  go_wp2_with (go_at_call 54; ((with_reducible refine (HW1.out _ _ (by simp [go_sem])).mono ?_); rintro e wq ⟨rfl, hbq⟩))
  go_ret
  exact ⟨rfl, by (repeat' (first | (with_reducible exact Below.refl _ _) | (with_reducible assumption) | (with_reducible refine belowThru ?_ (by assumption)) | (with_reducible refine belowAlloc ?_) | (with_reducible refine Below.setCell ?_ (by first | omega | (simp; done) | (simp; omega)) _) | (with_reducible refine Below.drew ?_) | (with_reducible refine below_drewN ?_ _)))⟩
theorem checkKnots_yes {a : Option Addr} {n c : Nat} {ks : List (Int × Int)} (h : okT ks) (w : World) (hR : KRow w a n ks) :
    Calls Try.prog 28 #[.slice a n c] w fun e w' => e = .returned (.int .i64 0) ∧ Below w.heap.size w w' := by
  have hl := h.1
  rw [hR.1] at hl
  refine (knots_loop a n c ks hl.1 hl.2 w hR).mono ?_
  rintro e w' ⟨⟨-, he⟩ | ⟨hn, -⟩, hb⟩
  · exact ⟨he, hb⟩
  · exact absurd h hn
theorem checkKnots_no {a : Option Addr} {n c : Nat} {ks : List (Int × Int)} (hn : n ≤ maxLen) (h : ¬ okT ks) (w : World) (hR : KRow w a n ks) :
    Calls Try.prog 28 #[.slice a n c] w fun e w' => e = .returned (.int .i64 40) ∧ Below w.heap.size w w' := by
  by_cases hl : 2 ≤ n ∧ n ≤ 16
  · refine (knots_loop a n c ks hl.1 hl.2 w hR).mono ?_
    rintro e w' ⟨⟨hy, -⟩ | ⟨-, he⟩, hb⟩
    · exact absurd hy h
    · exact ⟨he, hb⟩
  · exact knots_no a n c hn hl w
end Go.Proofs.Ytbdcmdofmokoeaa
/-
  Layer 4: views, by the code: whether they are valid.
-/
namespace Go.Proofs.Ytbdcmdofmokoeaa
open Go.RowKit
set_option linter.unusedVariables false
set_option linter.unusedSimpArgs false

/-- A view: X, Z, Lo, Hi. -/
abbrev Vw := Int × Int × Int × Int
/-- A slice that reads as these views. -/
def VRow (w : World) (a : Option Addr) (n : Nat) (vs : List Vw) : Prop :=
  vs.length = n ∧ (0 < n → ∃ b off, a = some ⟨b, off, none⟩ ∧ b < w.heap.size ∧ ∀ (j : Nat) (v : Vw), vs[j]? = some v → w.cell? ⟨b, off + j * 4, none⟩ = some (.int .i64 v.1) ∧ w.cell? ⟨b, off + j * 4 + 1, none⟩ = some (.int .i64 v.2.1) ∧ w.cell? ⟨b, off + j * 4 + 2, none⟩ = some (.int .i64 v.2.2.1) ∧ w.cell? ⟨b, off + j * 4 + 3, none⟩ = some (.int .i64 v.2.2.2))
theorem VRow.later {w w' : World} (hb : Below w.heap.size w w') {a : Option Addr} {n : Nat} {vs : List Vw} (h : VRow w a n vs) : VRow w' a n vs :=
  ⟨h.1, fun hn => by
    obtain ⟨b, off, ha, hlt, hc⟩ := h.2 hn
    have e : ∀ o, w'.cell? ⟨b, o, none⟩ = w.cell? ⟨b, o, none⟩ := fun o => World.cell?_of_block (w := w) (hb.block b hlt)
    exact ⟨b, off, ha, Nat.lt_of_lt_of_le hlt hb.size, fun j v hv => by rw [e, e, e, e]; exact hc j v hv⟩⟩
theorem VRow.at {w : World} {a : Option Addr} {n : Nat} {vs : List Vw} (h : VRow w a n vs) {k : Nat} (hk : k < n) :
    ∃ b off x z lo hi, a = some ⟨b, off, none⟩ ∧ b < w.heap.size ∧ vs[k]? = some (x, z, lo, hi) ∧ w.cell? ⟨b, off + k * 4, none⟩ = some (.int .i64 x) ∧ w.cell? ⟨b, off + k * 4 + 1, none⟩ = some (.int .i64 z) ∧ w.cell? ⟨b, off + k * 4 + 2, none⟩ = some (.int .i64 lo) ∧ w.cell? ⟨b, off + k * 4 + 3, none⟩ = some (.int .i64 hi) := by
  obtain ⟨b, off, ha, hlt, hc⟩ := h.2 (by omega)
  have hl : k < vs.length := by rw [h.1]; exact hk
  have e : vs[k]? = some vs[k] := List.getElem?_eq_getElem hl
  exact ⟨b, off, _, _, _, _, ha, hlt, e, hc k _ e⟩
/-- A place and a distance that a target may have. -/
def InG (x z : Int) : Prop := (-1000 ≤ x ∧ x ≤ 1000) ∧ (1 ≤ z ∧ z ≤ 1000)
instance (x z : Int) : Decidable (InG x z) := inferInstanceAs (Decidable (_ ∧ _))
/-- A valid view. -/
def InV (v : Vw) : Prop := InG v.1 v.2.1 ∧ InT (v.2.2.1, v.2.2.2) ∧ v.2.2.1 ≤ v.2.2.2
instance (v : Vw) : Decidable (InV v) := inferInstanceAs (Decidable (_ ∧ _))

set_option maxHeartbeats 2000000 in
theorem target_any (x z : Int) (w : World) :
    Calls Try.prog 58 #[.int .i64 x, .int .i64 z] w fun e w' => e = .returned (.bool (decide (InG x z))) ∧ Below w.heap.size w w' := by
  by_cases hx : -1000 ≤ x ∧ x ≤ 1000
  · by_cases hz : 1 ≤ z ∧ z ≤ 1000
    · have HX : Hid (∀ (B : Nat) (w : World), w.cell? ⟨B, 0, none⟩ = some (.int .i64 x) → Calls Try.prog 54 #[.int .i64 (-1000), .int .i64 1000, .slice (some ⟨B, 0, none⟩) 1 1] w fun e w' => e = .returned (.bool true) ∧ Below w.heap.size w w') := by
        intro B w h0; have := jwithin_one (-1000) 1000 x B w h0; rwa [decide_eq_true hx] at this
      have HZ : Hid (∀ (B : Nat) (w : World), w.cell? ⟨B, 0, none⟩ = some (.int .i64 z) → Calls Try.prog 54 #[.int .i64 1, .int .i64 1000, .slice (some ⟨B, 0, none⟩) 1 1] w fun e w' => e = .returned (.bool true) ∧ Below w.heap.size w w') := by
        intro B w h0; have := jwithin_one 1 1000 z B w h0; rwa [decide_eq_true hz] at this
      rw [decide_eq_true (show InG x z from ⟨hx, hz⟩)]
      clear hx hz
      go_enter Try.func58, Try.ntmps58
      go_wp2_with fail
      refine (HX.out _ _ (by simp [go_sem])).mono ?_
      rintro e w1 ⟨rfl, hb⟩
      have hB : Below w.heap.size w w1 := by (repeat' (first | (with_reducible exact Below.refl _ _) | (with_reducible assumption) | (with_reducible refine belowThru ?_ (by assumption)) | (with_reducible refine belowAlloc ?_) | (with_reducible refine Below.setCell ?_ (by first | omega | (simp; done) | (simp; omega)) _) | (with_reducible refine Below.drew ?_) | (with_reducible refine below_drewN ?_ _)))
      clear hb
      go_wp2_with fail
      refine (HZ.out _ _ (by simp [go_sem])).mono ?_
      rintro e w2 ⟨rfl, hb⟩
      have hB2 : Below w.heap.size w w2 := by (repeat' (first | (with_reducible exact Below.refl _ _) | (with_reducible assumption) | (with_reducible refine belowThru ?_ (by assumption)) | (with_reducible refine belowAlloc ?_) | (with_reducible refine Below.setCell ?_ (by first | omega | (simp; done) | (simp; omega)) _) | (with_reducible refine Below.drew ?_) | (with_reducible refine below_drewN ?_ _)))
      go_wp2
      go_ret
      exact ⟨rfl, hB2⟩
    · have HX : Hid (∀ (B : Nat) (w : World), w.cell? ⟨B, 0, none⟩ = some (.int .i64 x) → Calls Try.prog 54 #[.int .i64 (-1000), .int .i64 1000, .slice (some ⟨B, 0, none⟩) 1 1] w fun e w' => e = .returned (.bool true) ∧ Below w.heap.size w w') := by
        intro B w h0; have := jwithin_one (-1000) 1000 x B w h0; rwa [decide_eq_true hx] at this
      have HZ : Hid (∀ (B : Nat) (w : World), w.cell? ⟨B, 0, none⟩ = some (.int .i64 z) → Calls Try.prog 54 #[.int .i64 1, .int .i64 1000, .slice (some ⟨B, 0, none⟩) 1 1] w fun e w' => e = .returned (.bool false) ∧ Below w.heap.size w w') := by
        intro B w h0; have := jwithin_one 1 1000 z B w h0; rwa [decide_eq_false hz] at this
      rw [decide_eq_false (show ¬ InG x z from fun h => hz h.2)]
      clear hx hz
      go_enter Try.func58, Try.ntmps58
      go_wp2_with fail
      refine (HX.out _ _ (by simp [go_sem])).mono ?_
      rintro e w1 ⟨rfl, hb⟩
      have hB : Below w.heap.size w w1 := by (repeat' (first | (with_reducible exact Below.refl _ _) | (with_reducible assumption) | (with_reducible refine belowThru ?_ (by assumption)) | (with_reducible refine belowAlloc ?_) | (with_reducible refine Below.setCell ?_ (by first | omega | (simp; done) | (simp; omega)) _) | (with_reducible refine Below.drew ?_) | (with_reducible refine below_drewN ?_ _)))
      clear hb
      go_wp2_with fail
      refine (HZ.out _ _ (by simp [go_sem])).mono ?_
      rintro e w2 ⟨rfl, hb⟩
      have hB2 : Below w.heap.size w w2 := by (repeat' (first | (with_reducible exact Below.refl _ _) | (with_reducible assumption) | (with_reducible refine belowThru ?_ (by assumption)) | (with_reducible refine belowAlloc ?_) | (with_reducible refine Below.setCell ?_ (by first | omega | (simp; done) | (simp; omega)) _) | (with_reducible refine Below.drew ?_) | (with_reducible refine below_drewN ?_ _)))
      go_wp2
      go_ret
      exact ⟨rfl, hB2⟩
  · have HX : Hid (∀ (B : Nat) (w : World), w.cell? ⟨B, 0, none⟩ = some (.int .i64 x) → Calls Try.prog 54 #[.int .i64 (-1000), .int .i64 1000, .slice (some ⟨B, 0, none⟩) 1 1] w fun e w' => e = .returned (.bool false) ∧ Below w.heap.size w w') := by
      intro B w h0; have := jwithin_one (-1000) 1000 x B w h0; rwa [decide_eq_false hx] at this
    rw [decide_eq_false (show ¬ InG x z from fun h => hx h.1)]
    clear hx
    go_enter Try.func58, Try.ntmps58
    go_wp2_with fail
    refine (HX.out _ _ (by simp [go_sem])).mono ?_
    rintro e w1 ⟨rfl, hb⟩
    have hB : Below w.heap.size w w1 := by (repeat' (first | (with_reducible exact Below.refl _ _) | (with_reducible assumption) | (with_reducible refine belowThru ?_ (by assumption)) | (with_reducible refine belowAlloc ?_) | (with_reducible refine Below.setCell ?_ (by first | omega | (simp; done) | (simp; omega)) _) | (with_reducible refine Below.drew ?_) | (with_reducible refine below_drewN ?_ _)))
    clear hb
    go_wp2
    go_ret
    exact ⟨rfl, hB⟩

/-- What CheckViews says. -/
def ckV (vs : List Vw) : Int := if 12 < vs.length then 4 else if ∀ v ∈ vs, InV v then 0 else 42
def AllV (vs : List Vw) (k : Nat) : Prop := ∀ (i : Nat) (v : Vw), i < k → vs[i]? = some v → InV v
set_option maxRecDepth 100000 in
set_option maxHeartbeats 4000000 in
theorem views_loop (a : Option Addr) (n c : Nat) (vs : List Vw) (hn : n ≤ 12) (w : World) (hR : VRow w a n vs) :
    Calls Try.prog 30 #[.slice a n c] w fun e w' => (AllV vs n ∧ e = .returned (.int .i64 0) ∨ ¬ AllV vs n ∧ e = .returned (.int .i64 42)) ∧ Below w.heap.size w w' := by
  have HR := Lib.hid hR
  clear hR
  have p1 : decide ((12 : Int) < (n : Int)) = false := by simp; omega
  go_enter Try.func30, Try.ntmps30
  go_wp2_with fail
  go_loopw [10] (fun i wr => ∃ k : Nat, k ≤ n ∧ i = .int .i64 k ∧ Hid (AllV vs k) ∧ Below w.heap.size w wr) (fun i _ => n - (intOf i).toNat)
  case atStart => exact ⟨0, Nat.zero_le _, rfl, (fun i v h => absurd h (by omega) : AllV vs 0), Below.refl _ _⟩
  case round =>
    obtain ⟨k, hk, rfl, ht, hB⟩ := hrel
    by_cases hlt : k < n
    · obtain ⟨bb, oo, x, z, lo, hi, rfl, l1, h1, c1, d1, e1, f1⟩ := HR.out.at hlt
      have c1 := cell_later hB c1
      have d1 := cell_later hB d1
      have e1 := cell_later hB e1
      have f1 := cell_later hB f1
      have q0 : (0 : Int) ≤ (k : Int) := by omega
      have q1 : (k : Int) < (n : Int) := by omega
      have HT := Lib.hid (target_any x z)
      have HW : Hid (∀ (B : Nat) (w : World), w.cell? ⟨B, 0, none⟩ = some (.int .i64 lo) → w.cell? ⟨B, 1, none⟩ = some (.int .i64 hi) → Calls Try.prog 54 #[.int .i64 (-4096), .int .i64 4096, .slice (some ⟨B, 0, none⟩) 2 2] w fun e w' => e = .returned (.bool (decide (InT (lo, hi)))) ∧ Below w.heap.size w w') := fun B w h0 h1 => within_knot lo hi B w h0 h1
      by_cases g1 : InG x z
      · rw [decide_eq_true g1] at HT
        by_cases g2 : InT (lo, hi)
        · rw [decide_eq_true g2] at HW
          by_cases g3 : lo ≤ hi
          · have ht' : Hid (AllV vs (k + 1)) := fun i v hi' hv => by
              rcases Nat.lt_or_ge i k with q | q
              · exact ht.out i v q hv
              · obtain rfl : i = k := by omega
                rw [h1] at hv; cases hv; exact ⟨g1, g2, g3⟩
            have g4 : decide (hi < lo) = false := by simp; omega
            clear g1 g2 g3 h1
            go_wp2_with (first
              | (go_at_call 58; ((with_reducible refine (HT.out _).mono ?_); rintro e w1 ⟨rfl, hb⟩; (first | ((with_reducible have k0 := Blk.later hb (Blk.new rfl)); skip; obtain ⟨a0, b0⟩ := k0.read; have zl := k0.lt) | ((try (have zk := k0.lt; (first | ((with_reducible refine Blk.keepG hb k0 (fun h => ?_) ?_); (focus ((repeat' (first | (with_reducible assumption) | ((with_reducible refine Blk.new ?_); first | rfl | (simp; done)) | (with_reducible refine Blk.later (by assumption) ?_) | (with_reducible refine Blk.alloc ?_) | (with_reducible refine Blk.drewN ?_) | (with_reducible refine Blk.drew ?_) | (with_reducible refine Blk.other ?_ (by first | omega | (simp; done) | (simp; omega))))); done)); clear k0; intro k0) | (with_reducible replace k0 := Blk.later hb (Blk.set (Blk.set k0))) | (with_reducible replace k0 := Blk.later hb (Blk.set k0))); clear a0 b0; obtain ⟨a0, b0⟩ := k0.read; have zl := k0.lt))))))
              | (go_at_call 54; ((with_reducible refine (HW.out _ _ (by simp [go_sem]) (by simp [go_sem])).mono ?_); rintro e w1 ⟨rfl, hb⟩; (try (have zk := k0.lt; (first | ((with_reducible refine Blk.keepG hb k0 (fun h => ?_) ?_); (focus ((repeat' (first | (with_reducible assumption) | ((with_reducible refine Blk.new ?_); first | rfl | (simp; done)) | (with_reducible refine Blk.later (by assumption) ?_) | (with_reducible refine Blk.alloc ?_) | (with_reducible refine Blk.drewN ?_) | (with_reducible refine Blk.drew ?_) | (with_reducible refine Blk.other ?_ (by first | omega | (simp; done) | (simp; omega))))); done)); clear k0; intro k0) | (with_reducible replace k0 := Blk.later hb (Blk.set (Blk.set k0))) | (with_reducible replace k0 := Blk.later hb (Blk.set k0))); clear a0 b0; obtain ⟨a0, b0⟩ := k0.read; have zl := k0.lt)))))
            go_roundw
            case rel => exact ⟨k + 1, hlt, by go_num, ht', by (repeat' (first | (with_reducible exact Below.refl _ _) | (with_reducible assumption) | (with_reducible refine belowThru ?_ (by assumption)) | (with_reducible refine belowAlloc ?_) | (with_reducible refine Below.setCell ?_ (by first | omega | (simp; done) | (simp; omega)) _) | (with_reducible refine Below.drew ?_) | (with_reducible refine below_drewN ?_ _)))⟩
            case measure => simp [intOf]; omega
          · have hno : Hid (¬ AllV vs n) := fun h => g3 (h k _ hlt h1).2.2
            have g4 : decide (hi < lo) = true := by simp; omega
            clear g1 g2 g3 h1
            go_wp2_with (first
              | (go_at_call 58; ((with_reducible refine (HT.out _).mono ?_); rintro e w1 ⟨rfl, hb⟩; (first | ((with_reducible have k0 := Blk.later hb (Blk.new rfl)); skip; obtain ⟨a0, b0⟩ := k0.read; have zl := k0.lt) | ((try (have zk := k0.lt; (first | ((with_reducible refine Blk.keepG hb k0 (fun h => ?_) ?_); (focus ((repeat' (first | (with_reducible assumption) | ((with_reducible refine Blk.new ?_); first | rfl | (simp; done)) | (with_reducible refine Blk.later (by assumption) ?_) | (with_reducible refine Blk.alloc ?_) | (with_reducible refine Blk.drewN ?_) | (with_reducible refine Blk.drew ?_) | (with_reducible refine Blk.other ?_ (by first | omega | (simp; done) | (simp; omega))))); done)); clear k0; intro k0) | (with_reducible replace k0 := Blk.later hb (Blk.set (Blk.set k0))) | (with_reducible replace k0 := Blk.later hb (Blk.set k0))); clear a0 b0; obtain ⟨a0, b0⟩ := k0.read; have zl := k0.lt))))))
              | (go_at_call 54; ((with_reducible refine (HW.out _ _ (by simp [go_sem]) (by simp [go_sem])).mono ?_); rintro e w1 ⟨rfl, hb⟩; (try (have zk := k0.lt; (first | ((with_reducible refine Blk.keepG hb k0 (fun h => ?_) ?_); (focus ((repeat' (first | (with_reducible assumption) | ((with_reducible refine Blk.new ?_); first | rfl | (simp; done)) | (with_reducible refine Blk.later (by assumption) ?_) | (with_reducible refine Blk.alloc ?_) | (with_reducible refine Blk.drewN ?_) | (with_reducible refine Blk.drew ?_) | (with_reducible refine Blk.other ?_ (by first | omega | (simp; done) | (simp; omega))))); done)); clear k0; intro k0) | (with_reducible replace k0 := Blk.later hb (Blk.set (Blk.set k0))) | (with_reducible replace k0 := Blk.later hb (Blk.set k0))); clear a0 b0; obtain ⟨a0, b0⟩ := k0.read; have zl := k0.lt)))))
            go_ret
            exact ⟨.inr ⟨hno.out, rfl⟩, by (repeat' (first | (with_reducible exact Below.refl _ _) | (with_reducible assumption) | (with_reducible refine belowThru ?_ (by assumption)) | (with_reducible refine belowAlloc ?_) | (with_reducible refine Below.setCell ?_ (by first | omega | (simp; done) | (simp; omega)) _) | (with_reducible refine Below.drew ?_) | (with_reducible refine below_drewN ?_ _)))⟩
        · rw [decide_eq_false g2] at HW
          have hno : Hid (¬ AllV vs n) := fun h => g2 (h k _ hlt h1).2.1
          clear g1 g2 h1
          go_wp2_with (first
            | (go_at_call 58; ((with_reducible refine (HT.out _).mono ?_); rintro e w1 ⟨rfl, hb⟩; (first | ((with_reducible have k0 := Blk.later hb (Blk.new rfl)); skip; obtain ⟨a0, b0⟩ := k0.read; have zl := k0.lt) | ((try (have zk := k0.lt; (first | ((with_reducible refine Blk.keepG hb k0 (fun h => ?_) ?_); (focus ((repeat' (first | (with_reducible assumption) | ((with_reducible refine Blk.new ?_); first | rfl | (simp; done)) | (with_reducible refine Blk.later (by assumption) ?_) | (with_reducible refine Blk.alloc ?_) | (with_reducible refine Blk.drewN ?_) | (with_reducible refine Blk.drew ?_) | (with_reducible refine Blk.other ?_ (by first | omega | (simp; done) | (simp; omega))))); done)); clear k0; intro k0) | (with_reducible replace k0 := Blk.later hb (Blk.set (Blk.set k0))) | (with_reducible replace k0 := Blk.later hb (Blk.set k0))); clear a0 b0; obtain ⟨a0, b0⟩ := k0.read; have zl := k0.lt))))))
            | (go_at_call 54; ((with_reducible refine (HW.out _ _ (by simp [go_sem]) (by simp [go_sem])).mono ?_); rintro e w1 ⟨rfl, hb⟩; (try (have zk := k0.lt; (first | ((with_reducible refine Blk.keepG hb k0 (fun h => ?_) ?_); (focus ((repeat' (first | (with_reducible assumption) | ((with_reducible refine Blk.new ?_); first | rfl | (simp; done)) | (with_reducible refine Blk.later (by assumption) ?_) | (with_reducible refine Blk.alloc ?_) | (with_reducible refine Blk.drewN ?_) | (with_reducible refine Blk.drew ?_) | (with_reducible refine Blk.other ?_ (by first | omega | (simp; done) | (simp; omega))))); done)); clear k0; intro k0) | (with_reducible replace k0 := Blk.later hb (Blk.set (Blk.set k0))) | (with_reducible replace k0 := Blk.later hb (Blk.set k0))); clear a0 b0; obtain ⟨a0, b0⟩ := k0.read; have zl := k0.lt)))))
          go_ret
          exact ⟨.inr ⟨hno.out, rfl⟩, by (repeat' (first | (with_reducible exact Below.refl _ _) | (with_reducible assumption) | (with_reducible refine belowThru ?_ (by assumption)) | (with_reducible refine belowAlloc ?_) | (with_reducible refine Below.setCell ?_ (by first | omega | (simp; done) | (simp; omega)) _) | (with_reducible refine Below.drew ?_) | (with_reducible refine below_drewN ?_ _)))⟩
      · rw [decide_eq_false g1] at HT
        have hno : Hid (¬ AllV vs n) := fun h => g1 (h k _ hlt h1).1
        clear g1 h1
        go_wp2_with (first
          | (go_at_call 58; ((with_reducible refine (HT.out _).mono ?_); rintro e w1 ⟨rfl, hb⟩; (first | ((with_reducible have k0 := Blk.later hb (Blk.new rfl)); skip; obtain ⟨a0, b0⟩ := k0.read; have zl := k0.lt) | ((try (have zk := k0.lt; (first | ((with_reducible refine Blk.keepG hb k0 (fun h => ?_) ?_); (focus ((repeat' (first | (with_reducible assumption) | ((with_reducible refine Blk.new ?_); first | rfl | (simp; done)) | (with_reducible refine Blk.later (by assumption) ?_) | (with_reducible refine Blk.alloc ?_) | (with_reducible refine Blk.drewN ?_) | (with_reducible refine Blk.drew ?_) | (with_reducible refine Blk.other ?_ (by first | omega | (simp; done) | (simp; omega))))); done)); clear k0; intro k0) | (with_reducible replace k0 := Blk.later hb (Blk.set (Blk.set k0))) | (with_reducible replace k0 := Blk.later hb (Blk.set k0))); clear a0 b0; obtain ⟨a0, b0⟩ := k0.read; have zl := k0.lt)))))))
        go_ret
        exact ⟨.inr ⟨hno.out, rfl⟩, by (repeat' (first | (with_reducible exact Below.refl _ _) | (with_reducible assumption) | (with_reducible refine belowThru ?_ (by assumption)) | (with_reducible refine belowAlloc ?_) | (with_reducible refine Below.setCell ?_ (by first | omega | (simp; done) | (simp; omega)) _) | (with_reducible refine Below.drew ?_) | (with_reducible refine below_drewN ?_ _)))⟩
    · obtain rfl : k = n := by omega
      go_wp2
      go_ret
      exact ⟨.inl ⟨ht.out, rfl⟩, by (repeat' (first | (with_reducible exact Below.refl _ _) | (with_reducible assumption) | (with_reducible refine belowThru ?_ (by assumption)) | (with_reducible refine belowAlloc ?_) | (with_reducible refine Below.setCell ?_ (by first | omega | (simp; done) | (simp; omega)) _) | (with_reducible refine Below.drew ?_) | (with_reducible refine below_drewN ?_ _)))⟩
set_option maxHeartbeats 1000000 in
theorem views_many (a : Option Addr) (n c : Nat) (hn : 12 < n) (w : World) :
    Calls Try.prog 30 #[.slice a n c] w fun e w' => e = .returned (.int .i64 4) ∧ Below w.heap.size w w' := by
  have p1 : decide ((12 : Int) < (n : Int)) = true := by simp; omega
  go_enter Try.func30, Try.ntmps30
  go_wp2
  go_ret
  exact ⟨rfl, by (repeat' (first | (with_reducible exact Below.refl _ _) | (with_reducible assumption) | (with_reducible refine belowThru ?_ (by assumption)) | (with_reducible refine belowAlloc ?_) | (with_reducible refine Below.setCell ?_ (by first | omega | (simp; done) | (simp; omega)) _) | (with_reducible refine Below.drew ?_) | (with_reducible refine below_drewN ?_ _)))⟩
theorem views_any (a : Option Addr) (n c : Nat) (vs : List Vw) (w : World) (hR : VRow w a n vs) :
    Calls Try.prog 30 #[.slice a n c] w fun e w' => e = .returned (.int .i64 (ckV vs)) ∧ Below w.heap.size w w' := by
  have hl := hR.1
  rcases Nat.lt_or_ge 12 n with h | h
  · have e : ckV vs = 4 := if_pos (by omega)
    rw [e]; exact views_many a n c h w
  · refine (views_loop a n c vs h w hR).mono ?_
    rintro e w' ⟨h1 | h1, hb⟩
    · have e : ckV vs = 0 := (if_neg (by omega)).trans (if_pos fun v hv => by obtain ⟨i, hi, he⟩ := List.mem_iff_getElem.1 hv; exact h1.1 i v (by omega) (by rw [← he]; exact List.getElem?_eq_getElem hi))
      rw [e]; exact ⟨h1.2, hb⟩
    · have e : ckV vs = 42 := (if_neg (by omega)).trans (if_neg fun hh => h1.1 fun i v _ hv => hh v (List.mem_of_getElem? hv))
      rw [e]; exact ⟨h1.2, hb⟩
end Go.Proofs.Ytbdcmdofmokoeaa
/-
  Plain arithmetic of words: a number of 128 bits in two's complement by its two words.
-/
namespace Go.Proofs.Ytbdcmdofmokoeaa

/-- 2^64. -/
def B64 : Int := 18446744073709551616
/-- The lower and the upper word of a number. -/
def wlo (z : Int) : Int := z % B64
def whi (z : Int) : Int := z / B64 % B64
def bor (a b : Int) : Int := if wlo a < wlo b then 1 else 0
def bor2 (a b : Int) : Int := if whi a < whi b + bor a b then 1 else 0

theorem wlo_lo (z : Int) : 0 ≤ wlo z := by unfold wlo B64; omega
theorem wlo_hi (z : Int) : wlo z ≤ 18446744073709551615 := by unfold wlo B64; omega
theorem whi_lo (z : Int) : 0 ≤ whi z := by unfold whi B64; omega
theorem whi_hi (z : Int) : whi z ≤ 18446744073709551615 := by unfold whi B64; omega
theorem bor_lo (a b : Int) : 0 ≤ bor a b := by unfold bor; split <;> omega
theorem bor_hi (a b : Int) : bor a b ≤ 1 := by unfold bor; split <;> omega
theorem wlo_sub (a b : Int) : wlo (a - b) = (wlo a + 18446744073709551616 - wlo b) % 18446744073709551616 := by unfold wlo B64; omega
theorem whi_sub (a b : Int) : whi (a - b) = (whi a + 18446744073709551616 - whi b - bor a b) % 18446744073709551616 := by
  unfold whi bor wlo B64; split <;> omega
theorem wlo_of (n : Int) (h0 : 0 ≤ n) (h1 : n ≤ 18446744073709551615) : wlo n = n := by unfold wlo B64; omega
theorem whi_of (n : Int) (h0 : 0 ≤ n) (h1 : n ≤ 18446744073709551615) : whi n = 0 := by unfold whi B64; omega
/-- A number within 127 bits and a sign is told by its words. -/
theorem zero_of (z : Int) (h0 : -170141183460469231731687303715884105728 ≤ z) (h1 : z < 170141183460469231731687303715884105728) : (whi z = 0 ∧ wlo z = 0) ↔ z = 0 := by
  unfold whi wlo B64; omega
theorem neg_of (z : Int) (h0 : -170141183460469231731687303715884105728 ≤ z) (h1 : z < 170141183460469231731687303715884105728) : 9223372036854775808 ≤ whi z ↔ z < 0 := by
  unfold whi B64; omega
theorem pos_whi (z : Int) (h0 : 0 ≤ z) (h1 : z < 170141183460469231731687303715884105728) : z = whi z * 18446744073709551616 + wlo z := by
  unfold whi wlo B64; omega

/-- The size of a number. -/
def mag (n : Int) : Int := if n < 0 then -n else n
theorem mag_lo (n : Int) : 0 ≤ mag n := by unfold mag; split <;> omega
theorem mag_le (n : Int) (h0 : -9223372036854775808 ≤ n) (h1 : n ≤ 9223372036854775807) : mag n ≤ 9223372036854775808 := by unfold mag; split <;> omega
theorem mag_pos (n : Int) (h : 0 ≤ n) : mag n = n := by unfold mag; rw [if_neg (by omega)]
theorem mag_neg (n : Int) (h : n < 0) : mag n = -n := by unfold mag; rw [if_pos h]
theorem mag_natAbs (n : Int) : mag n = (n.natAbs : Int) := by unfold mag; split <;> omega
theorem mag_mul_bound (x y : Int) (hx0 : 0 ≤ x) (hx : x ≤ 9223372036854775808) (hy0 : 0 ≤ y) (hy : y ≤ 9223372036854775808) : 0 ≤ x * y ∧ x * y ≤ 85070591730234615865843651857942052864 := by
  have h1 := Int.mul_nonneg hx0 hy0
  have h2 := Int.mul_le_mul hx hy hy0 (by omega : (0 : Int) ≤ 9223372036854775808)
  exact ⟨h1, by omega⟩
theorem zsign_neg (z : Int) (h : z < 0) : z.sign = -1 := Int.sign_eq_neg_one_of_neg h
theorem zsign_pos (z : Int) (h : 0 < z) : z.sign = 1 := Int.sign_eq_one_of_pos h
/-- The words of a quotient. -/
theorem div_parts (z d : Int) (h0 : 0 ≤ z) (h1 : z < 170141183460469231731687303715884105728) (hd : 1 ≤ d) (hd1 : d ≤ 18446744073709551615) :
    whi (z / d) = whi z / d ∧ wlo (z / d) = (whi z % d * 18446744073709551616 + wlo z) / d ∧ z % d = (whi z % d * 18446744073709551616 + wlo z) % d ∧ 0 ≤ whi z % d ∧ whi z % d < d := by
  have hz := pos_whi z h0 h1
  have a0 := whi_lo z; have a1 := whi_hi z; have b0 := wlo_lo z; have b1 := wlo_hi z
  generalize whi z = h at *
  generalize wlo z = l at *
  have e := Int.mul_ediv_add_emod h d
  have r0 := Int.emod_nonneg h (show d ≠ 0 by omega)
  have r1 := Int.emod_lt_of_pos h (show 0 < d by omega)
  generalize hq : h / d = q at *
  generalize hr : h % d = r at *
  have q0 : 0 ≤ q := by rw [← hq]; exact Int.ediv_nonneg a0 (by omega)
  have q1 : q ≤ 18446744073709551615 := by
    rw [← hq]; have := Int.ediv_le_self d a0; omega
  have key : z = d * (q * 18446744073709551616) + (r * 18446744073709551616 + l) := by rw [hz, ← e]; grind
  have lo : (r * 18446744073709551616 + l) / d < 18446744073709551616 := by
    apply Int.ediv_lt_of_lt_mul (by omega)
    have : (r + 1) * 18446744073709551616 ≤ d * 18446744073709551616 := Int.mul_le_mul_of_nonneg_right (by omega) (by omega)
    have := Int.mul_comm d 18446744073709551616
    omega
  have lo0 : 0 ≤ (r * 18446744073709551616 + l) / d := Int.ediv_nonneg (by omega) (by omega)
  have hdiv : z / d = q * 18446744073709551616 + (r * 18446744073709551616 + l) / d := by
    rw [key, Int.add_comm, Int.add_mul_ediv_left _ _ (by omega), Int.add_comm]
  refine ⟨?_, ?_, ?_, r0, r1⟩
  · rw [hdiv]; unfold whi B64; omega
  · rw [hdiv]; unfold wlo B64; omega
  · rw [key, Int.add_comm, Int.add_mul_emod_self_left]
theorem tdiv_neg (z d : Int) (h0 : z < 0) : z.tdiv d = -((-z) / d) := by
  rw [show z.tdiv d = -((-z).tdiv d) by rw [Int.neg_tdiv, Int.neg_neg], Int.tdiv_eq_ediv_of_nonneg (by omega)]
end Go.Proofs.Ytbdcmdofmokoeaa
/-
  DERIVED: THE SHELF's CONTRACTS AT THIS DUMP, IN PLAIN WORDS (tools/lay-plain.mjs out of 'TryShelf.lean', which tools/lay-shelf.mjs wrote): THE SAME DECLARATIONS UNDER THE SAME NAMES: 'import', 'namespace', 'open', 'def', 'theorem' AND NOTHING ELSE: no command of the shelf's: FOR A HAND-IN. Each laying: the table of numbers ('.._ren') and one theorem, a field a fact of the dump's own or the kernel's comparison; each contract: ONE APPLICATION.
-/
namespace Go.Proofs
open Go.Shelf
def Try.lays134_ren : Go.Shelf.Ren := ⟨fun | 134 => 131 | 129 => 132 | n => n, fun | 53 => 133 | 3 => 3 | 4 => 4 | 46 => 123 | 5 => 5 | 9 => 9 | n => n, fun | n => n⟩
theorem Try.lays134 : Go.Proofs.Lays.n134 Try.prog Try.lays134_ren := {
  mixed := by kernel_rfl
  f129 := Try.func132.trans (congrArg some (by kernel_rfl))
  f134 := Try.func131.trans (congrArg some (by kernel_rfl))
  t3 := Try.underlying3
  a3 := Try.isAgg3
  z3 := Try.sizeOf3
  v3 := Try.zeroValue3
  t4 := Try.underlying4
  a4 := Try.isAgg4
  z4 := Try.sizeOf4
  v4 := Try.zeroValue4
  t5 := Try.underlying5
  a5 := Try.isAgg5
  z5 := Try.sizeOf5
  v5 := Try.zeroValue5
  t9 := Try.underlying9
  a9 := Try.isAgg9
  z9 := Try.sizeOf9
  v9 := Try.zeroValue9
  t46 := Try.underlying123
  a46 := Try.isAgg123
  z46 := Try.sizeOf123
  v46 := Try.zeroValue123
  t53 := Try.underlying133
  a53 := Try.isAgg133
  z53 := Try.sizeOf133
  v53 := Try.zeroValue133 }
/-- bits.LeadingZeros64: "LeadingZeros64 returns the number of leading zero bits in x; the result is 64 for x == 0.": IT RETURNS '64 - Lib.bitLen x'; the world is as it was. ITS CALLEE bits.Len64 IS MET BY ITS OWN CONTRACT OFF THE SHELF (lay that first): entered in place it sends the kernel out of memory. (LAID: no walk: one application.) -/
theorem Try.bits_LeadingZeros64 (x : Int) (w : World) (h0 : 0 ≤ x) (h1 : x ≤ 18446744073709551615) :
    Calls Try.prog 131 #[.int .u64 x] w fun e w' => e = .returned (.int .i64 (64 - (Lib.bitLen x.toNat : Int))) ∧ w' = w := Any.bits_LeadingZeros64 Try.lays134 x w h0 h1
def Try.lays264_ren : Go.Shelf.Ren := ⟨fun | 264 => 118 | n => n, fun | 53 => 133 | 46 => 123 | n => n, fun | n => n⟩
theorem Try.lays264 : Go.Proofs.Lays.n264 Try.prog Try.lays264_ren := {
  mixed := by kernel_rfl
  f264 := Try.func118.trans (congrArg some (by kernel_rfl))
  t46 := Try.underlying123
  a46 := Try.isAgg123
  z46 := Try.sizeOf123
  v46 := Try.zeroValue123
  t53 := Try.underlying133
  a53 := Try.isAgg133
  z53 := Try.sizeOf133
  v53 := Try.zeroValue133 }
open Go.RowKit Go.Lib in
theorem Try.bits_Mul64 (x y : Nat) (hx : x < 18446744073709551616) (hy : y < 18446744073709551616) (w : World) :
    Calls Try.prog 118 #[.int .u64 x, .int .u64 y] w fun e w' => e = .returned (.tuple #[.int .u64 ((x * y / 18446744073709551616 : Nat) : Int), .int .u64 ((x * y % 18446744073709551616 : Nat) : Int)]) ∧ w' = w := Any.bits_Mul64 Try.lays264 x y hx hy w
end Go.Proofs
/-
  Layer 1: the methods of wide.
-/
namespace Go.Proofs.Ytbdcmdofmokoeaa
open Go.RowKit

theorem bcell {W w1 : World} (hb : Below W.heap.size W w1) : (∀ b o, b < W.heap.size → w1.cell? ⟨b, o, none⟩ = W.cell? ⟨b, o, none⟩) ∧ (∀ b o, b < W.heap.size → w1.frozen? ⟨b, o, none⟩ = W.frozen? ⟨b, o, none⟩) :=
  ⟨fun b o h => hb.cell (p := ⟨b, o, none⟩) h, fun b o h => hb.frozen (p := ⟨b, o, none⟩) h⟩

theorem sub64_run (x y b : Int) (hx : 0 ≤ x) (hy : 0 ≤ y) (hy1 : y ≤ 18446744073709551615) (hb0 : 0 ≤ b) (hb : b ≤ 1) (w : World) :
    (callFunc 115 #[.int .u64 x, .int .u64 y, .int .u64 b]).run Try.prog w = .ok (.value (.tuple #[.int .u64 ((x + 18446744073709551616 - y - b) % 18446744073709551616), .int .u64 (if x < y + b then 1 else 0)])) w := by
  obtain ⟨X, rfl⟩ := Int.eq_ofNat_of_zero_le hx
  obtain ⟨Y, rfl⟩ := Int.eq_ofNat_of_zero_le hy
  obtain ⟨C, rfl⟩ := Int.eq_ofNat_of_zero_le hb0
  rw [run_callFunc_extern Try.func115 (by kernel_rfl) (by kernel_rfl) (by kernel_rfl) (e := sub64Entry) (by kernel_rfl), run_sub64 X Y C (by omega)]
  have e1 : (((X + 18446744073709551616 - Y - C) % 18446744073709551616 : Nat) : Int) = ((X : Int) + 18446744073709551616 - Y - C) % 18446744073709551616 := by omega
  have e2 : ((if X < Y + C then 1 else 0 : Nat) : Int) = if (X : Int) < Y + C then 1 else 0 := by
    by_cases h : X < Y + C
    · rw [if_pos h, if_pos (by omega)]; rfl
    · rw [if_neg h, if_neg (by omega)]; rfl
  rw [e1, e2]
  rfl
theorem sub64_lo (a b : Int) (w : World) :
    (callFunc 115 #[.int .u64 (wlo a), .int .u64 (wlo b), .int .u64 0]).run Try.prog w = .ok (.value (.tuple #[.int .u64 (wlo (a - b)), .int .u64 (bor a b)])) w := by
  rw [sub64_run _ _ _ (wlo_lo a) (wlo_lo b) (wlo_hi b) (by omega) (by omega), wlo_sub, Int.sub_zero]
  unfold bor
  rw [Int.add_zero]
theorem sub64_hi (a b : Int) (w : World) :
    (callFunc 115 #[.int .u64 (whi a), .int .u64 (whi b), .int .u64 (bor a b)]).run Try.prog w = .ok (.value (.tuple #[.int .u64 (whi (a - b)), .int .u64 (bor2 a b)])) w := by
  rw [sub64_run _ _ _ (whi_lo a) (whi_lo b) (whi_hi b) (bor_lo a b) (bor_hi a b), whi_sub]
  rfl

set_option maxHeartbeats 400000 in
theorem minus_any (a b : Int) (w : World) :
    Calls Try.prog 93 #[.agg #[.int .u64 (whi a), .int .u64 (wlo a)], .agg #[.int .u64 (whi b), .int .u64 (wlo b)]] w fun e w' => e = .returned (.agg #[.int .u64 (whi (a - b)), .int .u64 (wlo (a - b))]) ∧ Below w.heap.size w w' := by
  go_enter Try.func93, Try.ntmps93
  go_wp2_with (first | simp only [sub64_lo] | simp only [sub64_hi])
  exact bodyPost_ret (v := .agg #[.int .u64 (whi (a - b)), .int .u64 (wlo (a - b))]) (by simp only [results, Try.results93]; go_simp) rfl ⟨rfl, by (repeat' (first | (with_reducible exact Below.refl _ _) | (with_reducible assumption) | (with_reducible refine belowThru ?_ (by assumption)) | (with_reducible refine belowAlloc ?_) | (with_reducible refine Below.setCell ?_ (by first | omega | (simp; done) | (simp; omega)) _) | (with_reducible refine Below.drew ?_) | (with_reducible refine below_drewN ?_ _)))⟩

theorem minus_zero (b : Int) (w : World) :
    Calls Try.prog 93 #[.agg #[.int .u64 0, .int .u64 0], .agg #[.int .u64 (whi b), .int .u64 (wlo b)]] w fun e w' => e = .returned (.agg #[.int .u64 (whi (-b)), .int .u64 (wlo (-b))]) ∧ Below w.heap.size w w' := by
  have h := minus_any 0 b w
  rw [Int.zero_sub] at h
  exact h

set_option maxHeartbeats 400000 in
theorem opposite_any (b : Int) (w : World) :
    Calls Try.prog 104 #[.agg #[.int .u64 (whi b), .int .u64 (wlo b)]] w fun e w' => e = .returned (.agg #[.int .u64 (whi (-b)), .int .u64 (wlo (-b))]) ∧ Below w.heap.size w w' := by
  go_enter Try.func104, Try.ntmps104
  go_wp2_with (go_at_call 93; refine (minus_zero b _).mono ?_; rintro e w1 ⟨rfl, hb⟩; obtain ⟨hc, hf⟩ := bcell hb; (try simp only [World.heap_drewN] at hc hf); (try simp only [heap_drew] at hc hf); have hz := hb.size; (try simp at hz); try (have hz0 : w.heap.size < w1.heap.size := by omega); try (have hz1 : w.heap.size + 1 < w1.heap.size := by omega); try (have hz2 : w.heap.size + 1 + 1 < w1.heap.size := by omega); try (have hz3 : w.heap.size + 1 + 1 + 1 < w1.heap.size := by omega); try (have hz4 : w.heap.size + 1 + 1 + 1 + 1 < w1.heap.size := by omega); try (have hz5 : w.heap.size + 1 + 1 + 1 + 1 + 1 < w1.heap.size := by omega))
  exact bodyPost_ret (v := .agg #[.int .u64 (whi (-b)), .int .u64 (wlo (-b))]) (by simp only [results, Try.results104]; go_simp) rfl ⟨rfl, by (repeat' (first | (with_reducible exact Below.refl _ _) | (with_reducible assumption) | (with_reducible refine belowThru ?_ (by assumption)) | (with_reducible refine belowAlloc ?_) | (with_reducible refine Below.setCell ?_ (by first | omega | (simp; done) | (simp; omega)) _) | (with_reducible refine Below.drew ?_) | (with_reducible refine below_drewN ?_ _)))⟩

set_option maxHeartbeats 400000 in
theorem sign_neg (z : Int) (w : World) (h1 : 9223372036854775808 ≤ whi z) (h2 : whi z ≤ 18446744073709551615) :
    Calls Try.prog 101 #[.agg #[.int .u64 (whi z), .int .u64 (wlo z)]] w fun e w' => e = .returned (.int .i64 (-1)) ∧ Below w.heap.size w w' := by
  go_enter Try.func101, Try.ntmps101
  go_wp2
  go_ret
  exact ⟨rfl, by (repeat' (first | (with_reducible exact Below.refl _ _) | (with_reducible assumption) | (with_reducible refine belowThru ?_ (by assumption)) | (with_reducible refine belowAlloc ?_) | (with_reducible refine Below.setCell ?_ (by first | omega | (simp; done) | (simp; omega)) _) | (with_reducible refine Below.drew ?_) | (with_reducible refine below_drewN ?_ _)))⟩

set_option maxHeartbeats 400000 in
theorem sign_pos (z : Int) (w : World) (h0 : ¬ (whi z = 0 ∧ wlo z = 0)) (h1 : 0 ≤ whi z) (h2 : whi z < 9223372036854775808) :
    Calls Try.prog 101 #[.agg #[.int .u64 (whi z), .int .u64 (wlo z)]] w fun e w' => e = .returned (.int .i64 1) ∧ Below w.heap.size w w' := by
  go_enter Try.func101, Try.ntmps101
  go_wp2
  all_goals (go_ret; exact ⟨rfl, by (repeat' (first | (with_reducible exact Below.refl _ _) | (with_reducible assumption) | (with_reducible refine belowThru ?_ (by assumption)) | (with_reducible refine belowAlloc ?_) | (with_reducible refine Below.setCell ?_ (by first | omega | (simp; done) | (simp; omega)) _) | (with_reducible refine Below.drew ?_) | (with_reducible refine below_drewN ?_ _)))⟩)

set_option maxHeartbeats 400000 in
theorem sign_zero (w : World) :
    Calls Try.prog 101 #[.agg #[.int .u64 0, .int .u64 0]] w fun e w' => e = .returned (.int .i64 0) ∧ Below w.heap.size w w' := by
  go_enter Try.func101, Try.ntmps101
  go_wp2
  all_goals (go_ret; exact ⟨rfl, by (repeat' (first | (with_reducible exact Below.refl _ _) | (with_reducible assumption) | (with_reducible refine belowThru ?_ (by assumption)) | (with_reducible refine belowAlloc ?_) | (with_reducible refine Below.setCell ?_ (by first | omega | (simp; done) | (simp; omega)) _) | (with_reducible refine Below.drew ?_) | (with_reducible refine below_drewN ?_ _)))⟩)

theorem sign_any (z : Int) (h0 : -170141183460469231731687303715884105728 ≤ z) (h1 : z < 170141183460469231731687303715884105728) (w : World) :
    Calls Try.prog 101 #[.agg #[.int .u64 (whi z), .int .u64 (wlo z)]] w fun e w' => e = .returned (.int .i64 z.sign) ∧ Below w.heap.size w w' := by
  have a := neg_of z h0 h1
  have b := zero_of z h0 h1
  have c := whi_lo z
  have d := whi_hi z
  rcases Int.lt_trichotomy z 0 with h | h | h
  · rw [zsign_neg z h]; exact sign_neg z w (a.2 h) d
  · subst h; exact sign_zero w
  · rw [zsign_pos z h]; exact sign_pos z w (by omega) c (by omega)

set_option maxHeartbeats 400000 in
theorem size_any (n : Int) (h1 : -9223372036854775808 ≤ n) (h2 : n ≤ 9223372036854775807) (w : World) :
    Calls Try.prog 103 #[.int .i64 n] w fun e w' => e = .returned (.int .u64 (mag n)) ∧ w = w' := by
  rcases (show n < 0 ∨ 0 ≤ n by omega) with h | h
  · go_enter Try.func103, Try.ntmps103
    go_wp2
    go_ret
    refine ⟨?_, rfl⟩
    rw [mag_neg n h, IntKind.wrap_u64, IntKind.wrap_u64, show (-(n % 18446744073709551616)) % 18446744073709551616 = -n by omega]
    rfl
  · go_enter Try.func103, Try.ntmps103
    go_wp2
    go_ret
    refine ⟨?_, rfl⟩
    rw [mag_pos n h]
    rfl

theorem mul64_mag (x y p : Int) (hx0 : 0 ≤ x) (hx : x ≤ 9223372036854775808) (hy0 : 0 ≤ y) (hy : y ≤ 9223372036854775808) (hp : x * y = p) (w : World) :
    Calls Try.prog 118 #[.int .u64 x, .int .u64 y] w fun e w' => e = .returned (.tuple #[.int .u64 (whi p), .int .u64 (wlo p)]) ∧ w = w' := by
  obtain ⟨hp0, hp1⟩ := mag_mul_bound x y hx0 hx hy0 hy
  obtain ⟨X, rfl⟩ := Int.eq_ofNat_of_zero_le hx0
  obtain ⟨Y, rfl⟩ := Int.eq_ofNat_of_zero_le hy0
  refine (Try.bits_Mul64 X Y (by omega) (by omega) w).mono fun e w' ⟨he, hw⟩ => ⟨?_, hw.symm⟩
  rw [he]
  rw [hp] at hp0 hp1
  have e0 : ((X * Y : Nat) : Int) = p := by rw [← hp, Int.natCast_mul]
  have e1 : ((X * Y / 18446744073709551616 : Nat) : Int) = whi p := by unfold whi B64; omega
  have e2 : ((X * Y % 18446744073709551616 : Nat) : Int) = wlo p := by unfold wlo B64; omega
  rw [e1, e2]

set_option maxHeartbeats 400000 in
theorem product_same (x y p : Int) (h1 : -9223372036854775808 ≤ x) (h2 : x ≤ 9223372036854775807) (h3 : -9223372036854775808 ≤ y) (h4 : y ≤ 9223372036854775807)
    (hs : (!(decide (x < 0) == decide (y < 0))) = false) (hp : Hid (mag x * mag y = p)) (w : World) :
    Calls Try.prog 100 #[.int .i64 x, .int .i64 y] w fun e w' => e = .returned (.agg #[.int .u64 (whi p), .int .u64 (wlo p)]) ∧ Below w.heap.size w w' := by
  have a0 := mag_lo x; have a1 := mag_le x h1 h2; have b0 := mag_lo y; have b1 := mag_le y h3 h4
  go_enter Try.func100, Try.ntmps100
  go_wp2_with (first
    | (go_at_call 103; refine (size_any _ (by omega) (by omega) _).mono ?_; rintro e w1 ⟨rfl, rfl⟩)
    | (go_at_call 118; refine (mul64_mag _ _ p (by omega) (by omega) (by omega) (by omega) hp.out _).mono ?_; rintro e w1 ⟨rfl, rfl⟩))
  exact bodyPost_ret (v := .agg #[.int .u64 (whi p), .int .u64 (wlo p)]) (by simp only [results, Try.results100]; go_simp) rfl ⟨rfl, by (repeat' (first | (with_reducible exact Below.refl _ _) | (with_reducible assumption) | (with_reducible refine belowThru ?_ (by assumption)) | (with_reducible refine belowAlloc ?_) | (with_reducible refine Below.setCell ?_ (by first | omega | (simp; done) | (simp; omega)) _) | (with_reducible refine Below.drew ?_) | (with_reducible refine below_drewN ?_ _)))⟩

set_option maxHeartbeats 400000 in
theorem product_other (x y p q : Int) (h1 : -9223372036854775808 ≤ x) (h2 : x ≤ 9223372036854775807) (h3 : -9223372036854775808 ≤ y) (h4 : y ≤ 9223372036854775807)
    (hs : (!(decide (x < 0) == decide (y < 0))) = true) (hp : Hid (mag x * mag y = p)) (hq : Hid (-p = q)) (w : World) :
    Calls Try.prog 100 #[.int .i64 x, .int .i64 y] w fun e w' => e = .returned (.agg #[.int .u64 (whi q), .int .u64 (wlo q)]) ∧ Below w.heap.size w w' := by
  have a0 := mag_lo x; have a1 := mag_le x h1 h2; have b0 := mag_lo y; have b1 := mag_le y h3 h4
  have ho : ∀ w, Calls Try.prog 104 #[.agg #[.int .u64 (whi p), .int .u64 (wlo p)]] w fun e w' => e = .returned (.agg #[.int .u64 (whi q), .int .u64 (wlo q)]) ∧ Below w.heap.size w w' := by
    intro w; have := opposite_any p w; rw [hq.out] at this; exact this
  have HO := Lib.hid ho; clear ho
  go_enter Try.func100, Try.ntmps100
  have l2 : ∀ k : Nat, k < k + 1 + 1 := fun _ => (by omega); have l3 : ∀ k : Nat, k < k + 1 + 1 + 1 := fun _ => (by omega); have l4 : ∀ k : Nat, k < k + 1 + 1 + 1 + 1 := fun _ => (by omega)
  go_wp2_with (first
    | (go_at_call 103; refine (size_any _ (by omega) (by omega) _).mono ?_; rintro e w1 ⟨rfl, rfl⟩)
    | (go_at_call 118; refine (mul64_mag _ _ p (by omega) (by omega) (by omega) (by omega) hp.out _).mono ?_; rintro e w1 ⟨rfl, rfl⟩)
    | (go_at_call 104; refine (HO.out _).mono ?_; rintro e w1 ⟨rfl, hb⟩; obtain ⟨hc, hf⟩ := bcell hb; (try simp only [World.heap_drewN] at hc hf); (try simp only [heap_drew] at hc hf); have hz := hb.size; (try simp at hz); try (have hz0 : w.heap.size < w1.heap.size := by omega); try (have hz1 : w.heap.size + 1 < w1.heap.size := by omega); try (have hz2 : w.heap.size + 1 + 1 < w1.heap.size := by omega); try (have hz3 : w.heap.size + 1 + 1 + 1 < w1.heap.size := by omega); try (have hz4 : w.heap.size + 1 + 1 + 1 + 1 < w1.heap.size := by omega); try (have hz5 : w.heap.size + 1 + 1 + 1 + 1 + 1 < w1.heap.size := by omega)))
  exact bodyPost_ret (v := .agg #[.int .u64 (whi q), .int .u64 (wlo q)]) (by simp only [results, Try.results100]; go_simp) rfl ⟨rfl, by (repeat' (first | (with_reducible exact Below.refl _ _) | (with_reducible assumption) | (with_reducible refine belowThru ?_ (by assumption)) | (with_reducible refine belowAlloc ?_) | (with_reducible refine Below.setCell ?_ (by first | omega | (simp; done) | (simp; omega)) _) | (with_reducible refine Below.drew ?_) | (with_reducible refine below_drewN ?_ _)))⟩

theorem product_any (x y : Int) (h1 : -9223372036854775808 ≤ x) (h2 : x ≤ 9223372036854775807) (h3 : -9223372036854775808 ≤ y) (h4 : y ≤ 9223372036854775807) (w : World) :
    Calls Try.prog 100 #[.int .i64 x, .int .i64 y] w fun e w' => e = .returned (.agg #[.int .u64 (whi (x * y)), .int .u64 (wlo (x * y))]) ∧ Below w.heap.size w w' := by
  rcases (show x < 0 ∨ 0 ≤ x by omega) with h | h <;> rcases (show y < 0 ∨ 0 ≤ y by omega) with k | k
  · exact product_same x y _ h1 h2 h3 h4 (by rw [decide_eq_true h, decide_eq_true k]; rfl) (by show _ = _; rw [mag_neg x h, mag_neg y k, Int.neg_mul_neg]) w
  · exact product_other x y _ _ h1 h2 h3 h4 (by rw [decide_eq_true h, decide_eq_false (by omega)]; rfl) rfl (by show _ = _; rw [mag_neg x h, mag_pos y k, Int.neg_mul, Int.neg_neg]) w
  · exact product_other x y _ _ h1 h2 h3 h4 (by rw [decide_eq_true k, decide_eq_false (by omega)]; rfl) rfl (by show _ = _; rw [mag_pos x h, mag_neg y k, Int.mul_neg, Int.neg_neg]) w
  · exact product_same x y _ h1 h2 h3 h4 (by rw [decide_eq_false (by omega), decide_eq_false (by omega)]; rfl) (by show _ = _; rw [mag_pos x h, mag_pos y k]) w
end Go.Proofs.Ytbdcmdofmokoeaa
/-
  Plain arithmetic of long division: a digit of the quotient, guessed from above.
-/
namespace Go.Proofs.Ytbdcmdofmokoeaa

/-- What stays true of the guess of a digit, in every round: q is not below the digit. -/
structure Guess (U Y Y1 x q r : Int) : Prop where
  low : (U * 4294967296 + x) / Y ≤ q
  high : q ≤ 4294967297
  sum : q * Y1 + r = U
  r0 : 0 ≤ r

structure Digit (U Y Y1 Y0 x : Int) : Prop where
  ky : Y = Y1 * 4294967296 + Y0
  ky1 : 2147483648 ≤ Y1
  ky1' : Y1 ≤ 4294967295
  ky0 : 0 ≤ Y0
  ky0' : Y0 ≤ 4294967295
  ku : 0 ≤ U
  ku' : U < Y
  kx : 0 ≤ x
  kx' : x ≤ 4294967295

variable {U Y Y1 Y0 x q r : Int}
theorem Digit.pos (d : Digit U Y Y1 Y0 x) : 0 < Y := by have := d.ky; have := d.ky1; have := d.ky0; omega
theorem Digit.lt (d : Digit U Y Y1 Y0 x) : (U * 4294967296 + x) / Y < 4294967296 := by
  apply Int.ediv_lt_of_lt_mul d.pos
  have := d.ku'; have := d.kx'; omega
theorem Digit.ge (d : Digit U Y Y1 Y0 x) : 0 ≤ (U * 4294967296 + x) / Y := Int.ediv_nonneg (by have := d.ku; have := d.kx; omega) (by have := d.pos; omega)
theorem Digit.first (d : Digit U Y Y1 Y0 x) : Guess U Y Y1 x (U / Y1) (U % Y1) := by
  have p := d.pos
  have y1 := d.ky1
  have e := Int.mul_ediv_add_emod U Y1
  have m := Int.mul_comm Y1 (U / Y1)
  refine ⟨?_, ?_, by omega, Int.emod_nonneg _ (by omega)⟩
  · apply (Int.le_ediv_iff_mul_le (by omega)).2
    generalize hQ : (U * 4294967296 + x) / Y = Q
    have h : Q * Y ≤ U * 4294967296 + x := (Int.le_ediv_iff_mul_le p).1 (by omega)
    have hq : 0 ≤ Q := by rw [← hQ]; exact d.ge
    have h1 : Q * Y = Q * Y1 * 4294967296 + Q * Y0 := by rw [d.ky]; grind
    have h2 : 0 ≤ Q * Y0 := Int.mul_nonneg hq d.ky0
    have := d.kx'
    omega
  · have : U / Y1 < 4294967298 := by
      apply Int.ediv_lt_of_lt_mul (by omega)
      have := d.ku'; have := d.ky; have := d.ky0'; omega
    omega
theorem Guess.done (d : Digit U Y Y1 Y0 x) (g : Guess U Y Y1 x q r) (h : q * Y0 ≤ 4294967296 * r + x) : q = (U * 4294967296 + x) / Y := by
  have h1 : q * Y = q * Y1 * 4294967296 + q * Y0 := by rw [d.ky]; grind
  have s := g.sum
  have : q ≤ (U * 4294967296 + x) / Y := (Int.le_ediv_iff_mul_le d.pos).2 (by omega)
  have := g.low
  omega
theorem Guess.great (d : Digit U Y Y1 Y0 x) (h : 4294967296 ≤ q) : (U * 4294967296 + x) / Y ≤ q - 1 := by
  have := d.lt; omega
theorem Guess.over (d : Digit U Y Y1 Y0 x) (g : Guess U Y Y1 x q r) (h : 4294967296 * r + x < q * Y0) : (U * 4294967296 + x) / Y ≤ q - 1 := by
  have h1 : q * Y = q * Y1 * 4294967296 + q * Y0 := by rw [d.ky]; grind
  have s := g.sum
  have : (U * 4294967296 + x) / Y < q := Int.ediv_lt_of_lt_mul d.pos (by omega)
  omega
theorem Guess.next (g : Guess U Y Y1 x q r) (h : (U * 4294967296 + x) / Y ≤ q - 1) (y1 : 0 ≤ Y1) : Guess U Y Y1 x (q - 1) (r + Y1) := by
  have := g.sum; have := g.r0; have := g.high
  have e : (q - 1) * Y1 = q * Y1 - Y1 := by rw [Int.sub_mul, Int.one_mul]
  exact ⟨h, by omega, by omega, by omega⟩
theorem Guess.stop (d : Digit U Y Y1 Y0 x) (g : Guess U Y Y1 x q r) (hq : q ≤ 4294967296) (h : 4294967296 ≤ r) : q = (U * 4294967296 + x) / Y := by
  refine g.done d ?_
  have q0 := Int.le_trans d.ge g.low
  have := Int.mul_le_mul hq d.ky0' d.ky0 (by omega : (0 : Int) ≤ 4294967296)
  have := d.kx
  omega
/-- What the next digit is taken from. -/
theorem Digit.rest (d : Digit U Y Y1 Y0 x) (hY : Y ≤ 18446744073709551615) : (U * 4294967296 + x - (U * 4294967296 + x) / Y * Y) % 18446744073709551616 = (U * 4294967296 + x) % Y := by
  have e := Int.mul_ediv_add_emod (U * 4294967296 + x) Y
  have m := Int.mul_comm Y ((U * 4294967296 + x) / Y)
  have a := Int.emod_nonneg (U * 4294967296 + x) (show Y ≠ 0 by have := d.pos; omega)
  have b := Int.emod_lt_of_pos (U * 4294967296 + x) d.pos
  omega
/-- Two digits are the quotient. -/
theorem Digit.both {V1 V0 : Int} (hY : 0 < Y) :
    (U * 4294967296 + V1) / Y * 4294967296 + ((U * 4294967296 + V1) % Y * 4294967296 + V0) / Y = (U * 18446744073709551616 + (V1 * 4294967296 + V0)) / Y ∧
    ((U * 4294967296 + V1) % Y * 4294967296 + V0) % Y = (U * 18446744073709551616 + (V1 * 4294967296 + V0)) % Y := by
  have e := Int.mul_ediv_add_emod (U * 4294967296 + V1) Y
  generalize (U * 4294967296 + V1) / Y = A at *
  generalize (U * 4294967296 + V1) % Y = R at *
  have k : U * 18446744073709551616 + (V1 * 4294967296 + V0) = Y * (A * 4294967296) + (R * 4294967296 + V0) := by grind
  rw [k]
  constructor
  · rw [Int.add_comm (Y * _), Int.add_mul_ediv_left _ _ (by omega), Int.add_comm]
  · rw [Int.add_comm (Y * _), Int.add_mul_emod_self_left]
theorem wrap3 (a b c : Int) : ((a % 18446744073709551616 + b) % 18446744073709551616 - c % 18446744073709551616) % 18446744073709551616 = (a + b - c) % 18446744073709551616 := by
  rw [Int.emod_add_emod, Int.emod_sub_emod, Int.sub_emod_emod]
theorem wrapU3 (a b c : Int) : IntKind.u64.wrap (IntKind.u64.wrap (IntKind.u64.wrap a + b) - IntKind.u64.wrap c) = (a + b - c) % 18446744073709551616 := by
  rw [IntKind.wrap_u64, IntKind.wrap_u64, IntKind.wrap_u64, IntKind.wrap_u64, wrap3]
end Go.Proofs.Ytbdcmdofmokoeaa
/-
  math/bits.Div64.
-/
namespace Go.Proofs.Ytbdcmdofmokoeaa
open Go.RowKit

set_option maxHeartbeats 400000 in
theorem div64_low (lo y : Int) (h1 : 0 ≤ lo) (h2 : 1 ≤ y) (w : World) (h2' : lo ≤ 18446744073709551615) (h3 : y ≤ 18446744073709551615) :
    Calls Try.prog 129 #[.int .u64 0, .int .u64 lo, .int .u64 y] w fun e w' => e = .returned (.tuple #[.int .u64 (lo / y), .int .u64 (lo % y)]) ∧ ∃ n, w' = w.drewN n := by
  go_enter Try.func129, Try.ntmps129
  go_wp2
  go_quiet (fail)
  go_wp2
  go_ret2
  exact ⟨rfl, _, rfl⟩

set_option maxHeartbeats 2000000 in
theorem div64_walk (hi lo y s Y Y1 Y0 U V V1 V0 : Int) (w : World) (_h1 : 0 ≤ lo) (h2 : 1 ≤ hi) (_h2' : lo ≤ 18446744073709551615) (_h3 : y ≤ 18446744073709551615) (h4 : hi < y)
    (hs0 : 0 ≤ s) (hs1 : s ≤ 63)
    (HL : Hid (∀ w, Calls Try.prog 131 #[.int .u64 y] w fun e w' => e = .returned (.int .i64 s) ∧ w' = w))
    (eY : IntKind.u64.wrap (y * 2 ^ s.toNat) = Y) (eY1 : Y / 4294967296 = Y1) (eY0 : bits BinOp.and IntKind.u64 Y 4294967295 = Y0)
    (eU : bits BinOp.or IntKind.u64 (IntKind.u64.wrap (hi * 2 ^ s.toNat)) (lo / 2 ^ (64 - s).toNat) = U)
    (eV : IntKind.u64.wrap (lo * 2 ^ s.toNat) = V) (eV1 : V / 4294967296 = V1) (eV0 : bits BinOp.and IntKind.u64 V 4294967295 = V0)
    (d1 : Digit U Y Y1 Y0 V1) (Q : Int) (hQ : Hid ((U * 4294967296 + V1) / Y = Q)) (qq0 : 0 ≤ Q) (qq1 : Q ≤ 4294967295)
    (W : Int) (eW : IntKind.u64.wrap (IntKind.u64.wrap (IntKind.u64.wrap (U * 4294967296) + V1) - IntKind.u64.wrap (Q * Y)) = W)
    (d2 : Digit W Y Y1 Y0 V0) (Z : Int) (hZ : Hid ((W * 4294967296 + V0) / Y = Z)) (zz0 : 0 ≤ Z) (zz1 : Z ≤ 4294967295)
    (X : Int) (eX : IntKind.u64.wrap (IntKind.u64.wrap (IntKind.u64.wrap (W * 4294967296) + V0) - IntKind.u64.wrap (Z * Y)) = X) (_x0 : 0 ≤ X) :
    Calls Try.prog 129 #[.int .u64 hi, .int .u64 lo, .int .u64 y] w fun e w' => e = .returned (.tuple #[.int .u64 (Q * 4294967296 + Z), .int .u64 (X / 2 ^ s.toNat)]) ∧ w' = w := by
  have y1 := d1.ky1; have y1' := d1.ky1'; have y0 := d1.ky0; have y0' := d1.ky0'; have u0U := d1.ku; have u1U := d1.ku'; have v1 := d1.kx; have v1' := d1.kx'
  have u0W := d2.ku; have u1W := d2.ku'; have v0 := d2.kx; have v0' := d2.kx'
  have HDU := Lib.hid d1; clear d1
  have HDW := Lib.hid d2; clear d2
  have gU := HDU.out.first
  have ghU := gU.high
  have g1U : 0 ≤ U / Y1 * Y1 := Int.mul_nonneg (Int.ediv_nonneg u0U (by omega)) (by omega)
  have gmU : Hid (U - U / Y1 * Y1 = U % Y1) := by have := gU.sum; show _ = _; omega
  have g2U : U / Y1 * Y1 ≤ U := by have := gmU.out; have := gU.r0; omega
  have grU : U % Y1 ≤ 4294967295 := by have := Int.emod_lt_of_pos U (show 0 < Y1 by omega); omega
  have gqU : 0 ≤ U / Y1 := Int.ediv_nonneg u0U (by omega)
  have HGU := Lib.hid gU; clear gU
  have gW := HDW.out.first
  have ghW := gW.high
  have g1W : 0 ≤ W / Y1 * Y1 := Int.mul_nonneg (Int.ediv_nonneg u0W (by omega)) (by omega)
  have gmW : Hid (W - W / Y1 * Y1 = W % Y1) := by have := gW.sum; show _ = _; omega
  have g2W : W / Y1 * Y1 ≤ W := by have := gmW.out; have := gW.r0; omega
  have grW : W % Y1 ≤ 4294967295 := by have := Int.emod_lt_of_pos W (show 0 < Y1 by omega); omega
  have gqW : 0 ≤ W / Y1 := Int.ediv_nonneg u0W (by omega)
  have HGW := Lib.hid gW; clear gW
  go_enter Try.func129, Try.ntmps129
  go_upto_block 0 with (go_at_call 131; refine (HL.out _).mono ?_; rintro e w1 ⟨rfl, hw⟩; rw [hw])
  go_cut [15, 16] (fun q r wx => q = .int .u64 Q ∧ wx = w)
  case first =>
    go_wp2_with fail
    go_loop [15, 16] (fun q r => ∃ qi ri : Int, q = .int .u64 qi ∧ r = .int .u64 ri ∧ Hid (Guess U Y Y1 V1 qi ri) ∧ 0 ≤ ri ∧ ri ≤ 4294967295 ∧ 0 ≤ qi ∧ qi ≤ 4294967297) (fun _ r => (4294967296 - intOf r).toNat)
    case atStart => exact ⟨_, _, rfl, rfl, by rw [gmU.out]; exact HGU.out, by have := HGU.out.r0; rw [gmU.out]; exact this, by rw [gmU.out]; exact grU, gqU, ghU⟩
    case round =>
      obtain ⟨q, r, rfl, rfl, hg, r0, r1, q0, q1⟩ := hrel
      have step : 4294967296 ≤ q ∨ 4294967296 * r + V1 < q * Y0 → Hid (Q ≤ q - 1) := fun h => by
        rw [← hQ.out]; rcases h with h | h
        · exact Guess.great HDU.out h
        · exact Guess.over HDU.out hg.out h
      by_cases hq : 4294967296 ≤ q
      · have S := step (.inl hq)
        clear step
        by_cases hr : 4294967296 ≤ r + Y1
        · have e : q - 1 = Q := by rw [← hQ.out]; exact (hg.out.next (by rw [hQ.out]; exact S.out) (by omega)).stop HDU.out (by omega) hr
          go_wp2_with fail
          go_meet
          exact ⟨rfl, rfl⟩
        · go_wp2_with fail
          go_round
          case rel => exact ⟨_, _, rfl, rfl, hg.out.next (by rw [hQ.out]; exact S.out) (by omega), by omega, by omega, by omega, by omega⟩
          case measure => simp [intOf]; omega
      · have p0 : 0 ≤ q * Y0 := Int.mul_nonneg q0 y0
        have p1 : q * Y0 ≤ 18446744073709551615 := by
          have := Int.mul_le_mul (show q ≤ 4294967295 by omega) y0' y0 (by omega); omega
        by_cases hk : 4294967296 * r + V1 < q * Y0
        · have S := step (.inr hk)
          clear step
          have qp : 0 < q := by
            rcases (show q = 0 ∨ 0 < q by omega) with h | h
            · exfalso; rw [h, Int.zero_mul] at hk; omega
            · exact h
          by_cases hr : 4294967296 ≤ r + Y1
          · have e : q - 1 = Q := by rw [← hQ.out]; exact (hg.out.next (by rw [hQ.out]; exact S.out) (by omega)).stop HDU.out (by omega) hr
            go_wp2_with fail
            go_meet
            exact ⟨rfl, rfl⟩
          · go_wp2_with fail
            go_round
            case rel => exact ⟨_, _, rfl, rfl, hg.out.next (by rw [hQ.out]; exact S.out) (by omega), by omega, by omega, by omega, by omega⟩
            case measure => simp [intOf]; omega
        · have e : q = Q := by rw [← hQ.out]; exact hg.out.done HDU.out (by omega)
          clear step
          have E := Lib.hid e; clear e
          go_wp2_with fail
          go_meet
          exact ⟨by rw [E.out], rfl⟩
  case rest =>
    obtain ⟨rfl, rfl⟩ := hcut
    go_upto_block 2 with fail
    go_cut [18, 16] (fun q r wx => q = .int .u64 Z ∧ wx = wc)
    case first =>
      go_wp2_with fail
      go_loop [18, 16] (fun q r => ∃ qi ri : Int, q = .int .u64 qi ∧ r = .int .u64 ri ∧ Hid (Guess W Y Y1 V0 qi ri) ∧ 0 ≤ ri ∧ ri ≤ 4294967295 ∧ 0 ≤ qi ∧ qi ≤ 4294967297) (fun _ r => (4294967296 - intOf r).toNat)
      case atStart => exact ⟨_, _, rfl, rfl, by rw [gmW.out]; exact HGW.out, by have := HGW.out.r0; rw [gmW.out]; exact this, by rw [gmW.out]; exact grW, gqW, ghW⟩
      case round =>
        obtain ⟨q, r, rfl, rfl, hg, r0, r1, q0, q1⟩ := hrel
        have step : 4294967296 ≤ q ∨ 4294967296 * r + V0 < q * Y0 → Hid (Z ≤ q - 1) := fun h => by
          rw [← hZ.out]; rcases h with h | h
          · exact Guess.great HDW.out h
          · exact Guess.over HDW.out hg.out h
        by_cases hq : 4294967296 ≤ q
        · have S := step (.inl hq)
          clear step
          by_cases hr : 4294967296 ≤ r + Y1
          · have e : q - 1 = Z := by rw [← hZ.out]; exact (hg.out.next (by rw [hZ.out]; exact S.out) (by omega)).stop HDW.out (by omega) hr
            go_wp2_with fail
            go_meet
            exact ⟨rfl, rfl⟩
          · go_wp2_with fail
            go_round
            case rel => exact ⟨_, _, rfl, rfl, hg.out.next (by rw [hZ.out]; exact S.out) (by omega), by omega, by omega, by omega, by omega⟩
            case measure => simp [intOf]; omega
        · have p0 : 0 ≤ q * Y0 := Int.mul_nonneg q0 y0
          have p1 : q * Y0 ≤ 18446744073709551615 := by
            have := Int.mul_le_mul (show q ≤ 4294967295 by omega) y0' y0 (by omega); omega
          by_cases hk : 4294967296 * r + V0 < q * Y0
          · have S := step (.inr hk)
            clear step
            have qp : 0 < q := by
              rcases (show q = 0 ∨ 0 < q by omega) with h | h
              · exfalso; rw [h, Int.zero_mul] at hk; omega
              · exact h
            by_cases hr : 4294967296 ≤ r + Y1
            · have e : q - 1 = Z := by rw [← hZ.out]; exact (hg.out.next (by rw [hZ.out]; exact S.out) (by omega)).stop HDW.out (by omega) hr
              go_wp2_with fail
              go_meet
              exact ⟨rfl, rfl⟩
            · go_wp2_with fail
              go_round
              case rel => exact ⟨_, _, rfl, rfl, hg.out.next (by rw [hZ.out]; exact S.out) (by omega), by omega, by omega, by omega, by omega⟩
              case measure => simp [intOf]; omega
          · have e : q = Z := by rw [← hZ.out]; exact hg.out.done HDW.out (by omega)
            clear step
            have E := Lib.hid e; clear e
            go_wp2_with fail
            go_meet
            exact ⟨by rw [E.out], rfl⟩
  
    case rest =>
      obtain ⟨rfl, rfl⟩ := hcut
      go_wp2_with fail
      go_ret2
      exact ⟨rfl, rfl⟩

/-- What a shift by t does to two words. -/
theorem shift_parts (hi lo y t : Nat) (ht : t ≤ 63) (hlo : lo < 18446744073709551616) (hh : hi < y) (hy : y * 2 ^ t < 18446744073709551616) :
    (hi * 2 ^ t ||| lo / 2 ^ (64 - t)) * 18446744073709551616 + lo * 2 ^ t % 18446744073709551616 = (hi * 18446744073709551616 + lo) * 2 ^ t ∧ (hi * 2 ^ t ||| lo / 2 ^ (64 - t)) < y * 2 ^ t ∧ hi * 2 ^ t < 18446744073709551616 ∧ lo / 2 ^ (64 - t) < 18446744073709551616 := by
  have e64 : 2 ^ (64 - t) * 2 ^ t = 18446744073709551616 := by rw [← Nat.pow_add, show 64 - t + t = 64 by omega]
  have P : 0 < 2 ^ t := Nat.two_pow_pos t
  have P' : 0 < 2 ^ (64 - t) := Nat.two_pow_pos _
  have b : lo / 2 ^ (64 - t) < 2 ^ t := by
    rw [Nat.div_lt_iff_lt_mul P', Nat.mul_comm, e64]; exact hlo
  have o : hi * 2 ^ t ||| lo / 2 ^ (64 - t) = hi * 2 ^ t + lo / 2 ^ (64 - t) := by
    rw [Nat.mul_comm hi, ← Nat.two_pow_add_eq_or_of_lt b hi]
  have m : lo * 2 ^ t = lo / 2 ^ (64 - t) * 18446744073709551616 + lo * 2 ^ t % 18446744073709551616 := by
    have h := Nat.div_add_mod (lo * 2 ^ t) 18446744073709551616
    have q : lo * 2 ^ t / 18446744073709551616 = lo / 2 ^ (64 - t) := by rw [← e64, Nat.mul_div_mul_right _ _ P]
    rw [q] at h; omega
  have k : (hi + 1) * 2 ^ t ≤ y * 2 ^ t := Nat.mul_le_mul_right _ hh
  rw [Nat.add_mul, Nat.one_mul] at k
  rw [o]
  refine ⟨?_, by omega, by omega, Nat.lt_of_le_of_lt (Nat.div_le_self _ _) hlo⟩
  rw [Nat.add_mul, Nat.add_mul, m]
  have : hi * 18446744073709551616 * 2 ^ t = hi * 2 ^ t * 18446744073709551616 := by rw [Nat.mul_right_comm]
  omega

theorem div64_nums (hi lo y t : Nat) (h2' : lo < 18446744073709551616) (h4 : hi < y) (ht : t ≤ 63) (y1 : y * 2 ^ t < 18446744073709551616) (y2 : 9223372036854775808 ≤ y * 2 ^ t) :
    ∃ Y Y1 Y0 U V V1 V0 Q W Z X : Int,
      IntKind.u64.wrap ((y : Int) * 2 ^ (t : Int).toNat) = Y ∧ Y / 4294967296 = Y1 ∧ bits BinOp.and IntKind.u64 Y 4294967295 = Y0 ∧
      bits BinOp.or IntKind.u64 (IntKind.u64.wrap ((hi : Int) * 2 ^ (t : Int).toNat)) ((lo : Int) / 2 ^ ((64 : Int) - (t : Int)).toNat) = U ∧
      IntKind.u64.wrap ((lo : Int) * 2 ^ (t : Int).toNat) = V ∧ V / 4294967296 = V1 ∧ bits BinOp.and IntKind.u64 V 4294967295 = V0 ∧
      Digit U Y Y1 Y0 V1 ∧ (U * 4294967296 + V1) / Y = Q ∧ 0 ≤ Q ∧ Q ≤ 4294967295 ∧
      IntKind.u64.wrap (IntKind.u64.wrap (IntKind.u64.wrap (U * 4294967296) + V1) - IntKind.u64.wrap (Q * Y)) = W ∧
      Digit W Y Y1 Y0 V0 ∧ (W * 4294967296 + V0) / Y = Z ∧ 0 ≤ Z ∧ Z ≤ 4294967295 ∧
      IntKind.u64.wrap (IntKind.u64.wrap (IntKind.u64.wrap (W * 4294967296) + V0) - IntKind.u64.wrap (Z * Y)) = X ∧ 0 ≤ X ∧
      Q * 4294967296 + Z = ((hi : Int) * 18446744073709551616 + (lo : Int)) / (y : Int) ∧ X / 2 ^ (t : Int).toNat = ((hi : Int) * 18446744073709551616 + (lo : Int)) % (y : Int) := by
  have P : 0 < 2 ^ t := Nat.two_pow_pos t
  obtain ⟨s1, s2, s3, s4⟩ := shift_parts hi lo y t ht h2' h4 y1
  have hU := bits_or_u64_nat (hi * 2 ^ t) (lo / 2 ^ (64 - t)) s3 s4
  have hA := Mul64.maskN (y * 2 ^ t) y1
  have hB := Mul64.maskN (lo * 2 ^ t % 18446744073709551616) (Nat.mod_lt _ (by omega))
  have e1 : (y : Int) * 2 ^ (t : Int).toNat = ((y * 2 ^ t : Nat) : Int) := by rw [Int.toNat_natCast, Int.natCast_mul, Int.natCast_pow]; rfl
  have e2 : (hi : Int) * 2 ^ (t : Int).toNat = ((hi * 2 ^ t : Nat) : Int) := by rw [Int.toNat_natCast, Int.natCast_mul, Int.natCast_pow]; rfl
  have e3 : (lo : Int) * 2 ^ (t : Int).toNat = ((lo * 2 ^ t : Nat) : Int) := by rw [Int.toNat_natCast, Int.natCast_mul, Int.natCast_pow]; rfl
  have e4 : (lo : Int) / (2 : Int) ^ ((64 : Int) - (t : Int)).toNat = ((lo / 2 ^ (64 - t) : Nat) : Int) := by
    rw [Int.natCast_ediv, Int.natCast_pow, show ((64 : Int) - (t : Int)).toNat = 64 - t by omega]; rfl
  have s1' : ((hi * 2 ^ t ||| lo / 2 ^ (64 - t) : Nat) : Int) * 18446744073709551616 + ((lo * 2 ^ t % 18446744073709551616 : Nat) : Int) = ((hi : Int) * 18446744073709551616 + (lo : Int)) * (2 : Int) ^ t := by
    have h := congrArg (fun n : Nat => (n : Int)) s1
    have k : ((18446744073709551616 : Nat) : Int) = 18446744073709551616 := rfl
    have k2 : ((2 ^ t : Nat) : Int) = (2 : Int) ^ t := by rw [Int.natCast_pow]; rfl
    simp only [Int.natCast_add, Int.natCast_mul] at h
    rw [k, k2] at h
    exact h
  have eY : ((y * 2 ^ t : Nat) : Int) = (y : Int) * (2 : Int) ^ t := by rw [Int.natCast_mul, Int.natCast_pow]; rfl
  have w1 : IntKind.u64.wrap ((y * 2 ^ t : Nat) : Int) = ((y * 2 ^ t : Nat) : Int) := by rw [IntKind.wrap_u64]; omega
  have w2 : IntKind.u64.wrap ((hi * 2 ^ t : Nat) : Int) = ((hi * 2 ^ t : Nat) : Int) := by rw [IntKind.wrap_u64]; omega
  have w3 : IntKind.u64.wrap ((lo * 2 ^ t : Nat) : Int) = ((lo * 2 ^ t % 18446744073709551616 : Nat) : Int) := by rw [IntKind.wrap_u64]; omega
  have vlt : lo * 2 ^ t % 18446744073709551616 < 18446744073709551616 := Nat.mod_lt _ (by omega)
  rw [e1, e2, e3, e4, w1, w2, w3, hU]
  generalize (hi * 2 ^ t ||| lo / 2 ^ (64 - t)) = U at *
  generalize lo * 2 ^ t % 18446744073709551616 = V at *
  generalize y * 2 ^ t = Y at *
  have d1 : Digit (U : Int) (Y : Int) ((Y : Int) / 4294967296) ((Y % 4294967296 : Nat) : Int) ((V : Int) / 4294967296) :=
    ⟨by omega, by omega, by omega, by omega, by omega, by omega, by omega, by omega, by omega⟩
  have hW0 := Int.emod_nonneg ((U : Int) * 4294967296 + (V : Int) / 4294967296) (show (Y : Int) ≠ 0 by omega)
  have hW1 := Int.emod_lt_of_pos ((U : Int) * 4294967296 + (V : Int) / 4294967296) (show (0 : Int) < Y by omega)
  have d2 : Digit (((U : Int) * 4294967296 + (V : Int) / 4294967296) % Y) (Y : Int) ((Y : Int) / 4294967296) ((Y % 4294967296 : Nat) : Int) ((V % 4294967296 : Nat) : Int) :=
    ⟨by omega, by omega, by omega, by omega, by omega, hW0, hW1, by omega, by omega⟩
  have both := Digit.both (U := (U : Int)) (Y := (Y : Int)) (V1 := (V : Int) / 4294967296) (V0 := ((V % 4294967296 : Nat) : Int)) (by omega)
  have r1 := d1.rest (by omega)
  have r2 := d2.rest (by omega)
  have q1 := d1.lt; have q1' := d1.ge; have q2 := d2.lt; have q2' := d2.ge
  have wx0 := Int.emod_nonneg ((((U : Int) * 4294967296 + (V : Int) / 4294967296) % Y) * 4294967296 + ((V % 4294967296 : Nat) : Int)) (show (Y : Int) ≠ 0 by omega)
  have vv : ((V : Int) / 4294967296) * 4294967296 + ((V % 4294967296 : Nat) : Int) = (V : Int) := by omega
  rw [vv] at both
  have P0 : (0 : Int) < (2 : Int) ^ t := Int.pow_pos (by omega)
  have f1 : ((U : Int) * 18446744073709551616 + (V : Int)) / (Y : Int) = ((hi : Int) * 18446744073709551616 + (lo : Int)) / (y : Int) := by
    rw [s1', eY, Int.mul_ediv_mul_of_pos_left _ _ P0]
  have f2 : ((U : Int) * 18446744073709551616 + (V : Int)) % (Y : Int) / (2 : Int) ^ t = ((hi : Int) * 18446744073709551616 + (lo : Int)) % (y : Int) := by
    rw [s1', eY, Int.mul_comm _ ((2 : Int) ^ t), Int.mul_comm (y : Int), Int.mul_emod_mul_of_pos _ _ P0, Int.mul_ediv_cancel_left _ (Int.ne_of_gt P0)]
  refine ⟨_, _, _, _, _, _, _, _, _, _, _, rfl, rfl, hA, rfl, rfl, rfl, hB, d1, rfl, q1', by omega, ?_, d2, rfl, q2', by omega, ?_, wx0, ?_, ?_⟩
  · exact (wrapU3 _ _ _).trans r1
  · exact (wrapU3 _ _ _).trans r2
  · rw [both.1, f1]
  · rw [both.2, Int.toNat_natCast, f2]

theorem div64_high (hi lo y : Nat) (w : World) (h2 : 1 ≤ hi) (h2' : lo < 18446744073709551616) (h3 : y < 18446744073709551616) (h4 : hi < y) :
    Calls Try.prog 129 #[.int .u64 (hi : Int), .int .u64 (lo : Int), .int .u64 (y : Int)] w fun e w' => e = .returned (.tuple #[.int .u64 (((hi : Int) * 18446744073709551616 + (lo : Int)) / (y : Int)), .int .u64 (((hi : Int) * 18446744073709551616 + (lo : Int)) % (y : Int))]) ∧ w' = w := by
  obtain ⟨t, ht, y1, y2, es⟩ : ∃ t : Nat, t ≤ 63 ∧ y * 2 ^ t < 18446744073709551616 ∧ 9223372036854775808 ≤ y * 2 ^ t ∧ (64 : Int) - (Lib.bitLen (y : Int).toNat : Int) = (t : Int) := by
    obtain ⟨b1, b2, b3⟩ := Lib.bitLenAux_bounds 64 y (by omega) (by omega)
    have b4 : Lib.bitLenAux 64 y ≤ 64 := Lib.bitLen_le y 64 (by omega) (by omega)
    rw [show Lib.bitLen ((y : Int).toNat) = Lib.bitLenAux 64 y from rfl]
    generalize Lib.bitLenAux 64 y = b at *
    obtain ⟨t, rfl⟩ : ∃ t, b = 64 - t := ⟨64 - b, by omega⟩
    refine ⟨t % 64, by omega, ?_, ?_, by omega⟩
    · have := Nat.mul_lt_mul_of_pos_right b3 (Nat.two_pow_pos (t % 64))
      rw [← Nat.pow_add, show 64 - t + t % 64 = 64 by omega] at this
      omega
    · have := Nat.mul_le_mul_right (2 ^ (t % 64)) b2
      rw [← Nat.pow_add, show 64 - t - 1 + t % 64 = 63 by omega] at this
      omega
  have HL : Hid (∀ w, Calls Try.prog 131 #[.int .u64 (y : Int)] w fun e w' => e = .returned (.int .i64 (t : Int)) ∧ w' = w) := by
    intro w; rw [← es]; exact Try.bits_LeadingZeros64 (y : Int) w (by omega) (by omega)
  obtain ⟨Y, Y1, Y0, U, V, V1, V0, Q, W, Z, X, k1, k2, k3, k4, k5, k6, k7, d1, k8, k9, k10, k11, d2, k12, k13, k14, k15, k16, k17, k18⟩ := div64_nums hi lo y t h2' h4 ht y1 y2
  rw [← k17, ← k18]
  exact div64_walk (hi : Int) (lo : Int) (y : Int) (t : Int) Y Y1 Y0 U V V1 V0 w (by omega) (by omega) (by omega) (by omega) (by omega) (by omega) (by omega) HL k1 k2 k3 k4 k5 k6 k7 d1 Q k8 k9 k10 W k11 d2 Z k12 k13 k14 X k15 k16

theorem div64_any (hi lo y : Int) (h0 : 0 ≤ hi) (h4 : hi < y) (h1 : 0 ≤ lo) (h2 : lo ≤ 18446744073709551615) (h3 : y ≤ 18446744073709551615) (w : World) :
    Calls Try.prog 129 #[.int .u64 hi, .int .u64 lo, .int .u64 y] w fun e w' => e = .returned (.tuple #[.int .u64 ((hi * 18446744073709551616 + lo) / y), .int .u64 ((hi * 18446744073709551616 + lo) % y)]) ∧ Below w.heap.size w w' := by
  rcases (show hi = 0 ∨ 1 ≤ hi by omega) with h | h
  · subst h
    refine (div64_low lo y h1 (by omega) w h2 h3).mono fun e w' ⟨he, n, hw⟩ => ⟨?_, ?_⟩
    · rw [he, Int.zero_mul, Int.zero_add]
    · rw [hw]; exact below_drewN (Below.refl _ _) n
  · obtain ⟨hi, rfl⟩ := Int.eq_ofNat_of_zero_le h0
    obtain ⟨lo, rfl⟩ := Int.eq_ofNat_of_zero_le h1
    obtain ⟨y, rfl⟩ := Int.eq_ofNat_of_zero_le (show 0 ≤ y by omega)
    refine (div64_high hi lo y w (by omega) (by omega) (by omega) (by omega)).mono fun e w' ⟨he, hw⟩ => ⟨he, ?_⟩
    rw [hw]; exact Below.refl _ _
end Go.Proofs.Ytbdcmdofmokoeaa
/-
  Fractions: the parts of a rational number, which of them fit, and the code's way to them.
-/
namespace Go.Proofs.Ytbdcmdofmokoeaa

/-- The parts of a rational number. -/
def fn (q : Rat) : Int := q.num
def fd (q : Rat) : Int := (q.den : Int)
/-- It fits. -/
def fits (q : Rat) : Prop := -4611686018427387903 ≤ fn q ∧ fn q ≤ 4611686018427387903 ∧ fd q ≤ 4611686018427387903
instance (q : Rat) : Decidable (fits q) := inferInstanceAs (Decidable (_ ∧ _))
/-- What a call returns for a rational number: its parts, or zeros and the error that it is too large. -/
def rn (q : Rat) : Int := if fits q then fn q else 0
def rd (q : Rat) : Int := if fits q then fd q else 0
def re (q : Rat) : Int := if fits q then 0 else 4
theorem fd_pos (q : Rat) : 1 ≤ fd q := by unfold fd; have := q.den_pos; omega
/-- The greatest common divisor. -/
def gcdI (x y : Int) : Int := (Int.gcd x y : Int)
theorem gcdI_pos_right (x y : Int) (h : 0 < y) : 0 < gcdI x y := by
  unfold gcdI; have := Int.gcd_pos_of_ne_zero_right x (show y ≠ 0 by omega); omega
theorem gcdI_pos_left (x y : Int) (h : 0 < x) : 0 < gcdI x y := by
  unfold gcdI; have := Int.gcd_pos_of_ne_zero_left y (show x ≠ 0 by omega); omega
theorem gcdI_le_right (x y : Int) (h : 0 < y) : gcdI x y ≤ y := by
  unfold gcdI; have := Nat.le_of_dvd (by omega) (Nat.gcd_dvd_right x.natAbs y.natAbs); rw [← Int.gcd_eq_natAbs_gcd_natAbs] at this; omega
theorem gcdI_le_left (x y : Int) (h : 0 < x) : gcdI x y ≤ x := by
  unfold gcdI; have := Nat.le_of_dvd (by omega) (Nat.gcd_dvd_left x.natAbs y.natAbs); rw [← Int.gcd_eq_natAbs_gcd_natAbs] at this; omega
theorem gcdI_zero (x : Int) (h : 0 ≤ x) : gcdI x 0 = x := by unfold gcdI; rw [Int.gcd_zero_right]; omega
theorem gcdI_step (x y : Int) (hx : 0 ≤ x) (hy : 0 < y) : gcdI y (x % y) = gcdI x y := by
  unfold gcdI
  congr 1
  obtain ⟨X, rfl⟩ := Int.eq_ofNat_of_zero_le hx
  obtain ⟨Y, rfl⟩ := Int.eq_ofNat_of_zero_le (Int.le_of_lt hy)
  rw [← Int.natCast_emod, Int.gcd_natCast_natCast, Int.gcd_natCast_natCast, Nat.gcd_comm X, Nat.gcd_rec Y X, Nat.gcd_comm]

theorem q_gcd (q : Rat) : gcdI (fn q) (fd q) = 1 := by
  unfold gcdI fn fd
  rw [Int.gcd_eq_natAbs_gcd_natAbs, Int.natAbs_natCast, show q.num.natAbs.gcd q.den = 1 from q.reduced]; rfl
/-- Two numbers without a common divisor are the parts of a rational number. -/
theorem q_of (a b : Int) (hb : 1 ≤ b) (h : gcdI a b = 1) : ∃ q : Rat, fn q = a ∧ fd q = b := by
  obtain ⟨B, rfl⟩ := Int.eq_ofNat_of_zero_le (show 0 ≤ b by omega)
  have h1 : a.natAbs.Coprime B := by
    unfold gcdI at h
    rw [Int.gcd_eq_natAbs_gcd_natAbs, Int.natAbs_natCast] at h
    unfold Nat.Coprime; omega
  exact ⟨⟨a, B, by omega, h1⟩, rfl, rfl⟩
theorem q_ext {q r : Rat} (h1 : fn q = fn r) (h2 : fd q = fd r) : q = r := by
  unfold fn fd at *; exact Rat.ext h1 (by omega)
/-- A fraction is valid. -/
def okF (a b : Int) : Prop := 1 ≤ b ∧ b ≤ 4611686018427387903 ∧ -4611686018427387903 ≤ a ∧ a ≤ 4611686018427387903 ∧ gcdI a b = 1
instance (a b : Int) : Decidable (okF a b) := inferInstanceAs (Decidable (_ ∧ _))
theorem okF_iff (a b : Int) : okF a b ↔ ∃ q : Rat, fits q ∧ fn q = a ∧ fd q = b := by
  constructor
  · rintro ⟨h1, h2, h3, h4, h5⟩
    obtain ⟨q, rfl, rfl⟩ := q_of a b h1 h5
    exact ⟨q, ⟨h3, h4, h2⟩, rfl, rfl⟩
  · rintro ⟨q, ⟨h1, h2, h3⟩, rfl, rfl⟩
    exact ⟨fd_pos q, h3, h1, h2, q_gcd q⟩
theorem okF_q {q : Rat} (h : fits q) : okF (fn q) (fd q) := (okF_iff _ _).2 ⟨q, h, rfl, rfl⟩
theorem mul_bound (x y M N : Int) (hx : -M ≤ x ∧ x ≤ M) (hy : -N ≤ y ∧ y ≤ N) (hM : 0 ≤ M) (hN : 0 ≤ N) : -(M * N) ≤ x * y ∧ x * y ≤ M * N := by
  have h : (x * y).natAbs ≤ (M * N).natAbs := by
    rw [Int.natAbs_mul, Int.natAbs_mul]
    exact Nat.mul_le_mul (by omega) (by omega)
  have := Int.mul_nonneg hM hN
  omega

/-- The code's way to a sum or a difference. -/
theorem div_bounds (b g : Int) (hb : 1 ≤ b) (hg : 0 < g) (hd : g ≤ b) : 1 ≤ b / g ∧ b / g ≤ b := by
  constructor
  · exact (Int.le_ediv_iff_mul_le hg).2 (by omega)
  · exact Int.ediv_le_self _ (by omega)
theorem gcdI_fd (q r : Rat) : gcdI (fd q) (fd r) = ((q.den.gcd r.den : Nat) : Int) := by
  unfold gcdI fd; rw [Int.gcd_natCast_natCast]
theorem gcdI_mag (g t : Int) (hg : 0 < g) : gcdI g ((t.natAbs : Int) % g) = ((t.natAbs.gcd g.toNat : Nat) : Int) := by
  obtain ⟨G, rfl⟩ := Int.eq_ofNat_of_zero_le (Int.le_of_lt hg)
  unfold gcdI
  rw [← Int.natCast_emod, Int.gcd_natCast_natCast, Int.toNat_natCast, Nat.gcd_comm G, ← Nat.gcd_rec, Nat.gcd_comm]
theorem add_parts (q r : Rat) (g l t s : Int) (hg : g = gcdI (fd q) (fd r)) (hl : l = fd q / g) (ht : t = fn q * (fd r / g) + fn r * l) (hs : s = gcdI g ((t.natAbs : Int) % g)) :
    t.tdiv s = fn (q + r) ∧ l * (fd r / s) = fd (q + r) := by
  have e : q + r = Rat.add q r := rfl
  have gp : 0 < g := by rw [hg]; exact gcdI_pos_left _ _ (by have := fd_pos q; omega)
  rw [gcdI_mag g t gp] at hs
  rw [gcdI_fd] at hg
  unfold fn fd at *
  rw [e]
  unfold Rat.add
  subst hg
  rw [Int.toNat_natCast] at hs
  have d1 : ((q.den : Int) / ((q.den.gcd r.den : Nat) : Int)) = ((q.den / q.den.gcd r.den : Nat) : Int) := by rw [Int.natCast_ediv]
  have d2 : ((r.den : Int) / ((q.den.gcd r.den : Nat) : Int)) = ((r.den / q.den.gcd r.den : Nat) : Int) := by rw [Int.natCast_ediv]
  rw [d1] at hl
  rw [d2, hl] at ht
  by_cases h : q.den.gcd r.den = 1
  · rw [dif_pos h]
    rw [h] at hs ht hl
    rw [Nat.gcd_one_right] at hs
    subst hs
    simp only [Nat.div_one] at ht hl
    exact ⟨by rw [ht]; simp, by rw [hl]; simp⟩
  · rw [dif_neg h]
    dsimp only
    subst ht
    unfold Rat.maybeNormalize
    have dv : ∀ t : Int, t.natAbs.gcd (q.den.gcd r.den) ∣ r.den := fun _ => Nat.dvd_trans (Nat.gcd_dvd_right _ _) (Nat.gcd_dvd_right _ _)
    split
    · rename_i h1
      rw [h1] at hs; subst hs
      exact ⟨by simp, by rw [hl]; simp⟩
    · dsimp only
      refine ⟨by rw [hs, Int.divExact_eq_tdiv], ?_⟩
      rw [hs, hl, Nat.divExact_eq_div, ← Int.natCast_ediv, ← Int.natCast_mul, Nat.mul_div_assoc _ (dv _)]
theorem sub_parts (q r : Rat) (g l t s : Int) (hg : g = gcdI (fd q) (fd r)) (hl : l = fd q / g) (ht : t = fn q * (fd r / g) - fn r * l) (hs : s = gcdI g ((t.natAbs : Int) % g)) :
    t.tdiv s = fn (q - r) ∧ l * (fd r / s) = fd (q - r) := by
  have e1 : fn (-r) = -fn r := rfl
  have e2 : fd (-r) = fd r := rfl
  rw [Rat.sub_eq_add_neg]
  have := add_parts q (-r) g l t s (by rw [e2]; exact hg) hl (by rw [e1, e2, ht, Int.neg_mul, Int.sub_eq_add_neg]) hs
  rw [e2] at this; exact this
theorem mul_parts (q r : Rat) (g h : Int) (hg : g = gcdI (fn q) (fd r)) (hh : h = gcdI (fn r) (fd q)) :
    (fn q).tdiv g * (fn r).tdiv h = fn (q * r) ∧ fd q / h * (fd r / g) = fd (q * r) := by
  have e : q * r = Rat.mul q r := rfl
  unfold gcdI fn fd at *
  rw [Int.gcd_eq_natAbs_gcd_natAbs, Int.natAbs_natCast] at hg hh
  rw [e]
  unfold Rat.mul
  dsimp only
  rw [hg, hh, Int.divExact_eq_tdiv, Int.divExact_eq_tdiv, Nat.divExact_eq_div, Nat.divExact_eq_div]
  exact ⟨rfl, by rw [Int.natCast_mul, Int.natCast_ediv, Int.natCast_ediv]⟩
theorem inv_parts (r : Rat) (h : fn r ≠ 0) : (fn r < 0 → fn r⁻¹ = -fd r ∧ fd r⁻¹ = -fn r) ∧ (0 ≤ fn r → fn r⁻¹ = fd r ∧ fd r⁻¹ = fn r) := by
  have e : r⁻¹ = Rat.inv r := rfl
  unfold fn fd at *
  rw [e]
  unfold Rat.inv
  refine ⟨fun k => ?_, fun k => ?_⟩
  · rw [dif_pos k]; exact ⟨rfl, by dsimp only; omega⟩
  · rw [dif_neg (by omega), dif_pos (by omega)]; exact ⟨rfl, by dsimp only; omega⟩
theorem cmp_parts (q r : Rat) : (fn q * fd r - fn r * fd q < 0 ↔ q < r) ∧ (fn q * fd r - fn r * fd q = 0 ↔ q = r) ∧ (0 < fn q * fd r - fn r * fd q ↔ r < q) := by
  have a := Rat.lt_iff q r
  have b := Rat.lt_iff r q
  unfold fn fd
  refine ⟨by rw [a]; omega, ?_, by rw [b]; omega⟩
  constructor
  · intro h
    have h1 : ¬ q < r := by rw [a]; omega
    have h2 : ¬ r < q := by rw [b]; omega
    exact Rat.le_antisymm (Rat.not_lt.1 h2) (Rat.not_lt.1 h1)
  · rintro rfl; omega
/-- -1, 0 or 1: whether a number is less than another one, equal, or greater. -/
def ordQ (q r : Rat) : Int := (fn q * fd r - fn r * fd q).sign
theorem ordQ_lt {q r : Rat} : ordQ q r < 0 ↔ q < r := by
  rw [← (cmp_parts q r).1]; unfold ordQ; exact Int.sign_neg_iff
theorem ordQ_gt {q r : Rat} : 0 < ordQ q r ↔ r < q := by
  rw [← (cmp_parts q r).2.2]; unfold ordQ; exact Int.sign_pos_iff
theorem ordQ_le {q r : Rat} : ordQ q r ≤ 0 ↔ q ≤ r := by
  rw [← Rat.not_lt, ← ordQ_gt]; omega
/-- The rational number of two whole numbers. -/
def mkR (n d : Int) : Rat := Rat.divInt n d
theorem mkR_parts (n d g : Int) (hd : d ≠ 0) (hg : g = gcdI (n.natAbs : Int) (d.natAbs : Int)) :
    fn (mkR n d) = d.sign * n.sign * ((n.natAbs : Int) / g) ∧ fd (mkR n d) = (d.natAbs : Int) / g := by
  have hg' : g = (d.gcd n : Int) := by
    rw [hg]; unfold gcdI
    rw [Int.gcd_natCast_natCast, ← Int.gcd_eq_natAbs_gcd_natAbs, Int.gcd_comm]
  unfold fn fd mkR
  rw [Rat.num_divInt, Rat.den_divInt, if_neg hd, hg']
  have dv : (d.gcd n : Int) ∣ n := Int.gcd_dvd_right d n
  refine ⟨?_, by rw [Int.natCast_ediv]⟩
  have dv2 : (d.gcd n : Int) ∣ (n.natAbs : Int) := Int.dvd_natAbs.2 dv
  have e2 : d.sign * n = d.sign * n.sign * (n.natAbs : Int) := by rw [Int.mul_assoc, Int.sign_mul_natAbs]
  rw [e2, Int.mul_ediv_assoc _ dv2]
end Go.Proofs.Ytbdcmdofmokoeaa
/-
  Layer 1: quotients of wide numbers, their parts, greatest common divisors.
-/
namespace Go.Proofs.Ytbdcmdofmokoeaa
open Go.RowKit

set_option maxHeartbeats 1000000 in
theorem divide_pos (z d Q R : Int) (w : World) (h0 : 0 ≤ z) (h1 : z < 170141183460469231731687303715884105728) (hd : 1 ≤ d) (hd1 : d ≤ 18446744073709551615) (eQ : Hid (z / d = Q)) (eR : Hid (z % d = R)) :
    Calls Try.prog 123 #[.agg #[.int .u64 (whi z), .int .u64 (wlo z)], .int .u64 d] w fun e w' => e = .returned (.tuple #[.agg #[.int .u64 (whi Q), .int .u64 (wlo Q)], .int .u64 R]) ∧ Below w.heap.size w w' := by
  obtain ⟨p1, p2, p3, p4, p5⟩ := div_parts z d h0 h1 hd hd1
  have a0 := whi_lo z; have a1 := whi_hi z; have b0 := wlo_lo z; have b1 := wlo_hi z
  have zs : ¬ z.sign < 0 := by
    intro h; have := Int.sign_neg_iff.1 h; omega
  rw [eQ.out] at p1 p2
  rw [eR.out] at p3
  have HD : Hid (∀ w, Calls Try.prog 129 #[.int .u64 (whi z % d), .int .u64 (wlo z), .int .u64 d] w fun e w' => e = .returned (.tuple #[.int .u64 (wlo Q), .int .u64 R]) ∧ Below w.heap.size w w') := by
    intro w
    rw [p2, p3]
    exact div64_any (whi z % d) (wlo z) d p4 p5 b0 b1 hd1 w
  have HQ : Hid (whi Q = whi z / d) := p1
  clear p1 p2 p3
  go_enter Try.func123, Try.ntmps123
  go_wp2_with (go_at_call 101; refine (sign_any z (by omega) h1 _).mono ?_; rintro e w1 ⟨rfl, hb⟩; obtain ⟨hc, hf⟩ := bcell hb; (try simp only [World.heap_drewN] at hc hf); (try simp only [heap_drew] at hc hf); have hz := hb.size; (try simp at hz); try (have hz0 : w.heap.size < w1.heap.size := by omega); try (have hz1 : w.heap.size + 1 < w1.heap.size := by omega); try (have hz2 : w.heap.size + 1 + 1 < w1.heap.size := by omega); try (have hz3 : w.heap.size + 1 + 1 + 1 < w1.heap.size := by omega); try (have hz4 : w.heap.size + 1 + 1 + 1 + 1 < w1.heap.size := by omega); try (have hz5 : w.heap.size + 1 + 1 + 1 + 1 + 1 < w1.heap.size := by omega))
  go_quiet (fail)
  go_wp2_with (go_at_call 129; refine (HD.out _).mono ?_; rintro e w1 ⟨rfl, hb⟩; obtain ⟨hc, hf⟩ := bcell hb; (try simp only [World.heap_drewN] at hc hf); (try simp only [heap_drew] at hc hf); have hz := hb.size; (try simp at hz); try (have hz0 : w.heap.size < w1.heap.size := by omega); try (have hz1 : w.heap.size + 1 < w1.heap.size := by omega); try (have hz2 : w.heap.size + 1 + 1 < w1.heap.size := by omega); try (have hz3 : w.heap.size + 1 + 1 + 1 < w1.heap.size := by omega); try (have hz4 : w.heap.size + 1 + 1 + 1 + 1 < w1.heap.size := by omega); try (have hz5 : w.heap.size + 1 + 1 + 1 + 1 + 1 < w1.heap.size := by omega))
  exact bodyPost_ret (v := .tuple #[.agg #[.int .u64 (whi Q), .int .u64 (wlo Q)], .int .u64 R]) (by rw [HQ.out]; simp only [results, Try.results123]; go_simp) rfl ⟨rfl, by (repeat' (first | (with_reducible exact Below.refl _ _) | (with_reducible assumption) | (with_reducible refine belowThru ?_ (by assumption)) | (with_reducible refine belowAlloc ?_) | (with_reducible refine Below.setCell ?_ (by first | omega | (simp; done) | (simp; omega)) _) | (with_reducible refine Below.drew ?_) | (with_reducible refine below_drewN ?_ _)))⟩

set_option maxHeartbeats 1000000 in
theorem divide_neg (z d Q R : Int) (w : World) (h0 : z < 0) (h1 : -170141183460469231731687303715884105728 < z) (hd : 1 ≤ d) (hd1 : d ≤ 18446744073709551615) (eQ : Hid (-((-z) / d) = Q)) (eR : Hid ((-z) % d = R)) :
    Calls Try.prog 123 #[.agg #[.int .u64 (whi z), .int .u64 (wlo z)], .int .u64 d] w fun e w' => e = .returned (.tuple #[.agg #[.int .u64 (whi Q), .int .u64 (wlo Q)], .int .u64 R]) ∧ Below w.heap.size w w' := by
  have zs : z.sign < 0 := Int.sign_neg_iff.2 h0
  have HD : Hid (∀ w, Calls Try.prog 123 #[.agg #[.int .u64 (whi (-z)), .int .u64 (wlo (-z))], .int .u64 d] w fun e w' => e = .returned (.tuple #[.agg #[.int .u64 (whi ((-z) / d)), .int .u64 (wlo ((-z) / d))], .int .u64 R]) ∧ Below w.heap.size w w') := by
    intro w
    exact divide_pos (-z) d _ R w (by omega) (by omega) hd hd1 rfl eR
  generalize (-z) / d = U at *
  have HO : Hid (∀ w, Calls Try.prog 104 #[.agg #[.int .u64 (whi U), .int .u64 (wlo U)]] w fun e w' => e = .returned (.agg #[.int .u64 (whi Q), .int .u64 (wlo Q)]) ∧ Below w.heap.size w w') := by
    intro w; have := opposite_any U w; rw [eQ.out] at this; exact this
  go_enter Try.func123, Try.ntmps123
  go_wp2_with (first
    | (go_at_call 101; refine (sign_any z (by omega) (by omega) _).mono ?_; rintro e w1 ⟨rfl, hb⟩; obtain ⟨hc, hf⟩ := bcell hb; (try simp only [World.heap_drewN] at hc hf); (try simp only [heap_drew] at hc hf); have hz := hb.size; (try simp at hz); try (have hz0 : w.heap.size < w1.heap.size := by omega); try (have hz1 : w.heap.size + 1 < w1.heap.size := by omega); try (have hz2 : w.heap.size + 1 + 1 < w1.heap.size := by omega); try (have hz3 : w.heap.size + 1 + 1 + 1 < w1.heap.size := by omega); try (have hz4 : w.heap.size + 1 + 1 + 1 + 1 < w1.heap.size := by omega); try (have hz5 : w.heap.size + 1 + 1 + 1 + 1 + 1 < w1.heap.size := by omega))
    | (go_at_call 123; refine (HD.out _).mono ?_; rintro e w1 ⟨rfl, hb⟩; obtain ⟨hc, hf⟩ := bcell hb; (try simp only [World.heap_drewN] at hc hf); (try simp only [heap_drew] at hc hf); have hz := hb.size; (try simp at hz); try (have hz0 : w.heap.size < w1.heap.size := by omega); try (have hz1 : w.heap.size + 1 < w1.heap.size := by omega); try (have hz2 : w.heap.size + 1 + 1 < w1.heap.size := by omega); try (have hz3 : w.heap.size + 1 + 1 + 1 < w1.heap.size := by omega); try (have hz4 : w.heap.size + 1 + 1 + 1 + 1 < w1.heap.size := by omega); try (have hz5 : w.heap.size + 1 + 1 + 1 + 1 + 1 < w1.heap.size := by omega))
    | (go_at_call 104; (with_reducible refine (opposite_any z _).mono ?_); rintro e w1 ⟨rfl, hb⟩; obtain ⟨hc, hf⟩ := bcell hb; (try simp only [World.heap_drewN] at hc hf); (try simp only [heap_drew] at hc hf); have hz := hb.size; (try simp at hz); try (have hz0 : w.heap.size < w1.heap.size := by omega); try (have hz1 : w.heap.size + 1 < w1.heap.size := by omega); try (have hz2 : w.heap.size + 1 + 1 < w1.heap.size := by omega); try (have hz3 : w.heap.size + 1 + 1 + 1 < w1.heap.size := by omega); try (have hz4 : w.heap.size + 1 + 1 + 1 + 1 < w1.heap.size := by omega); try (have hz5 : w.heap.size + 1 + 1 + 1 + 1 + 1 < w1.heap.size := by omega))
    | (go_at_call 104; (with_reducible refine (HO.out _).mono ?_); rintro e w1 ⟨rfl, hb⟩; obtain ⟨hc, hf⟩ := bcell hb; (try simp only [World.heap_drewN] at hc hf); (try simp only [heap_drew] at hc hf); have hz := hb.size; (try simp at hz); try (have hz0 : w.heap.size < w1.heap.size := by omega); try (have hz1 : w.heap.size + 1 < w1.heap.size := by omega); try (have hz2 : w.heap.size + 1 + 1 < w1.heap.size := by omega); try (have hz3 : w.heap.size + 1 + 1 + 1 < w1.heap.size := by omega); try (have hz4 : w.heap.size + 1 + 1 + 1 + 1 < w1.heap.size := by omega); try (have hz5 : w.heap.size + 1 + 1 + 1 + 1 + 1 < w1.heap.size := by omega)))
  exact bodyPost_ret (v := .tuple #[.agg #[.int .u64 (whi Q), .int .u64 (wlo Q)], .int .u64 R]) (by simp only [results, Try.results123]; go_simp) rfl ⟨rfl, by (repeat' (first | (with_reducible exact Below.refl _ _) | (with_reducible assumption) | (with_reducible refine belowThru ?_ (by assumption)) | (with_reducible refine belowAlloc ?_) | (with_reducible refine Below.setCell ?_ (by first | omega | (simp; done) | (simp; omega)) _) | (with_reducible refine Below.drew ?_) | (with_reducible refine below_drewN ?_ _)))⟩

/-- The quotient without its fraction, and the size of the rest. -/
theorem divide_any (z d : Int) (w : World) (h0 : -170141183460469231731687303715884105728 < z) (h1 : z < 170141183460469231731687303715884105728) (hd : 1 ≤ d) (hd1 : d ≤ 18446744073709551615) :
    Calls Try.prog 123 #[.agg #[.int .u64 (whi z), .int .u64 (wlo z)], .int .u64 d] w fun e w' => e = .returned (.tuple #[.agg #[.int .u64 (whi (z.tdiv d)), .int .u64 (wlo (z.tdiv d))], .int .u64 ((z.natAbs : Int) % d)]) ∧ Below w.heap.size w w' := by
  rcases (show z < 0 ∨ 0 ≤ z by omega) with h | h
  · exact divide_neg z d _ _ w h h0 hd hd1 (tdiv_neg z d h).symm (by show _ = _; rw [show ((z.natAbs : Int)) = -z by omega])
  · exact divide_pos z d _ _ w h h1 hd hd1 (Int.tdiv_eq_ediv_of_nonneg h).symm (by show _ = _; rw [show ((z.natAbs : Int)) = z by omega])
end Go.Proofs.Ytbdcmdofmokoeaa
