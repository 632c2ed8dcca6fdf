/-
  The texts that the laws of this seat share, merged: part 3.
-/
import Derived.BigQuiet
import Derived.Deep.CutRange
import Derived.Deep.DeepCutAuto
import Derived.Deep.Draws
import Derived.Deep.OwnRows
import Derived.Deep.QuietTactic
import Derived.Deep.RegionHeld3
import Derived.Laws.AppendOwn
import Derived.Lib.Hide
import Derived.LoopIn
import Derived.LoopNIn
import Derived.MapKept
import Derived.Maps.AppendAt
import Derived.OneCell
import Derived.OwnWalkIn
import Derived.RangeFuncBound
import Derived.RangeFuncCalls
import Derived.RangeFuncLeaves
import Derived.RangeFuncNested
import Derived.Shelf.Abstract
import Derived.Shelf.AbstractIn
import Derived.Shelf.RegionOpen
import Derived.StillTailTactics
import Derived.TacticsInMore
import Derived.Test.YtghmjdmiaajbnaaProg
import Derived.WalkKit
import Derived.WalkSmall
import Derived.WalkSpells
import Derived.Test.YtghmjdmiaajbnaaM2
/-
  Layer 2: an image in new memory; whether images are equal; an image whose values are changed.
-/
namespace Go.Proofs.Ytghmjdmiaajbnaa
open Go.RowKit
set_option linter.unusedVariables false
set_option linter.unusedSimpArgs false

set_option maxHeartbeats 2000000 in
theorem sameInts_any (a b : Option Addr) (n m c d : Nat) (xs ys : List Int) (hn : n ≤ maxLen) (w : World) (hR : Row w a n (iv xs)) (hS : Row w b m (iv ys)) :
    Calls Try.prog 23 #[.slice a n c, .slice b m d] w fun e w' => e = .returned (.bool (decide (xs = ys))) ∧ Below w.heap.size w w' := by
  unfold maxLen at hn
  have hx : xs.length = n := by have := hR.1; rwa [iv_length] at this
  have hy : ys.length = m := by have := hS.1; rwa [iv_length] at this
  by_cases hl : n = m
  · subst hl
    have HX := Lib.hid hx; have HY := Lib.hid hy; have HR := Lib.hid hR; have HS := Lib.hid hS
    clear hx hy hR hS
    go_enter Try.func23, Try.ntmps23
    go_wp2
    go_loopw [5] (fun i wr => ∃ k : Nat, k ≤ n ∧ i = .int .i64 k ∧ Hid (xs.take k = ys.take k) ∧ Below w.heap.size w wr) (fun i _ => n - (intOf i).toNat)
    case atStart => exact ⟨0, Nat.zero_le _, rfl, (show xs.take 0 = ys.take 0 by simp), by (repeat' (first | (with_reducible exact Below.refl _ _) | (with_reducible assumption) | (with_reducible refine belowThru ?_ (by assumption)) | (with_reducible refine belowAlloc ?_) | (with_reducible refine Below.setCell ?_ (by first | omega | (simp; done) | (simp; omega)) _) | (with_reducible refine Below.drew ?_) | (with_reducible refine below_drewN ?_ _)))⟩
    case round =>
      obtain ⟨k, hk, rfl, ht, hB⟩ := hrel
      by_cases hlt : k < n
      · obtain ⟨b1, o1, z1, rfl, l1, h1, c1⟩ := HR.out.int hlt
        obtain ⟨b2, o2, z2, rfl, l2, h2, c2⟩ := HS.out.int hlt
        have c1 := cell_later hB c1
        have c2 := cell_later hB c2
        have p0 : (0 : Int) ≤ (k : Int) := by omega
        have p1 : (k : Int) < (n : Int) := by omega
        by_cases he : z1 = z2
        · subst he
          have ht' : Hid (xs.take (k + 1) = ys.take (k + 1)) := by show _ = _; rw [List.take_add_one, List.take_add_one, h1, h2, ht.out]
          clear h1 h2
          go_wp2_with fail
          go_quiet (fail)
          go_wp2
          go_roundw
          case rel => exact ⟨k + 1, hlt, by go_num, ht', by (repeat' (first | (with_reducible exact Below.refl _ _) | (with_reducible assumption) | (with_reducible refine belowThru ?_ (by assumption)) | (with_reducible refine belowAlloc ?_) | (with_reducible refine Below.setCell ?_ (by first | omega | (simp; done) | (simp; omega)) _) | (with_reducible refine Below.drew ?_) | (with_reducible refine below_drewN ?_ _)))⟩
          case measure => simp [intOf]; omega
        · have hd : (z1 != z2) = true := by simpa using he
          have hz : decide (xs = ys) = false := decide_eq_false (fun e => he (by rw [e, h2] at h1; exact (Option.some.inj h1).symm))
          clear h1 h2 he
          go_wp2_with fail
          go_quiet (fail)
          go_wp2
          go_ret
          exact ⟨by first | rfl | (rw [hz]; rfl), by (repeat' (first | (with_reducible exact Below.refl _ _) | (with_reducible assumption) | (with_reducible refine belowThru ?_ (by assumption)) | (with_reducible refine belowAlloc ?_) | (with_reducible refine Below.setCell ?_ (by first | omega | (simp; done) | (simp; omega)) _) | (with_reducible refine Below.drew ?_) | (with_reducible refine below_drewN ?_ _)))⟩
      · have hz : decide (xs = ys) = true := decide_eq_true (by
          have h := ht.out
          rwa [List.take_of_length_le (by rw [HX.out]; omega), List.take_of_length_le (by rw [HY.out]; omega)] at h)
        go_wp2
        go_ret
        exact ⟨by first | rfl | (rw [hz]; rfl), by (repeat' (first | (with_reducible exact Below.refl _ _) | (with_reducible assumption) | (with_reducible refine belowThru ?_ (by assumption)) | (with_reducible refine belowAlloc ?_) | (with_reducible refine Below.setCell ?_ (by first | omega | (simp; done) | (simp; omega)) _) | (with_reducible refine Below.drew ?_) | (with_reducible refine below_drewN ?_ _)))⟩
  · have hd : ((n : Int) != (m : Int)) = true := by simp; omega
    rw [decide_eq_false (fun e : xs = ys => hl (by rw [← hx, ← hy, e]))]
    clear hR hS hx hy
    go_enter Try.func23, Try.ntmps23
    go_wp2
    go_ret
    exact ⟨rfl, by (repeat' (first | (with_reducible exact Below.refl _ _) | (with_reducible assumption) | (with_reducible refine belowThru ?_ (by assumption)) | (with_reducible refine belowAlloc ?_) | (with_reducible refine Below.setCell ?_ (by first | omega | (simp; done) | (simp; omega)) _) | (with_reducible refine Below.drew ?_) | (with_reducible refine below_drewN ?_ _)))⟩

set_option maxHeartbeats 2000000 in
theorem same_yes (W H : Int) (a b : Option Addr) (n m c d : Nat) (zs : List Int) (hn : n ≤ maxLen) (w : World) (hR : Row w a n (iv zs)) (hS : Row w b m (iv zs)) :
    Calls Try.prog 35 #[.agg #[.int .i64 W, .int .i64 H, .slice a n c], .agg #[.int .i64 W, .int .i64 H, .slice b m d]] w fun e w' => e = .returned (.bool true) ∧ Below w.heap.size w w' := by
  have HS : Hid (∀ w, Row w a n (iv zs) → Row w b m (iv zs) → Calls Try.prog 23 #[.slice a n c, .slice b m d] w fun e w' => e = .returned (.bool true) ∧ Below w.heap.size w w') := fun w hR hS => by
    have := sameInts_any a b n m c d zs zs hn w hR hS
    rw [decide_eq_true rfl] at this; exact this
  have H1 := Lib.hid hR; have H2 := Lib.hid hS
  clear hR hS hn
  go_enter Try.func35, Try.ntmps35
  go_wp2_with (go_at_call 23; (with_reducible refine (HS.out _ (H1.out.later (by (repeat' (first | (with_reducible exact Below.refl _ _) | (with_reducible assumption) | (with_reducible refine belowThru ?_ (by assumption)) | (with_reducible refine belowAlloc ?_) | (with_reducible refine Below.setCell ?_ (by first | omega | (simp; done) | (simp; omega)) _) | (with_reducible refine Below.drew ?_) | (with_reducible refine below_drewN ?_ _))))) (H2.out.later (by (repeat' (first | (with_reducible exact Below.refl _ _) | (with_reducible assumption) | (with_reducible refine belowThru ?_ (by assumption)) | (with_reducible refine belowAlloc ?_) | (with_reducible refine Below.setCell ?_ (by first | omega | (simp; done) | (simp; omega)) _) | (with_reducible refine Below.drew ?_) | (with_reducible refine below_drewN ?_ _)))))).mono ?_); rintro e w1 ⟨rfl, hb⟩)
  go_ret
  exact ⟨rfl, by (repeat' (first | (with_reducible exact Below.refl _ _) | (with_reducible assumption) | (with_reducible refine belowThru ?_ (by assumption)) | (with_reducible refine belowAlloc ?_) | (with_reducible refine Below.setCell ?_ (by first | omega | (simp; done) | (simp; omega)) _) | (with_reducible refine Below.drew ?_) | (with_reducible refine below_drewN ?_ _)))⟩

/-! ### An image in new memory -/
theorem info_tin : (Try.prog.info? 3).map (fun i => (i.zero, i.size, i.bytes)) = some (some (.int .i64 0), 1, 8) := by kernel_rfl
theorem oneCell_iv (zs : List Int) : ∀ u ∈ iv zs, u.oneCell' = true := by
  intro u hu
  obtain ⟨z, -, rfl⟩ := List.mem_map.1 hu
  rfl
theorem Row.set {w : World} {a : Option Addr} {n : Nat} {vs : List Value} (h : Row w a n vs) {p : Addr} {v : Value} (hp : ∀ ad, a = some ad → p.block ≠ ad.block) : Row (w.setCell p v) a n vs :=
  ⟨h.1, fun hn => by
    obtain ⟨b, off, ha, hlt, hc⟩ := h.2 hn
    have hne := hp _ ha
    exact ⟨b, off, ha, by simpa [World.setCell] using hlt, fun j hj => (World.cell?_of_block (w := w) (Below.heap_setCell w p v b (fun e => hne e.symm))).trans (hc j hj)⟩⟩
theorem add_pl (b off i : Nat) : (⟨b, off, none⟩ : Addr).add i = ⟨b, off + i, none⟩ := by
  unfold Addr.add; split <;> simp_all
/-- A slice of numbers in a block of numbers that is known. -/
def Own (w : World) (a : Option Addr) (n : Nat) (zs : List Int) : Prop :=
  zs.length = n ∧ ((a = none ∧ n = 0) ∨ ∃ (g : Nat) (cur : Array Value), a = some ⟨g, 0, none⟩ ∧ Blk w g cur 3 ∧ ∀ j, j < n → cur[j]? = (iv zs)[j]?)
theorem Own.row {w : World} {a : Option Addr} {n : Nat} {zs : List Int} (h : Own w a n zs) : Row w a n (iv zs) := by
  obtain ⟨hl, h⟩ := h
  refine ⟨by rw [iv_length]; exact hl, fun hn => ?_⟩
  rcases h with ⟨-, rfl⟩ | ⟨g, cur, rfl, k, hc⟩
  · exact absurd hn (by omega)
  · exact ⟨g, 0, rfl, k.lt, fun j hj => by rw [Nat.zero_add, k.cells, hc j hj]⟩
theorem Own.later {w w' : World} (hb : Below w.heap.size w w') {a : Option Addr} {n : Nat} {zs : List Int} (h : Own w a n zs) : Own w' a n zs :=
  ⟨h.1, h.2.imp id (fun ⟨g, cur, e, k, hc⟩ => ⟨g, cur, e, Blk.later hb k, hc⟩)⟩
theorem Own.drew {w : World} {a : Option Addr} {n : Nat} {zs : List Int} (h : Own w a n zs) : Own w.drew a n zs := h
theorem Own.alloc {w : World} {o : Obj} {a : Option Addr} {n : Nat} {zs : List Int} (h : Own w a n zs) : Own (w.alloc o) a n zs :=
  ⟨h.1, h.2.imp id (fun ⟨g, cur, e, k, hc⟩ => ⟨g, cur, e, k.alloc, hc⟩)⟩
theorem Own.set {w : World} {a : Option Addr} {n : Nat} {zs : List Int} (h : Own w a n zs) {b i : Nat} {c : Array Value} {t : TypeId} (k : Blk w b c t) (ht : t ≠ 3) (v : Value) : Own (w.setCell ⟨b, i, none⟩ v) a n zs :=
  ⟨h.1, h.2.imp id (fun ⟨g, cur, e, kg, hc⟩ => ⟨g, cur, e, Blk.other kg (fun e2 => by
    have e3 : g = b := e2
    subst e3
    have k1 : w.heap[g]? = some (.cells cur 3 (0, 0)) := kg
    have k2 : w.heap[g]? = some (.cells c t (0, 0)) := k
    rw [k1] at k2
    cases k2
    exact ht rfl), hc⟩)⟩
theorem Own.set3 {w : World} {a : Option Addr} {n : Nat} {zs : List Int} (h : Own w a n zs) {b : Nat} {c : Array Value} {t : TypeId} (k : Blk w b c t) (ht : t ≠ 3) (x y z : Value) : Own (((w.setCell ⟨b, 0, none⟩ x).setCell ⟨b, 1, none⟩ y).setCell ⟨b, 2, none⟩ z) a n zs :=
  ((h.set k ht x).set (Blk.set k) ht y).set (Blk.set (Blk.set k)) ht z
end Go.Proofs.Ytghmjdmiaajbnaa
/-
  Layer 2: the document's own answers: new images; turned, flipped and warped ones.
-/
namespace Go.Proofs.Ytghmjdmiaajbnaa
open Go.RowKit
set_option linter.unusedVariables false
set_option linter.unusedSimpArgs false

theorem rvalid_ok {W H : Int} {zs : List Int} (h : okI W H zs) (a : Option Addr) (n c : Nat) (hn : n ≤ maxLen) (w : World) (hR : Row w a n (iv zs)) :
    Calls Try.prog 43 #[.agg #[.int .i64 W, .int .i64 H, .slice a n c]] w fun e w' => e = .returned (.bool true) ∧ Below w.heap.size w w' := by
  have := rvalid_any W H a n c zs hn w hR; rw [decide_eq_true h] at this; exact this
theorem rvalid_no {W H : Int} {zs : List Int} (h : ¬ okI W H zs) (a : Option Addr) (n c : Nat) (hn : n ≤ maxLen) (w : World) (hR : Row w a n (iv zs)) :
    Calls Try.prog 43 #[.agg #[.int .i64 W, .int .i64 H, .slice a n c]] w fun e w' => e = .returned (.bool false) ∧ Below w.heap.size w w' := by
  have := rvalid_any W H a n c zs hn w hR; rw [decide_eq_false h] at this; exact this

end Go.Proofs.Ytghmjdmiaajbnaa
/-
  Layer 2: the ways to have values beyond the border, by the code and by the document.
-/
namespace Go.Proofs.Ytghmjdmiaajbnaa
open Go.RowKit Go.Shelf
set_option linter.unusedVariables false
set_option linter.unusedSimpArgs false

/-! ### A map of functions that the call makes -/
theorem insert_run (t k e : TypeId) (ht : Try.prog.underlying t = some (.map k e)) (hk : Try.prog.underlying k = some (.int .u8)) (w : World) (r : Nat) (es : Array MapEntry) (c : Nat) (j : Int) (v : Value) (hb : w.heap[r]? = some (.map es c)) (h1 : Instr.findNow (.int .u8) (.int .u8 j) es.toList 0 = some none) :
    (Instr.mapUpdate t (.map (some r)) (.int .u8 j) v).run Try.prog w = .ok () (w.putObj r (.map (es.push ⟨.int .u8 j, v, c⟩) (c + 1))) := by
  have hq : MapKept.IsKey (.int .u8) (.int .u8 j) := rfl
  simp [Instr.mapUpdate, run_underlying ht, MapKept.run_getObj_map hb, MapKept.run_checkKey hk hq, MapKept.run_findKey hk h1, MapKept.run_setObj_map _ hb, Result.andThen]
  rfl
theorem look_run (t k e : TypeId) (ht : Try.prog.underlying t = some (.map k e)) (hk : Try.prog.underlying k = some (.int .u8)) (w : World) (r : Nat) (es : Array MapEntry) (c : Nat) (j : Int) (i : Nat) (v : Value) (hb : w.heap[r]? = some (.map es c)) (h1 : Instr.findNow (.int .u8) (.int .u8 j) es.toList 0 = some (some (i, v))) :
    (Instr.lookup t (.map (some r)) (.int .u8 j) true).run Try.prog w = .ok (.tuple #[v, .bool true]) w := by
  have hq : MapKept.IsKey (.int .u8) (.int .u8 j) := rfl
  simp [Instr.lookup, run_underlying ht, MapKept.run_getObj_map hb, MapKept.run_checkKey hk hq, MapKept.run_findKey hk h1, Result.andThen]
/-- The function for a border. -/
def brdF (j : Int) : FuncId := if j = 1 then 104 else if j = 2 then 105 else 106
def brds : Array MapEntry := #[⟨.int .u8 1, .func (.func 104) #[] #[], 0⟩, ⟨.int .u8 2, .func (.func 105) #[] #[], 1⟩, ⟨.int .u8 3, .func (.func 106) #[] #[], 2⟩]
theorem below_put {B : Nat} {a w : World} {r : Nat} (o : Obj) (h : Below B a w) (hr : B ≤ r) : Below B a (w.putObj r o) :=
  h.trans ⟨rfl, rfl, rfl, by simp [World.putObj], fun k hk => World.putObj_heap_other (by omega)⟩
set_option maxHeartbeats 1000000 in
theorem borders_any (w : World) :
    Calls Try.prog 61 #[] w fun e w' => ∃ r : Nat, e = .returned (.map (some r)) ∧ w'.heap[r]? = some (.map brds 3) ∧ Below w.heap.size w w' := by
  have ht : Try.prog.underlying 93 = some (.map 5 91) := Try.underlying93
  have hk : Try.prog.underlying 5 = some (.int .u8) := Try.underlying5
  have hmm := @run_makeMap Try.prog
  obtain ⟨w1, hw1⟩ : ∃ w1, w.alloc (.map #[] 0) = w1 := ⟨_, rfl⟩
  have c1 : w1.heap[w.heap.size]? = some (.map #[] 0) := by rw [← hw1]; exact Array.getElem?_push_size
  have B1 : Below w.heap.size w w1 := by rw [← hw1]; exact belowAlloc (Below.refl _ _)
  have lt : w.heap.size < w1.heap.size := by rw [← hw1]; simp
  have i1 := insert_run _ _ _ ht hk w1 w.heap.size _ _ 1 (.func (.func 104) #[] #[]) c1 rfl
  obtain ⟨w2, hw2⟩ : ∃ w2, w1.putObj w.heap.size (.map (#[].push ⟨.int .u8 1, .func (.func 104) #[] #[], 0⟩) (0 + 1)) = w2 := ⟨_, rfl⟩
  rw [hw2] at i1
  have c2 : w2.heap[w.heap.size]? = some (.map (#[].push ⟨.int .u8 1, .func (.func 104) #[] #[], 0⟩) (0 + 1)) := by rw [← hw2]; exact World.putObj_heap_same lt
  have B2 : Below w.heap.size w w2 := by rw [← hw2]; exact below_put _ B1 (Nat.le_refl _)
  have lt2 : w.heap.size < w2.heap.size := by rw [← hw2]; simpa [World.putObj] using lt
  have i2 := insert_run _ _ _ ht hk w2 w.heap.size _ _ 2 (.func (.func 105) #[] #[]) c2 rfl
  obtain ⟨w3, hw3⟩ : ∃ w3, w2.putObj w.heap.size (.map ((#[].push ⟨.int .u8 1, .func (.func 104) #[] #[], 0⟩).push ⟨.int .u8 2, .func (.func 105) #[] #[], 0 + 1⟩) (0 + 1 + 1)) = w3 := ⟨_, rfl⟩
  rw [hw3] at i2
  have c3 : w3.heap[w.heap.size]? = some (.map ((#[].push ⟨.int .u8 1, .func (.func 104) #[] #[], 0⟩).push ⟨.int .u8 2, .func (.func 105) #[] #[], 0 + 1⟩) (0 + 1 + 1)) := by rw [← hw3]; exact World.putObj_heap_same lt2
  have B3 : Below w.heap.size w w3 := by rw [← hw3]; exact below_put _ B2 (Nat.le_refl _)
  have lt3 : w.heap.size < w3.heap.size := by rw [← hw3]; simpa [World.putObj] using lt2
  have i3 := insert_run _ _ _ ht hk w3 w.heap.size _ _ 3 (.func (.func 106) #[] #[]) c3 rfl
  obtain ⟨w4, hw4⟩ : ∃ w4, w3.putObj w.heap.size (.map brds 3) = w4 := ⟨_, rfl⟩
  have i4 : (Instr.mapUpdate 93 (.map (some w.heap.size)) (.int .u8 3) (.func (.func 106) #[] #[])).run Try.prog w3 = .ok () w4 := by rw [← hw4]; exact i3
  have c4 : w4.heap[w.heap.size]? = some (.map brds 3) := by rw [← hw4]; exact World.putObj_heap_same lt3
  have B4 : Below w.heap.size w w4 := by rw [← hw4]; exact below_put _ B3 (Nat.le_refl _)
  have C4 := Lib.hid c4
  have HB4 := Lib.hid B4
  have hmm' : (Instr.makeMap 93 none).run Try.prog w = .ok (.map (some w.heap.size)) w1 := by rw [← hw1]; exact hmm _ _
  clear c1 c2 c3 c4 B1 B2 B3 B4 hw1 hw2 hw3 hw4 lt lt2 lt3 ht hk hmm i3
  go_enter Try.func61, Try.ntmps61
  go_wp2
  go_ret
  exact ⟨_, rfl, C4.out, HB4.out⟩

/-! ### The three ways, by the code -/
theorem alloc2b (w : World) (c0 : Array Value) (t0 : TypeId) (c1 : Array Value) (t1 : TypeId) :
    ∃ W0, (w.alloc (.cells c0 t0)).alloc (.cells c1 t1) = W0 ∧ Blk W0 w.heap.size c0 t0 ∧ Blk W0 (w.heap.size + 1) c1 t1 ∧ Below w.heap.size w W0 :=
  ⟨_, rfl, Blk.alloc (Blk.new rfl), Blk.new (by simp), by (repeat' (first | (with_reducible exact Below.refl _ _) | (with_reducible assumption) | (with_reducible refine belowThru ?_ (by assumption)) | (with_reducible refine belowAlloc ?_) | (with_reducible refine Below.setCell ?_ (by first | omega | (simp; done) | (simp; omega)) _) | (with_reducible refine Below.drew ?_) | (with_reducible refine below_drewN ?_ _)))⟩
/-- A place beyond the border is brought to the nearest pixel, or around. -/
theorem near_in {n : Int} (h : okS n) (x : Int) : 0 ≤ inR x 0 (n - 1) ∧ inR x 0 (n - 1) < n := by
  unfold inR; obtain ⟨h1, h2⟩ := h; omega
theorem rest_in {n : Int} (h : okS n) (x : Int) : 0 ≤ x % n ∧ x % n < n := by
  obtain ⟨h1, h2⟩ := h
  exact ⟨Int.emod_nonneg x (by omega), Int.emod_lt_of_pos x (by omega)⟩
set_option maxHeartbeats 1000000 in
theorem orZero_any (W H x y : Int) (a : Option Addr) (n c : Nat) (zs : List Int) (hI : okI W H zs) (w : World) (hR : Row w a n (iv zs)) :
    Calls Try.prog 104 #[.agg #[.int .i64 W, .int .i64 H, .slice a n c], .agg #[.int .i64 x, .int .i64 y]] w fun e w' => e = .returned (.int .i64 (if inP W H x y then pixAt W zs x y else 0)) ∧ Below w.heap.size w w' := by
  have HR := Lib.hid hR
  by_cases hp : inP W H x y
  · rw [if_pos hp]
    have dp : decide (inP W H x y) = true := decide_eq_true hp
    have HA := Lib.hid (at_z W H x y a n c zs hI hp)
    clear hp hR hI
    go_enter Try.func104, Try.ntmps104
    go_wp2_with (first
      | (go_at_call 83; (with_reducible refine (has_any _ _ _ _ _ _ _ _).mono ?_); rintro e w1 ⟨rfl, hb⟩; (first | ((with_reducible have k0 := Blk.later hb (Blk.alloc (Blk.new rfl))); (with_reducible have k1 := Blk.later hb (Blk.new rfl)); simp only [World.size_alloc] at k1; obtain ⟨a0, b0⟩ := k0.read; have zl := k0.lt; obtain ⟨a1, b1⟩ := k1.read; have zl := k1.lt) | ((try (have zk := k0.lt; (first | ((with_reducible refine Blk.keepG hb k0 (fun h => ?_) ?_); (focus ((repeat' (first | (with_reducible assumption) | ((with_reducible refine Blk.new ?_); first | rfl | (simp; done)) | (with_reducible refine Blk.later (by assumption) ?_) | (with_reducible refine Blk.alloc ?_) | (with_reducible refine Blk.drewN ?_) | (with_reducible refine Blk.drew ?_) | (with_reducible refine Blk.other ?_ (by first | omega | (simp; done) | (simp; omega))))); done)); clear k0; intro k0) | (with_reducible replace k0 := Blk.later hb (Blk.set (Blk.set k0))) | (with_reducible replace k0 := Blk.later hb (Blk.set k0))); clear a0 b0; obtain ⟨a0, b0⟩ := k0.read; have zl := k0.lt)); (try (have zk := k1.lt; (first | ((with_reducible refine Blk.keepG hb k1 (fun h => ?_) ?_); (focus ((repeat' (first | (with_reducible assumption) | ((with_reducible refine Blk.new ?_); first | rfl | (simp; done)) | (with_reducible refine Blk.later (by assumption) ?_) | (with_reducible refine Blk.alloc ?_) | (with_reducible refine Blk.drewN ?_) | (with_reducible refine Blk.drew ?_) | (with_reducible refine Blk.other ?_ (by first | omega | (simp; done) | (simp; omega))))); done)); clear k1; intro k1) | (with_reducible replace k1 := Blk.later hb (Blk.set (Blk.set k1))) | (with_reducible replace k1 := Blk.later hb (Blk.set k1))); clear a1 b1; obtain ⟨a1, b1⟩ := k1.read; have zl := k1.lt)))))
      | (go_at_call 57; (with_reducible refine (HA.out _ (HR.out.later (by (repeat' (first | (with_reducible exact Below.refl _ _) | (with_reducible assumption) | (with_reducible refine belowThru ?_ (by assumption)) | (with_reducible refine belowAlloc ?_) | (with_reducible refine Below.setCell ?_ (by first | omega | (simp; done) | (simp; omega)) _) | (with_reducible refine Below.drew ?_) | (with_reducible refine below_drewN ?_ _)))))).mono ?_); rintro e w1 ⟨rfl, hb⟩; (try (have zk := k0.lt; (first | ((with_reducible refine Blk.keepG hb k0 (fun h => ?_) ?_); (focus ((repeat' (first | (with_reducible assumption) | ((with_reducible refine Blk.new ?_); first | rfl | (simp; done)) | (with_reducible refine Blk.later (by assumption) ?_) | (with_reducible refine Blk.alloc ?_) | (with_reducible refine Blk.drewN ?_) | (with_reducible refine Blk.drew ?_) | (with_reducible refine Blk.other ?_ (by first | omega | (simp; done) | (simp; omega))))); done)); clear k0; intro k0) | (with_reducible replace k0 := Blk.later hb (Blk.set (Blk.set k0))) | (with_reducible replace k0 := Blk.later hb (Blk.set k0))); clear a0 b0; obtain ⟨a0, b0⟩ := k0.read; have zl := k0.lt)); (try (have zk := k1.lt; (first | ((with_reducible refine Blk.keepG hb k1 (fun h => ?_) ?_); (focus ((repeat' (first | (with_reducible assumption) | ((with_reducible refine Blk.new ?_); first | rfl | (simp; done)) | (with_reducible refine Blk.later (by assumption) ?_) | (with_reducible refine Blk.alloc ?_) | (with_reducible refine Blk.drewN ?_) | (with_reducible refine Blk.drew ?_) | (with_reducible refine Blk.other ?_ (by first | omega | (simp; done) | (simp; omega))))); done)); clear k1; intro k1) | (with_reducible replace k1 := Blk.later hb (Blk.set (Blk.set k1))) | (with_reducible replace k1 := Blk.later hb (Blk.set k1))); clear a1 b1; obtain ⟨a1, b1⟩ := k1.read; have zl := k1.lt))))
    go_ret
    exact ⟨rfl, by (repeat' (first | (with_reducible exact Below.refl _ _) | (with_reducible assumption) | (with_reducible refine belowThru ?_ (by assumption)) | (with_reducible refine belowAlloc ?_) | (with_reducible refine Below.setCell ?_ (by first | omega | (simp; done) | (simp; omega)) _) | (with_reducible refine Below.drew ?_) | (with_reducible refine below_drewN ?_ _)))⟩
  · rw [if_neg hp]
    have dp : decide (inP W H x y) = false := decide_eq_false hp
    clear hp hR hI
    go_enter Try.func104, Try.ntmps104
    go_wp2_with (go_at_call 83; (with_reducible refine (has_any _ _ _ _ _ _ _ _).mono ?_); rintro e w1 ⟨rfl, hb⟩; (first | ((with_reducible have k0 := Blk.later hb (Blk.alloc (Blk.new rfl))); (with_reducible have k1 := Blk.later hb (Blk.new rfl)); simp only [World.size_alloc] at k1; obtain ⟨a0, b0⟩ := k0.read; have zl := k0.lt; obtain ⟨a1, b1⟩ := k1.read; have zl := k1.lt) | ((try (have zk := k0.lt; (first | ((with_reducible refine Blk.keepG hb k0 (fun h => ?_) ?_); (focus ((repeat' (first | (with_reducible assumption) | ((with_reducible refine Blk.new ?_); first | rfl | (simp; done)) | (with_reducible refine Blk.later (by assumption) ?_) | (with_reducible refine Blk.alloc ?_) | (with_reducible refine Blk.drewN ?_) | (with_reducible refine Blk.drew ?_) | (with_reducible refine Blk.other ?_ (by first | omega | (simp; done) | (simp; omega))))); done)); clear k0; intro k0) | (with_reducible replace k0 := Blk.later hb (Blk.set (Blk.set k0))) | (with_reducible replace k0 := Blk.later hb (Blk.set k0))); clear a0 b0; obtain ⟨a0, b0⟩ := k0.read; have zl := k0.lt)); (try (have zk := k1.lt; (first | ((with_reducible refine Blk.keepG hb k1 (fun h => ?_) ?_); (focus ((repeat' (first | (with_reducible assumption) | ((with_reducible refine Blk.new ?_); first | rfl | (simp; done)) | (with_reducible refine Blk.later (by assumption) ?_) | (with_reducible refine Blk.alloc ?_) | (with_reducible refine Blk.drewN ?_) | (with_reducible refine Blk.drew ?_) | (with_reducible refine Blk.other ?_ (by first | omega | (simp; done) | (simp; omega))))); done)); clear k1; intro k1) | (with_reducible replace k1 := Blk.later hb (Blk.set (Blk.set k1))) | (with_reducible replace k1 := Blk.later hb (Blk.set k1))); clear a1 b1; obtain ⟨a1, b1⟩ := k1.read; have zl := k1.lt)))))
    go_ret
    exact ⟨rfl, by (repeat' (first | (with_reducible exact Below.refl _ _) | (with_reducible assumption) | (with_reducible refine belowThru ?_ (by assumption)) | (with_reducible refine belowAlloc ?_) | (with_reducible refine Below.setCell ?_ (by first | omega | (simp; done) | (simp; omega)) _) | (with_reducible refine Below.drew ?_) | (with_reducible refine below_drewN ?_ _)))⟩
set_option maxRecDepth 100000 in
set_option maxHeartbeats 400000 in
theorem nearest_any (W H x y : Int) (a : Option Addr) (n c : Nat) (zs : List Int) (hI : okI W H zs) (w : World) (hR : Row w a n (iv zs)) :
    Calls Try.prog 105 #[.agg #[.int .i64 W, .int .i64 H, .slice a n c], .agg #[.int .i64 x, .int .i64 y]] w fun e w' => e = .returned (.int .i64 (pixAt W zs (inR x 0 (W - 1)) (inR y 0 (H - 1)))) ∧ Below w.heap.size w w' := by
  have HR := Lib.hid hR
  have hx := near_in hI.1.1 x
  have hy := near_in hI.1.2 y
  have HA := Lib.hid (at_z W H _ _ a n c zs hI ⟨hx, hy⟩)
  obtain ⟨⟨⟨w0, w1⟩, h0, h1⟩, -⟩ := hI
  have v1 : IntKind.i64.wrap (W - 1) = W - 1 := IntWalk.i64_in _ (by omega)
  have v2 : IntKind.i64.wrap (H - 1) = H - 1 := IntWalk.i64_in _ (by omega)
  clear hR hx hy
  go_enter Try.func105, Try.ntmps105
  go_upto_region 1 with fail
  obtain ⟨W0, hW0, k0, k1, hB⟩ := alloc2b w #[.int .i64 W, .int .i64 H, .slice a n c] 86 #[.int .i64 x, .int .i64 y] 83
  rw [hW0]
  clear hW0
  obtain ⟨a0, b0⟩ := k0.read; obtain ⟨a1, b1⟩ := k1.read
  refine wp_region_still_tail 14 (by kernel_rfl) (by kernel_rfl) ?_
  simp only [List.take_succ_cons, List.take_zero, List.drop_succ_cons, List.drop_zero]
  repeat still_step
  still_call ((bring_any x 0 (W - 1) _).mono fun e w1 h => ⟨h.1, h.2.symm⟩)
  repeat still_step
  still_call ((bring_any y 0 (H - 1) _).mono fun e w1 h => ⟨h.1, h.2.symm⟩)
  repeat still_step
  refine wpStill_nil ?_
  go_wp2_with (go_at_call 57; (with_reducible refine (HA.out _ (HR.out.later (by (repeat' (first | (with_reducible exact Below.refl _ _) | (with_reducible assumption) | (with_reducible refine belowThru ?_ (by assumption)) | (with_reducible refine belowAlloc ?_) | (with_reducible refine Below.setCell ?_ (by first | omega | (simp; done) | (simp; omega)) _) | (with_reducible refine Below.drew ?_) | (with_reducible refine below_drewN ?_ _)))))).mono ?_); rintro e w1 ⟨rfl, hb⟩; (try (have zk := k0.lt; (first | ((with_reducible refine Blk.keepG hb k0 (fun h => ?_) ?_); (focus ((repeat' (first | (with_reducible assumption) | ((with_reducible refine Blk.new ?_); first | rfl | (simp; done)) | (with_reducible refine Blk.later (by assumption) ?_) | (with_reducible refine Blk.alloc ?_) | (with_reducible refine Blk.drewN ?_) | (with_reducible refine Blk.drew ?_) | (with_reducible refine Blk.other ?_ (by first | omega | (simp; done) | (simp; omega))))); done)); clear k0; intro k0) | (with_reducible replace k0 := Blk.later hb (Blk.set (Blk.set k0))) | (with_reducible replace k0 := Blk.later hb (Blk.set k0))); clear a0 b0; obtain ⟨a0, b0⟩ := k0.read; have zl := k0.lt)); (try (have zk := k1.lt; (first | ((with_reducible refine Blk.keepG hb k1 (fun h => ?_) ?_); (focus ((repeat' (first | (with_reducible assumption) | ((with_reducible refine Blk.new ?_); first | rfl | (simp; done)) | (with_reducible refine Blk.later (by assumption) ?_) | (with_reducible refine Blk.alloc ?_) | (with_reducible refine Blk.drewN ?_) | (with_reducible refine Blk.drew ?_) | (with_reducible refine Blk.other ?_ (by first | omega | (simp; done) | (simp; omega))))); done)); clear k1; intro k1) | (with_reducible replace k1 := Blk.later hb (Blk.set (Blk.set k1))) | (with_reducible replace k1 := Blk.later hb (Blk.set k1))); clear a1 b1; obtain ⟨a1, b1⟩ := k1.read; have zl := k1.lt)))
  go_ret
  exact ⟨rfl, by (repeat' (first | (with_reducible exact Below.refl _ _) | (with_reducible assumption) | (with_reducible refine belowThru ?_ (by assumption)) | (with_reducible refine belowAlloc ?_) | (with_reducible refine Below.setCell ?_ (by first | omega | (simp; done) | (simp; omega)) _) | (with_reducible refine Below.drew ?_) | (with_reducible refine below_drewN ?_ _)))⟩
set_option maxRecDepth 100000 in
set_option maxHeartbeats 1000000 in
theorem wrapped_any (W H x y : Int) (a : Option Addr) (n c : Nat) (zs : List Int) (hI : okI W H zs) (x0 : -64 ≤ x) (x1 : x ≤ 64) (y0 : -64 ≤ y) (y1 : y ≤ 64) (w : World) (hR : Row w a n (iv zs)) :
    Calls Try.prog 106 #[.agg #[.int .i64 W, .int .i64 H, .slice a n c], .agg #[.int .i64 x, .int .i64 y]] w fun e w' => e = .returned (.int .i64 (pixAt W zs (x % W) (y % H))) ∧ Below w.heap.size w w' := by
  have HR := Lib.hid hR
  have hx := rest_in hI.1.1 x
  have hy := rest_in hI.1.2 y
  have HA := Lib.hid (at_z W H _ _ a n c zs hI ⟨hx, hy⟩)
  obtain ⟨⟨⟨w0, w1⟩, h0, h1⟩, -⟩ := hI
  have ex := Int.mul_ediv_add_emod x W
  have ey := Int.mul_ediv_add_emod y H
  obtain ⟨P, hP⟩ : ∃ P, W * (x / W) = P := ⟨_, rfl⟩
  obtain ⟨Q, hQ⟩ : ∃ Q, H * (y / H) = Q := ⟨_, rfl⟩
  rw [hP] at ex; rw [hQ] at ey
  have vP : IntKind.i64.wrap (W * (x / W)) = P := by rw [hP]; exact IntWalk.i64_in _ (by omega)
  have vQ : IntKind.i64.wrap (H * (y / H)) = Q := by rw [hQ]; exact IntWalk.i64_in _ (by omega)
  have vX : IntKind.i64.wrap (x - P) = x % W := by rw [show x - P = x % W by omega]; exact IntWalk.i64_in _ (by omega)
  have vY : IntKind.i64.wrap (y - Q) = y % H := by rw [show y - Q = y % H by omega]; exact IntWalk.i64_in _ (by omega)
  clear hR hx hy hP hQ ex ey
  go_enter Try.func106, Try.ntmps106
  go_upto_region 1 with fail
  obtain ⟨W0, hW0, k0, k1, hB⟩ := alloc2b w #[.int .i64 W, .int .i64 H, .slice a n c] 86 #[.int .i64 x, .int .i64 y] 83
  rw [hW0]
  clear hW0
  obtain ⟨a0, b0⟩ := k0.read; obtain ⟨a1, b1⟩ := k1.read
  refine wp_region_still_tail 24 (by kernel_rfl) (by kernel_rfl) ?_
  simp only [List.take_succ_cons, List.take_zero, List.drop_succ_cons, List.drop_zero]
  repeat still_step
  still_call ((quotient_any x W (by omega) (by omega) (by omega) (by omega) _).mono fun e w1 h => ⟨h.1, h.2.symm⟩)
  repeat still_step
  still_call ((quotient_any y H (by omega) (by omega) (by omega) (by omega) _).mono fun e w1 h => ⟨h.1, h.2.symm⟩)
  repeat still_step
  refine wpStill_nil ?_
  go_wp2_with (go_at_call 57; (with_reducible refine (HA.out _ (HR.out.later (by (repeat' (first | (with_reducible exact Below.refl _ _) | (with_reducible assumption) | (with_reducible refine belowThru ?_ (by assumption)) | (with_reducible refine belowAlloc ?_) | (with_reducible refine Below.setCell ?_ (by first | omega | (simp; done) | (simp; omega)) _) | (with_reducible refine Below.drew ?_) | (with_reducible refine below_drewN ?_ _)))))).mono ?_); rintro e w1 ⟨rfl, hb⟩; (try (have zk := k0.lt; (first | ((with_reducible refine Blk.keepG hb k0 (fun h => ?_) ?_); (focus ((repeat' (first | (with_reducible assumption) | ((with_reducible refine Blk.new ?_); first | rfl | (simp; done)) | (with_reducible refine Blk.later (by assumption) ?_) | (with_reducible refine Blk.alloc ?_) | (with_reducible refine Blk.drewN ?_) | (with_reducible refine Blk.drew ?_) | (with_reducible refine Blk.other ?_ (by first | omega | (simp; done) | (simp; omega))))); done)); clear k0; intro k0) | (with_reducible replace k0 := Blk.later hb (Blk.set (Blk.set k0))) | (with_reducible replace k0 := Blk.later hb (Blk.set k0))); clear a0 b0; obtain ⟨a0, b0⟩ := k0.read; have zl := k0.lt)); (try (have zk := k1.lt; (first | ((with_reducible refine Blk.keepG hb k1 (fun h => ?_) ?_); (focus ((repeat' (first | (with_reducible assumption) | ((with_reducible refine Blk.new ?_); first | rfl | (simp; done)) | (with_reducible refine Blk.later (by assumption) ?_) | (with_reducible refine Blk.alloc ?_) | (with_reducible refine Blk.drewN ?_) | (with_reducible refine Blk.drew ?_) | (with_reducible refine Blk.other ?_ (by first | omega | (simp; done) | (simp; omega))))); done)); clear k1; intro k1) | (with_reducible replace k1 := Blk.later hb (Blk.set (Blk.set k1))) | (with_reducible replace k1 := Blk.later hb (Blk.set k1))); clear a1 b1; obtain ⟨a1, b1⟩ := k1.read; have zl := k1.lt)))
  go_ret
  exact ⟨rfl, by (repeat' (first | (with_reducible exact Below.refl _ _) | (with_reducible assumption) | (with_reducible refine belowThru ?_ (by assumption)) | (with_reducible refine belowAlloc ?_) | (with_reducible refine Below.setCell ?_ (by first | omega | (simp; done) | (simp; omega)) _) | (with_reducible refine Below.drew ?_) | (with_reducible refine below_drewN ?_ _)))⟩
/-- A value beyond the border. -/
def bey (j W H : Int) (zs : List Int) (x y : Int) : Int :=
  if inP W H x y then pixAt W zs x y else if j = 1 then 0 else if j = 2 then pixAt W zs (inR x 0 (W - 1)) (inR y 0 (H - 1)) else pixAt W zs (x % W) (y % H)
theorem bey_any (j W H x y : Int) (hj : j = 1 ∨ j = 2 ∨ j = 3) (a : Option Addr) (n c : Nat) (zs : List Int) (hI : okI W H zs) (x0 : -64 ≤ x) (x1 : x ≤ 64) (y0 : -64 ≤ y) (y1 : y ≤ 64) (w : World) (hR : Row w a n (iv zs)) :
    Calls Try.prog (brdF j) #[.agg #[.int .i64 W, .int .i64 H, .slice a n c], .agg #[.int .i64 x, .int .i64 y]] w fun e w' => e = .returned (.int .i64 (bey j W H zs x y)) ∧ Below w.heap.size w w' := by
  have hb : ∀ v, v = bey j W H zs x y → ∀ e (w' : World), (e = Ending.returned (.int .i64 v) ∧ Below w.heap.size w w') → (e = Ending.returned (.int .i64 (bey j W H zs x y)) ∧ Below w.heap.size w w') := fun v hv e w' h => by rw [← hv]; exact h
  rcases hj with rfl | rfl | rfl
  · exact (orZero_any W H x y a n c zs hI w hR).mono (hb _ (by unfold bey; simp))
  · refine (nearest_any W H x y a n c zs hI w hR).mono (hb _ ?_)
    unfold bey
    by_cases hp : inP W H x y
    · rw [if_pos hp]
      obtain ⟨⟨h1, h2⟩, h3, h4⟩ := hp
      rw [show inR x 0 (W - 1) = x by unfold inR; omega, show inR y 0 (H - 1) = y by unfold inR; omega]
    · rw [if_neg hp]; simp
  · refine (wrapped_any W H x y a n c zs hI x0 x1 y0 y1 w hR).mono (hb _ ?_)
    unfold bey
    by_cases hp : inP W H x y
    · rw [if_pos hp]
      obtain ⟨⟨h1, h2⟩, h3, h4⟩ := hp
      rw [Int.emod_eq_of_lt h1 h2, Int.emod_eq_of_lt h3 h4]
    · rw [if_neg hp]; simp

/-! ### The document's own -/
end Go.Proofs.Ytghmjdmiaajbnaa
/-
  Layer 2: what distances, labels and basins are made of, by the code.
-/
namespace Go.Proofs.Ytghmjdmiaajbnaa
open Go.RowKit
set_option linter.unusedVariables false
set_option linter.unusedSimpArgs false

/-- The steps to the four neighbours. -/
def offs4 : List (Int × Int) := [(0, -1), (-1, 0), (1, 0), (0, 1)]
def cells4 : Array Value := #[.int .i64 0, .int .i64 (-1), .int .i64 (-1), .int .i64 0, .int .i64 1, .int .i64 0, .int .i64 0, .int .i64 1]
theorem around4_any (w : World) :
    Calls Try.prog 73 #[.bool false] w fun e w' => e = .returned (.slice (some ⟨w.heap.size, 0, none⟩) 4 4) ∧ Blk w' w.heap.size cells4 83 ∧ Below w.heap.size w w' := by
  go_enter Try.func73, Try.ntmps73
  go_wp2
  go_ret
  exact ⟨rfl, by unfold cells4; (repeat' (first | (with_reducible assumption) | ((with_reducible refine Blk.new ?_); first | rfl | (simp; done)) | (with_reducible refine Blk.later (by assumption) ?_) | (with_reducible refine Blk.alloc ?_) | (with_reducible refine Blk.drewN ?_) | (with_reducible refine Blk.drew ?_) | (with_reducible refine Blk.other ?_ (by first | omega | (simp; done) | (simp; omega))))), by (repeat' (first | (with_reducible exact Below.refl _ _) | (with_reducible assumption) | (with_reducible refine belowThru ?_ (by assumption)) | (with_reducible refine belowAlloc ?_) | (with_reducible refine Below.setCell ?_ (by first | omega | (simp; done) | (simp; omega)) _) | (with_reducible refine Below.drew ?_) | (with_reducible refine below_drewN ?_ _)))⟩
set_option maxHeartbeats 1000000 in
theorem steps_any (px py qx qy : Int) (hp : (0 ≤ px ∧ px ≤ 64) ∧ 0 ≤ py ∧ py ≤ 64) (hq : (0 ≤ qx ∧ qx ≤ 64) ∧ 0 ≤ qy ∧ qy ≤ 64) (w : World) :
    Calls Try.prog 71 #[.agg #[.int .i64 px, .int .i64 py], .agg #[.int .i64 qx, .int .i64 qy]] w fun e w' => e = .returned (.int .i64 (max (px - qx) (qx - px) + max (py - qy) (qy - py))) ∧ Below w.heap.size w w' := by
  obtain ⟨⟨h1, h2⟩, h3, h4⟩ := hp
  obtain ⟨⟨g1, g2⟩, g3, g4⟩ := hq
  go_enter Try.func71, Try.ntmps71
  go_wp2
  all_goals
    go_ret
    exact ⟨ret_int (by omega), by (repeat' (first | (with_reducible exact Below.refl _ _) | (with_reducible assumption) | (with_reducible refine belowThru ?_ (by assumption)) | (with_reducible refine belowAlloc ?_) | (with_reducible refine Below.setCell ?_ (by first | omega | (simp; done) | (simp; omega)) _) | (with_reducible refine Below.drew ?_) | (with_reducible refine below_drewN ?_ _)))⟩
/-- A pixel with the value vq and the number iq is taken as lower than one with vp and ip. -/
def lowB (vq vp : Int) (iq ip : Nat) : Prop := vq < vp ∨ (vq = vp ∧ iq < ip)
instance (vq vp : Int) (iq ip : Nat) : Decidable (lowB vq vp iq ip) := inferInstanceAs (Decidable (_ ∨ _))
set_option maxRecDepth 100000 in
set_option maxHeartbeats 4000000 in
theorem lower_any (W H qx qy px py vq vp : Int) (iq ip : Nat) (a : Option Addr) (n c : Nat) (zs : List Int) (hI : okI W H zs) (hq : inP W H qx qy) (hp : inP W H px py) (evq : pixAt W zs qx qy = vq) (evp : pixAt W zs px py = vp) (eiq : qy * W + qx = (iq : Int)) (eip : py * W + px = (ip : Int)) (w : World) (hR : Row w a n (iv zs)) :
    Calls Try.prog 114 #[.agg #[.int .i64 W, .int .i64 H, .slice a n c], .agg #[.int .i64 qx, .int .i64 qy], .agg #[.int .i64 px, .int .i64 py]] w fun e w' => e = .returned (.bool (decide (lowB vq vp iq ip))) ∧ Below w.heap.size w w' := by
  have HAQ := Lib.hid (at_z W H qx qy a n c zs hI hq)
  have HAP := Lib.hid (at_z W H px py a n c zs hI hp)
  rw [evq] at HAQ
  rw [evp] at HAP
  have HR := Lib.hid hR
  have hs := hI.1
  unfold okS at hs
  have HXQ := Lib.hid (fun w => index_any W H qx qy iq a n c eiq hq.2.1 (by have := hq.2.2; omega) (by omega) (by omega) hq.1.1 (by have := hq.1.2; omega) w)
  have HXP := Lib.hid (fun w => index_any W H px py ip a n c eip hp.2.1 (by have := hp.2.2; omega) (by omega) (by omega) hp.1.1 (by have := hp.1.2; omega) w)
  clear hI hq hp evq evp eiq eip hR hs
  by_cases e : vq = vp
  · have dl : decide (lowB vq vp iq ip) = decide ((iq : Int) < (ip : Int)) := by unfold lowB; simp [e]
    rw [dl]
    subst e
    clear dl
    go_enter Try.func114, Try.ntmps114
    go_upto_region 1 with fail
    go_region_held3 (fun w' => (Blk w' w.heap.size #[.int .i64 W, .int .i64 H, .slice a n c] 86 ∧ (∀ i : Nat, w'.cell? ⟨w.heap.size, i, none⟩ = (#[.int .i64 W, .int .i64 H, .slice a n c] : Array Value)[i]?)) ∧ (Blk w' (w.heap.size + 1) #[.int .i64 qx, .int .i64 qy] 83 ∧ (∀ i : Nat, w'.cell? ⟨(w.heap.size + 1), i, none⟩ = (#[.int .i64 qx, .int .i64 qy] : Array Value)[i]?)) ∧ (Blk w' (w.heap.size + 1 + 1) #[.int .i64 px, .int .i64 py] 83 ∧ (∀ i : Nat, w'.cell? ⟨(w.heap.size + 1 + 1), i, none⟩ = (#[.int .i64 px, .int .i64 py] : Array Value)[i]?)) ∧ Below w.heap.size w w')
      (((first | (apply hold3; (focus assumption); intro p0 p1 p2 pB) | skip); refine ⟨Blk.full ?_, Blk.full ?_, Blk.full ?_, ?_⟩; all_goals (first | ((repeat' (first | (with_reducible assumption) | ((with_reducible refine Blk.new ?_); first | rfl | (simp; done)) | (with_reducible refine Blk.later (by assumption) ?_) | (with_reducible refine Blk.alloc ?_) | (with_reducible refine Blk.drewN ?_) | (with_reducible refine Blk.drew ?_) | (with_reducible refine Blk.other ?_ (by first | omega | (simp; done) | (simp; omega))))); done) | ((repeat' (first | (with_reducible exact Below.refl _ _) | (with_reducible assumption) | (with_reducible refine belowThru ?_ (by assumption)) | (with_reducible refine belowAlloc ?_) | (with_reducible refine Below.setCell ?_ (by first | omega | (simp; done) | (simp; omega)) _) | (with_reducible refine Below.drew ?_) | (with_reducible refine below_drewN ?_ _))); done))))
      (first
      | (go_at_call 57; (with_reducible refine (HAQ.out _ (HR.out.later (by (repeat' (first | (with_reducible exact Below.refl _ _) | (with_reducible assumption) | (with_reducible refine belowThru ?_ (by assumption)) | (with_reducible refine belowAlloc ?_) | (with_reducible refine Below.setCell ?_ (by first | omega | (simp; done) | (simp; omega)) _) | (with_reducible refine Below.drew ?_) | (with_reducible refine below_drewN ?_ _)))))).mono ?_); rintro e w1 ⟨rfl, hb⟩)
      | (go_at_call 57; (with_reducible refine (HAP.out _ (HR.out.later (by (repeat' (first | (with_reducible exact Below.refl _ _) | (with_reducible assumption) | (with_reducible refine belowThru ?_ (by assumption)) | (with_reducible refine belowAlloc ?_) | (with_reducible refine Below.setCell ?_ (by first | omega | (simp; done) | (simp; omega)) _) | (with_reducible refine Below.drew ?_) | (with_reducible refine below_drewN ?_ _)))))).mono ?_); rintro e w1 ⟨rfl, hb⟩))
    all_goals
      apply hold3; (focus assumption); intro k0 k1 k2 hB
      obtain ⟨a0, b0⟩ := k0.read; obtain ⟨a1, b1⟩ := k1.read; obtain ⟨a2, b2⟩ := k2.read
      go_upto_region 2 with fail
      go_region_held3 (fun w' => (Blk w' w.heap.size #[.int .i64 W, .int .i64 H, .slice a n c] 86 ∧ (∀ i : Nat, w'.cell? ⟨w.heap.size, i, none⟩ = (#[.int .i64 W, .int .i64 H, .slice a n c] : Array Value)[i]?)) ∧ (Blk w' (w.heap.size + 1) #[.int .i64 qx, .int .i64 qy] 83 ∧ (∀ i : Nat, w'.cell? ⟨(w.heap.size + 1), i, none⟩ = (#[.int .i64 qx, .int .i64 qy] : Array Value)[i]?)) ∧ (Blk w' (w.heap.size + 1 + 1) #[.int .i64 px, .int .i64 py] 83 ∧ (∀ i : Nat, w'.cell? ⟨(w.heap.size + 1 + 1), i, none⟩ = (#[.int .i64 px, .int .i64 py] : Array Value)[i]?)) ∧ Below w.heap.size w w')
        (((first | (apply hold3; (focus assumption); intro p0 p1 p2 pB) | skip); refine ⟨Blk.full ?_, Blk.full ?_, Blk.full ?_, ?_⟩; all_goals (first | ((repeat' (first | (with_reducible assumption) | ((with_reducible refine Blk.new ?_); first | rfl | (simp; done)) | (with_reducible refine Blk.later (by assumption) ?_) | (with_reducible refine Blk.alloc ?_) | (with_reducible refine Blk.drewN ?_) | (with_reducible refine Blk.drew ?_) | (with_reducible refine Blk.other ?_ (by first | omega | (simp; done) | (simp; omega))))); done) | ((repeat' (first | (with_reducible exact Below.refl _ _) | (with_reducible assumption) | (with_reducible refine belowThru ?_ (by assumption)) | (with_reducible refine belowAlloc ?_) | (with_reducible refine Below.setCell ?_ (by first | omega | (simp; done) | (simp; omega)) _) | (with_reducible refine Below.drew ?_) | (with_reducible refine below_drewN ?_ _))); done))))
        (first
      | (go_at_call 96; (with_reducible refine (HXQ.out _).mono ?_); rintro e w1 ⟨rfl, hb⟩)
      | (go_at_call 96; (with_reducible refine (HXP.out _).mono ?_); rintro e w1 ⟨rfl, hb⟩))
      all_goals
        apply hold3; (focus assumption); intro q0 q1 q2 qB
        go_wp2_with fail
        go_ret
        exact ⟨by first | rfl | (simp; done) | (congr 2; simp), qB⟩
  · have dl : decide (lowB vq vp iq ip) = decide (vq < vp) := by unfold lowB; simp [e]
    rw [dl]
    have e2 : (vq == vp) = false := by simpa using e
    clear dl
    go_enter Try.func114, Try.ntmps114
    go_upto_region 1 with fail
    go_region_held3 (fun w' => (Blk w' w.heap.size #[.int .i64 W, .int .i64 H, .slice a n c] 86 ∧ (∀ i : Nat, w'.cell? ⟨w.heap.size, i, none⟩ = (#[.int .i64 W, .int .i64 H, .slice a n c] : Array Value)[i]?)) ∧ (Blk w' (w.heap.size + 1) #[.int .i64 qx, .int .i64 qy] 83 ∧ (∀ i : Nat, w'.cell? ⟨(w.heap.size + 1), i, none⟩ = (#[.int .i64 qx, .int .i64 qy] : Array Value)[i]?)) ∧ (Blk w' (w.heap.size + 1 + 1) #[.int .i64 px, .int .i64 py] 83 ∧ (∀ i : Nat, w'.cell? ⟨(w.heap.size + 1 + 1), i, none⟩ = (#[.int .i64 px, .int .i64 py] : Array Value)[i]?)) ∧ Below w.heap.size w w')
      (((first | (apply hold3; (focus assumption); intro p0 p1 p2 pB) | skip); refine ⟨Blk.full ?_, Blk.full ?_, Blk.full ?_, ?_⟩; all_goals (first | ((repeat' (first | (with_reducible assumption) | ((with_reducible refine Blk.new ?_); first | rfl | (simp; done)) | (with_reducible refine Blk.later (by assumption) ?_) | (with_reducible refine Blk.alloc ?_) | (with_reducible refine Blk.drewN ?_) | (with_reducible refine Blk.drew ?_) | (with_reducible refine Blk.other ?_ (by first | omega | (simp; done) | (simp; omega))))); done) | ((repeat' (first | (with_reducible exact Below.refl _ _) | (with_reducible assumption) | (with_reducible refine belowThru ?_ (by assumption)) | (with_reducible refine belowAlloc ?_) | (with_reducible refine Below.setCell ?_ (by first | omega | (simp; done) | (simp; omega)) _) | (with_reducible refine Below.drew ?_) | (with_reducible refine below_drewN ?_ _))); done))))
      (first
      | (go_at_call 57; (with_reducible refine (HAQ.out _ (HR.out.later (by (repeat' (first | (with_reducible exact Below.refl _ _) | (with_reducible assumption) | (with_reducible refine belowThru ?_ (by assumption)) | (with_reducible refine belowAlloc ?_) | (with_reducible refine Below.setCell ?_ (by first | omega | (simp; done) | (simp; omega)) _) | (with_reducible refine Below.drew ?_) | (with_reducible refine below_drewN ?_ _)))))).mono ?_); rintro e w1 ⟨rfl, hb⟩)
      | (go_at_call 57; (with_reducible refine (HAP.out _ (HR.out.later (by (repeat' (first | (with_reducible exact Below.refl _ _) | (with_reducible assumption) | (with_reducible refine belowThru ?_ (by assumption)) | (with_reducible refine belowAlloc ?_) | (with_reducible refine Below.setCell ?_ (by first | omega | (simp; done) | (simp; omega)) _) | (with_reducible refine Below.drew ?_) | (with_reducible refine below_drewN ?_ _)))))).mono ?_); rintro e w1 ⟨rfl, hb⟩))
    all_goals
      apply hold3; (focus assumption); intro k0 k1 k2 hB
      obtain ⟨a0, b0⟩ := k0.read; obtain ⟨a1, b1⟩ := k1.read; obtain ⟨a2, b2⟩ := k2.read
      go_upto_region 3 with fail
      go_region_held3 (fun w' => (Blk w' w.heap.size #[.int .i64 W, .int .i64 H, .slice a n c] 86 ∧ (∀ i : Nat, w'.cell? ⟨w.heap.size, i, none⟩ = (#[.int .i64 W, .int .i64 H, .slice a n c] : Array Value)[i]?)) ∧ (Blk w' (w.heap.size + 1) #[.int .i64 qx, .int .i64 qy] 83 ∧ (∀ i : Nat, w'.cell? ⟨(w.heap.size + 1), i, none⟩ = (#[.int .i64 qx, .int .i64 qy] : Array Value)[i]?)) ∧ (Blk w' (w.heap.size + 1 + 1) #[.int .i64 px, .int .i64 py] 83 ∧ (∀ i : Nat, w'.cell? ⟨(w.heap.size + 1 + 1), i, none⟩ = (#[.int .i64 px, .int .i64 py] : Array Value)[i]?)) ∧ Below w.heap.size w w')
        (((first | (apply hold3; (focus assumption); intro p0 p1 p2 pB) | skip); refine ⟨Blk.full ?_, Blk.full ?_, Blk.full ?_, ?_⟩; all_goals (first | ((repeat' (first | (with_reducible assumption) | ((with_reducible refine Blk.new ?_); first | rfl | (simp; done)) | (with_reducible refine Blk.later (by assumption) ?_) | (with_reducible refine Blk.alloc ?_) | (with_reducible refine Blk.drewN ?_) | (with_reducible refine Blk.drew ?_) | (with_reducible refine Blk.other ?_ (by first | omega | (simp; done) | (simp; omega))))); done) | ((repeat' (first | (with_reducible exact Below.refl _ _) | (with_reducible assumption) | (with_reducible refine belowThru ?_ (by assumption)) | (with_reducible refine belowAlloc ?_) | (with_reducible refine Below.setCell ?_ (by first | omega | (simp; done) | (simp; omega)) _) | (with_reducible refine Below.drew ?_) | (with_reducible refine below_drewN ?_ _))); done))))
        (first
      | (go_at_call 57; (with_reducible refine (HAQ.out _ (HR.out.later (by (repeat' (first | (with_reducible exact Below.refl _ _) | (with_reducible assumption) | (with_reducible refine belowThru ?_ (by assumption)) | (with_reducible refine belowAlloc ?_) | (with_reducible refine Below.setCell ?_ (by first | omega | (simp; done) | (simp; omega)) _) | (with_reducible refine Below.drew ?_) | (with_reducible refine below_drewN ?_ _)))))).mono ?_); rintro e w1 ⟨rfl, hb⟩)
      | (go_at_call 57; (with_reducible refine (HAP.out _ (HR.out.later (by (repeat' (first | (with_reducible exact Below.refl _ _) | (with_reducible assumption) | (with_reducible refine belowThru ?_ (by assumption)) | (with_reducible refine belowAlloc ?_) | (with_reducible refine Below.setCell ?_ (by first | omega | (simp; done) | (simp; omega)) _) | (with_reducible refine Below.drew ?_) | (with_reducible refine below_drewN ?_ _)))))).mono ?_); rintro e w1 ⟨rfl, hb⟩))
      all_goals
        apply hold3; (focus assumption); intro q0 q1 q2 qB
        go_wp2_with fail
        go_ret
        exact ⟨by first | rfl | (simp; done) | (congr 2; simp), qB⟩
end Go.Proofs.Ytghmjdmiaajbnaa
/-
  Layer 2: an image whose values are changed.
-/
namespace Go.Proofs.Ytghmjdmiaajbnaa
open Go.RowKit
set_option linter.unusedVariables false
set_option linter.unusedSimpArgs false

theorem Blk.but {w w' : World} {b : Nat} {c : Array Value} {t : TypeId} {row : Option Nat} (hg : w.grownBy w' row) (hne : ∀ g, row = some g → b ≠ g) (h : Blk w b c t) : Blk w' b c t :=
  (hg.block b h.lt (fun e => hne b e.symm rfl)).trans h
theorem Blk.ne {w : World} {b g : Nat} {c c' : Array Value} {t t' : TypeId} (h : Blk w b c t) (k : Blk w g c' t') (hne : t ≠ t') : b ≠ g := by
  rintro rfl
  have : w.heap[b]? = some (.cells c t (0, 0)) := h
  have k' : w.heap[b]? = some (.cells c' t' (0, 0)) := k
  rw [this] at k'
  cases k'
  exact hne rfl
/-- Only that block may have changed. -/
theorem grownBy_set {w wr : World} {g : Nat} (h : w.grownBy wr (some g)) (i : Nat) (v : Value) : w.grownBy (wr.setCell ⟨g, i, none⟩ v) (some g) :=
  ⟨h.os, h.tape, h.output, by have := h.size; simpa [World.setCell] using this, fun k hk hne => (Below.heap_setCell wr ⟨g, i, none⟩ v k (fun e => hne (by rw [e]))).trans (h.block k hk hne)⟩
end Go.Proofs.Ytghmjdmiaajbnaa
/-
  Layer 2: what a call has made anew.
-/
namespace Go.Proofs.Ytghmjdmiaajbnaa
open Go.RowKit
set_option linter.unusedVariables false
set_option linter.unusedSimpArgs false

theorem New.row {B : Nat} {w : World} {a : Option Addr} {n : Nat} {zs : List Int} (h : New B w a n zs) : Row w a n (iv zs) := by
  obtain ⟨hl, h⟩ := h
  rcases h with ⟨rfl, rfl⟩ | ⟨b, rfl, -, k⟩
  · obtain rfl : zs = [] := List.eq_nil_of_length_eq_zero hl
    exact Row.nil _ _
  · subst hl; exact Row.of_blk k
theorem New.later {B : Nat} {w w' : World} (hb : Below w.heap.size w w') {a : Option Addr} {n : Nat} {zs : List Int} (h : New B w a n zs) : New B w' a n zs :=
  ⟨h.1, h.2.imp id (fun ⟨b, e, l, k⟩ => ⟨b, e, l, Blk.later hb k⟩)⟩
theorem New.mono {B B' : Nat} {w : World} {a : Option Addr} {n : Nat} {zs : List Int} (hB : B' ≤ B) (h : New B w a n zs) : New B' w a n zs :=
  ⟨h.1, h.2.imp id (fun ⟨b, e, l, k⟩ => ⟨b, e, Nat.le_trans hB l, k⟩)⟩
theorem New.set {B : Nat} {w : World} {a : Option Addr} {n : Nat} {zs : List Int} (h : New B w a n zs) {b i : Nat} {c : Array Value} {t : TypeId} (k : Blk w b c t) (ht : t ≠ 3) (v : Value) : New B (w.setCell ⟨b, i, none⟩ v) a n zs :=
  ⟨h.1, h.2.imp id (fun ⟨g, e, l, kg⟩ => ⟨g, e, l, Blk.other kg (Blk.ne kg k (fun e => ht e.symm))⟩)⟩
theorem New.set3 {B : Nat} {w : World} {a : Option Addr} {n : Nat} {zs : List Int} (h : New B w a n zs) {b : Nat} {c : Array Value} {t : TypeId} (k : Blk w b c t) (ht : t ≠ 3) (x y z : Value) : New B (((w.setCell ⟨b, 0, none⟩ x).setCell ⟨b, 1, none⟩ y).setCell ⟨b, 2, none⟩ z) a n zs :=
  ((h.set k ht x).set (Blk.set k) ht y).set (Blk.set (Blk.set k)) ht z
end Go.Proofs.Ytghmjdmiaajbnaa
/-
  Memory that append has made.
-/
namespace Go.Proofs.Ytghmjdmiaajbnaa
open Go.RowKit
set_option linter.unusedVariables false
set_option linter.unusedSimpArgs false

theorem ownsRow_row {w : World} {base : Nat} {v : Value} {zs : List Int} (h : w.ownsRow base 3 1 v zs.length (iv zs)) : ∃ a c, v = .slice a zs.length c ∧ Row w a zs.length (iv zs) := by
  rcases h.2 with ⟨rfl, h0⟩ | ⟨g, cap, cur, rfl, hb, hh, hnc, _, hcs, ht⟩
  · exact ⟨none, 0, by rw [h0], ⟨iv_length zs, fun hn => absurd hn (by omega)⟩⟩
  · refine ⟨_, _, rfl, ⟨iv_length zs, fun hn => ⟨g, 0, rfl, lt_of_block hh, fun j hj => ?_⟩⟩⟩
    have e : w.cell? ⟨g, 0 + j, none⟩ = cur[j]? := by simp [World.cell?, hh]
    rw [e, ← ht, Nat.mul_one, List.getElem?_take_of_lt hj, Array.getElem?_toList]
theorem ownsRow_later {w w' : World} {base e size : Nat} {v : Value} {n : Nat} {xs : List Value} (hb : Below w.heap.size w w') (h : w.ownsRow base e size v n xs) : w'.ownsRow base e size v n xs := by
  refine ⟨h.1, ?_⟩
  rcases h.2 with h0 | ⟨g, cap, cur, h1, h2, hh, h3⟩
  · exact .inl h0
  · exact .inr ⟨g, cap, cur, h1, h2, (hb.block g (lt_of_block hh)).trans hh, h3⟩
end Go.Proofs.Ytghmjdmiaajbnaa
