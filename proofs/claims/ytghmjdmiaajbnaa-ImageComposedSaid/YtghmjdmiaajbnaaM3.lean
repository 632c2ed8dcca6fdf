/-
  The texts that the laws of this seat share, merged: part 3.
-/
import Derived.BigQuiet
import Derived.Deep.CutRange
import Derived.Deep.DeepCutAuto
import Derived.Deep.Draws
import Derived.Deep.OwnRows
import Derived.Deep.QuietTactic
import Derived.Deep.RegionHeld3
import Derived.Laws.AppendOwn
import Derived.Lib.Hide
import Derived.LoopIn
import Derived.LoopNIn
import Derived.MapKept
import Derived.Maps.AppendAt
import Derived.OneCell
import Derived.OwnWalkIn
import Derived.RangeFuncBound
import Derived.RangeFuncCalls
import Derived.RangeFuncLeaves
import Derived.RangeFuncNested
import Derived.Shelf.Abstract
import Derived.Shelf.AbstractIn
import Derived.Shelf.RegionOpen
import Derived.StillTailTactics
import Derived.TacticsInMore
import Derived.Test.YtghmjdmiaajbnaaProg
import Derived.WalkKit
import Derived.WalkSmall
import Derived.WalkSpells
import Derived.Test.YtghmjdmiaajbnaaM1
import Derived.Test.YtghmjdmiaajbnaaM2
/-
  Layer 2: the document's own answers: new images; turned, flipped and warped ones.
-/
namespace Go.Proofs.Ytghmjdmiaajbnaa
open Go.RowKit
set_option linter.unusedVariables false
set_option linter.unusedSimpArgs false

/-- The numbers of a new image that is filled up to a place. -/
def part (N : Nat) (V : Nat → Int) (k : Nat) : List Int := (List.range k).map V ++ List.replicate (N - k) 0
theorem rvalid_ok {W H : Int} {zs : List Int} (h : okI W H zs) (a : Option Addr) (n c : Nat) (hn : n ≤ maxLen) (w : World) (hR : Row w a n (iv zs)) :
    Calls Try.prog 43 #[.agg #[.int .i64 W, .int .i64 H, .slice a n c]] w fun e w' => e = .returned (.bool true) ∧ Below w.heap.size w w' := by
  have := rvalid_any W H a n c zs hn w hR; rw [decide_eq_true h] at this; exact this
theorem rvalid_no {W H : Int} {zs : List Int} (h : ¬ okI W H zs) (a : Option Addr) (n c : Nat) (hn : n ≤ maxLen) (w : World) (hR : Row w a n (iv zs)) :
    Calls Try.prog 43 #[.agg #[.int .i64 W, .int .i64 H, .slice a n c]] w fun e w' => e = .returned (.bool false) ∧ Below w.heap.size w w' := by
  have := rvalid_any W H a n c zs hn w hR; rw [decide_eq_false h] at this; exact this

end Go.Proofs.Ytghmjdmiaajbnaa
/-
  Layer 2: the ways to have values beyond the border, by the code and by the document.
-/
namespace Go.Proofs.Ytghmjdmiaajbnaa
open Go.RowKit Go.Shelf
set_option linter.unusedVariables false
set_option linter.unusedSimpArgs false

/-! ### A map of functions that the call makes -/
theorem insert_run (t k e : TypeId) (ht : Try.prog.underlying t = some (.map k e)) (hk : Try.prog.underlying k = some (.int .u8)) (w : World) (r : Nat) (es : Array MapEntry) (c : Nat) (j : Int) (v : Value) (hb : w.heap[r]? = some (.map es c)) (h1 : Instr.findNow (.int .u8) (.int .u8 j) es.toList 0 = some none) :
    (Instr.mapUpdate t (.map (some r)) (.int .u8 j) v).run Try.prog w = .ok () (w.putObj r (.map (es.push ⟨.int .u8 j, v, c⟩) (c + 1))) := by
  have hq : MapKept.IsKey (.int .u8) (.int .u8 j) := rfl
  simp [Instr.mapUpdate, run_underlying ht, MapKept.run_getObj_map hb, MapKept.run_checkKey hk hq, MapKept.run_findKey hk h1, MapKept.run_setObj_map _ hb, Result.andThen]
  rfl
theorem look_run (t k e : TypeId) (ht : Try.prog.underlying t = some (.map k e)) (hk : Try.prog.underlying k = some (.int .u8)) (w : World) (r : Nat) (es : Array MapEntry) (c : Nat) (j : Int) (i : Nat) (v : Value) (hb : w.heap[r]? = some (.map es c)) (h1 : Instr.findNow (.int .u8) (.int .u8 j) es.toList 0 = some (some (i, v))) :
    (Instr.lookup t (.map (some r)) (.int .u8 j) true).run Try.prog w = .ok (.tuple #[v, .bool true]) w := by
  have hq : MapKept.IsKey (.int .u8) (.int .u8 j) := rfl
  simp [Instr.lookup, run_underlying ht, MapKept.run_getObj_map hb, MapKept.run_checkKey hk hq, MapKept.run_findKey hk h1, Result.andThen]
/-- The function for a border. -/
def brdF (j : Int) : FuncId := if j = 1 then 104 else if j = 2 then 105 else 106
def brds : Array MapEntry := #[⟨.int .u8 1, .func (.func 104) #[] #[], 0⟩, ⟨.int .u8 2, .func (.func 105) #[] #[], 1⟩, ⟨.int .u8 3, .func (.func 106) #[] #[], 2⟩]
theorem below_put {B : Nat} {a w : World} {r : Nat} (o : Obj) (h : Below B a w) (hr : B ≤ r) : Below B a (w.putObj r o) :=
  h.trans ⟨rfl, rfl, rfl, by simp [World.putObj], fun k hk => World.putObj_heap_other (by omega)⟩
set_option maxHeartbeats 1000000 in
theorem borders_any (w : World) :
    Calls Try.prog 61 #[] w fun e w' => ∃ r : Nat, e = .returned (.map (some r)) ∧ w'.heap[r]? = some (.map brds 3) ∧ Below w.heap.size w w' := by
  have ht : Try.prog.underlying 93 = some (.map 5 91) := Try.underlying93
  have hk : Try.prog.underlying 5 = some (.int .u8) := Try.underlying5
  have hmm := @run_makeMap Try.prog
  obtain ⟨w1, hw1⟩ : ∃ w1, w.alloc (.map #[] 0) = w1 := ⟨_, rfl⟩
  have c1 : w1.heap[w.heap.size]? = some (.map #[] 0) := by rw [← hw1]; exact Array.getElem?_push_size
  have B1 : Below w.heap.size w w1 := by rw [← hw1]; exact belowAlloc (Below.refl _ _)
  have lt : w.heap.size < w1.heap.size := by rw [← hw1]; simp
  have i1 := insert_run _ _ _ ht hk w1 w.heap.size _ _ 1 (.func (.func 104) #[] #[]) c1 rfl
  obtain ⟨w2, hw2⟩ : ∃ w2, w1.putObj w.heap.size (.map (#[].push ⟨.int .u8 1, .func (.func 104) #[] #[], 0⟩) (0 + 1)) = w2 := ⟨_, rfl⟩
  rw [hw2] at i1
  have c2 : w2.heap[w.heap.size]? = some (.map (#[].push ⟨.int .u8 1, .func (.func 104) #[] #[], 0⟩) (0 + 1)) := by rw [← hw2]; exact World.putObj_heap_same lt
  have B2 : Below w.heap.size w w2 := by rw [← hw2]; exact below_put _ B1 (Nat.le_refl _)
  have lt2 : w.heap.size < w2.heap.size := by rw [← hw2]; simpa [World.putObj] using lt
  have i2 := insert_run _ _ _ ht hk w2 w.heap.size _ _ 2 (.func (.func 105) #[] #[]) c2 rfl
  obtain ⟨w3, hw3⟩ : ∃ w3, w2.putObj w.heap.size (.map ((#[].push ⟨.int .u8 1, .func (.func 104) #[] #[], 0⟩).push ⟨.int .u8 2, .func (.func 105) #[] #[], 0 + 1⟩) (0 + 1 + 1)) = w3 := ⟨_, rfl⟩
  rw [hw3] at i2
  have c3 : w3.heap[w.heap.size]? = some (.map ((#[].push ⟨.int .u8 1, .func (.func 104) #[] #[], 0⟩).push ⟨.int .u8 2, .func (.func 105) #[] #[], 0 + 1⟩) (0 + 1 + 1)) := by rw [← hw3]; exact World.putObj_heap_same lt2
  have B3 : Below w.heap.size w w3 := by rw [← hw3]; exact below_put _ B2 (Nat.le_refl _)
  have lt3 : w.heap.size < w3.heap.size := by rw [← hw3]; simpa [World.putObj] using lt2
  have i3 := insert_run _ _ _ ht hk w3 w.heap.size _ _ 3 (.func (.func 106) #[] #[]) c3 rfl
  obtain ⟨w4, hw4⟩ : ∃ w4, w3.putObj w.heap.size (.map brds 3) = w4 := ⟨_, rfl⟩
  have i4 : (Instr.mapUpdate 93 (.map (some w.heap.size)) (.int .u8 3) (.func (.func 106) #[] #[])).run Try.prog w3 = .ok () w4 := by rw [← hw4]; exact i3
  have c4 : w4.heap[w.heap.size]? = some (.map brds 3) := by rw [← hw4]; exact World.putObj_heap_same lt3
  have B4 : Below w.heap.size w w4 := by rw [← hw4]; exact below_put _ B3 (Nat.le_refl _)
  have C4 := Lib.hid c4
  have HB4 := Lib.hid B4
  have hmm' : (Instr.makeMap 93 none).run Try.prog w = .ok (.map (some w.heap.size)) w1 := by rw [← hw1]; exact hmm _ _
  clear c1 c2 c3 c4 B1 B2 B3 B4 hw1 hw2 hw3 hw4 lt lt2 lt3 ht hk hmm i3
  go_enter Try.func61, Try.ntmps61
  go_wp2
  go_ret
  exact ⟨_, rfl, C4.out, HB4.out⟩

/-! ### The three ways, by the code -/
theorem alloc2b (w : World) (c0 : Array Value) (t0 : TypeId) (c1 : Array Value) (t1 : TypeId) :
    ∃ W0, (w.alloc (.cells c0 t0)).alloc (.cells c1 t1) = W0 ∧ Blk W0 w.heap.size c0 t0 ∧ Blk W0 (w.heap.size + 1) c1 t1 ∧ Below w.heap.size w W0 :=
  ⟨_, rfl, Blk.alloc (Blk.new rfl), Blk.new (by simp), by (repeat' (first | (with_reducible exact Below.refl _ _) | (with_reducible assumption) | (with_reducible refine belowThru ?_ (by assumption)) | (with_reducible refine belowAlloc ?_) | (with_reducible refine Below.setCell ?_ (by first | omega | (simp; done) | (simp; omega)) _) | (with_reducible refine Below.drew ?_) | (with_reducible refine below_drewN ?_ _)))⟩
/-- A place beyond the border is brought to the nearest pixel, or around. -/
theorem near_in {n : Int} (h : okS n) (x : Int) : 0 ≤ inR x 0 (n - 1) ∧ inR x 0 (n - 1) < n := by
  unfold inR; obtain ⟨h1, h2⟩ := h; omega
theorem rest_in {n : Int} (h : okS n) (x : Int) : 0 ≤ x % n ∧ x % n < n := by
  obtain ⟨h1, h2⟩ := h
  exact ⟨Int.emod_nonneg x (by omega), Int.emod_lt_of_pos x (by omega)⟩
set_option maxHeartbeats 1000000 in
theorem orZero_any (W H x y : Int) (a : Option Addr) (n c : Nat) (zs : List Int) (hI : okI W H zs) (w : World) (hR : Row w a n (iv zs)) :
    Calls Try.prog 104 #[.agg #[.int .i64 W, .int .i64 H, .slice a n c], .agg #[.int .i64 x, .int .i64 y]] w fun e w' => e = .returned (.int .i64 (if inP W H x y then pixAt W zs x y else 0)) ∧ Below w.heap.size w w' := by
  have HR := Lib.hid hR
  by_cases hp : inP W H x y
  · rw [if_pos hp]
    have dp : decide (inP W H x y) = true := decide_eq_true hp
    have HA := Lib.hid (at_z W H x y a n c zs hI hp)
    clear hp hR hI
    go_enter Try.func104, Try.ntmps104
    go_wp2_with (first
      | (go_at_call 83; (with_reducible refine (has_any _ _ _ _ _ _ _ _).mono ?_); rintro e w1 ⟨rfl, hb⟩; (first | ((with_reducible have k0 := Blk.later hb (Blk.alloc (Blk.new rfl))); (with_reducible have k1 := Blk.later hb (Blk.new rfl)); simp only [World.size_alloc] at k1; obtain ⟨a0, b0⟩ := k0.read; have zl := k0.lt; obtain ⟨a1, b1⟩ := k1.read; have zl := k1.lt) | ((try (have zk := k0.lt; (first | ((with_reducible refine Blk.keepG hb k0 (fun h => ?_) ?_); (focus ((repeat' (first | (with_reducible assumption) | ((with_reducible refine Blk.new ?_); first | rfl | (simp; done)) | (with_reducible refine Blk.later (by assumption) ?_) | (with_reducible refine Blk.alloc ?_) | (with_reducible refine Blk.drewN ?_) | (with_reducible refine Blk.drew ?_) | (with_reducible refine Blk.other ?_ (by first | omega | (simp; done) | (simp; omega))))); done)); clear k0; intro k0) | (with_reducible replace k0 := Blk.later hb (Blk.set (Blk.set k0))) | (with_reducible replace k0 := Blk.later hb (Blk.set k0))); clear a0 b0; obtain ⟨a0, b0⟩ := k0.read; have zl := k0.lt)); (try (have zk := k1.lt; (first | ((with_reducible refine Blk.keepG hb k1 (fun h => ?_) ?_); (focus ((repeat' (first | (with_reducible assumption) | ((with_reducible refine Blk.new ?_); first | rfl | (simp; done)) | (with_reducible refine Blk.later (by assumption) ?_) | (with_reducible refine Blk.alloc ?_) | (with_reducible refine Blk.drewN ?_) | (with_reducible refine Blk.drew ?_) | (with_reducible refine Blk.other ?_ (by first | omega | (simp; done) | (simp; omega))))); done)); clear k1; intro k1) | (with_reducible replace k1 := Blk.later hb (Blk.set (Blk.set k1))) | (with_reducible replace k1 := Blk.later hb (Blk.set k1))); clear a1 b1; obtain ⟨a1, b1⟩ := k1.read; have zl := k1.lt)))))
      | (go_at_call 57; (with_reducible refine (HA.out _ (HR.out.later (by (repeat' (first | (with_reducible exact Below.refl _ _) | (with_reducible assumption) | (with_reducible refine belowThru ?_ (by assumption)) | (with_reducible refine belowAlloc ?_) | (with_reducible refine Below.setCell ?_ (by first | omega | (simp; done) | (simp; omega)) _) | (with_reducible refine Below.drew ?_) | (with_reducible refine below_drewN ?_ _)))))).mono ?_); rintro e w1 ⟨rfl, hb⟩; (try (have zk := k0.lt; (first | ((with_reducible refine Blk.keepG hb k0 (fun h => ?_) ?_); (focus ((repeat' (first | (with_reducible assumption) | ((with_reducible refine Blk.new ?_); first | rfl | (simp; done)) | (with_reducible refine Blk.later (by assumption) ?_) | (with_reducible refine Blk.alloc ?_) | (with_reducible refine Blk.drewN ?_) | (with_reducible refine Blk.drew ?_) | (with_reducible refine Blk.other ?_ (by first | omega | (simp; done) | (simp; omega))))); done)); clear k0; intro k0) | (with_reducible replace k0 := Blk.later hb (Blk.set (Blk.set k0))) | (with_reducible replace k0 := Blk.later hb (Blk.set k0))); clear a0 b0; obtain ⟨a0, b0⟩ := k0.read; have zl := k0.lt)); (try (have zk := k1.lt; (first | ((with_reducible refine Blk.keepG hb k1 (fun h => ?_) ?_); (focus ((repeat' (first | (with_reducible assumption) | ((with_reducible refine Blk.new ?_); first | rfl | (simp; done)) | (with_reducible refine Blk.later (by assumption) ?_) | (with_reducible refine Blk.alloc ?_) | (with_reducible refine Blk.drewN ?_) | (with_reducible refine Blk.drew ?_) | (with_reducible refine Blk.other ?_ (by first | omega | (simp; done) | (simp; omega))))); done)); clear k1; intro k1) | (with_reducible replace k1 := Blk.later hb (Blk.set (Blk.set k1))) | (with_reducible replace k1 := Blk.later hb (Blk.set k1))); clear a1 b1; obtain ⟨a1, b1⟩ := k1.read; have zl := k1.lt))))
    go_ret
    exact ⟨rfl, by (repeat' (first | (with_reducible exact Below.refl _ _) | (with_reducible assumption) | (with_reducible refine belowThru ?_ (by assumption)) | (with_reducible refine belowAlloc ?_) | (with_reducible refine Below.setCell ?_ (by first | omega | (simp; done) | (simp; omega)) _) | (with_reducible refine Below.drew ?_) | (with_reducible refine below_drewN ?_ _)))⟩
  · rw [if_neg hp]
    have dp : decide (inP W H x y) = false := decide_eq_false hp
    clear hp hR hI
    go_enter Try.func104, Try.ntmps104
    go_wp2_with (go_at_call 83; (with_reducible refine (has_any _ _ _ _ _ _ _ _).mono ?_); rintro e w1 ⟨rfl, hb⟩; (first | ((with_reducible have k0 := Blk.later hb (Blk.alloc (Blk.new rfl))); (with_reducible have k1 := Blk.later hb (Blk.new rfl)); simp only [World.size_alloc] at k1; obtain ⟨a0, b0⟩ := k0.read; have zl := k0.lt; obtain ⟨a1, b1⟩ := k1.read; have zl := k1.lt) | ((try (have zk := k0.lt; (first | ((with_reducible refine Blk.keepG hb k0 (fun h => ?_) ?_); (focus ((repeat' (first | (with_reducible assumption) | ((with_reducible refine Blk.new ?_); first | rfl | (simp; done)) | (with_reducible refine Blk.later (by assumption) ?_) | (with_reducible refine Blk.alloc ?_) | (with_reducible refine Blk.drewN ?_) | (with_reducible refine Blk.drew ?_) | (with_reducible refine Blk.other ?_ (by first | omega | (simp; done) | (simp; omega))))); done)); clear k0; intro k0) | (with_reducible replace k0 := Blk.later hb (Blk.set (Blk.set k0))) | (with_reducible replace k0 := Blk.later hb (Blk.set k0))); clear a0 b0; obtain ⟨a0, b0⟩ := k0.read; have zl := k0.lt)); (try (have zk := k1.lt; (first | ((with_reducible refine Blk.keepG hb k1 (fun h => ?_) ?_); (focus ((repeat' (first | (with_reducible assumption) | ((with_reducible refine Blk.new ?_); first | rfl | (simp; done)) | (with_reducible refine Blk.later (by assumption) ?_) | (with_reducible refine Blk.alloc ?_) | (with_reducible refine Blk.drewN ?_) | (with_reducible refine Blk.drew ?_) | (with_reducible refine Blk.other ?_ (by first | omega | (simp; done) | (simp; omega))))); done)); clear k1; intro k1) | (with_reducible replace k1 := Blk.later hb (Blk.set (Blk.set k1))) | (with_reducible replace k1 := Blk.later hb (Blk.set k1))); clear a1 b1; obtain ⟨a1, b1⟩ := k1.read; have zl := k1.lt)))))
    go_ret
    exact ⟨rfl, by (repeat' (first | (with_reducible exact Below.refl _ _) | (with_reducible assumption) | (with_reducible refine belowThru ?_ (by assumption)) | (with_reducible refine belowAlloc ?_) | (with_reducible refine Below.setCell ?_ (by first | omega | (simp; done) | (simp; omega)) _) | (with_reducible refine Below.drew ?_) | (with_reducible refine below_drewN ?_ _)))⟩
set_option maxRecDepth 100000 in
set_option maxHeartbeats 400000 in
theorem nearest_any (W H x y : Int) (a : Option Addr) (n c : Nat) (zs : List Int) (hI : okI W H zs) (w : World) (hR : Row w a n (iv zs)) :
    Calls Try.prog 105 #[.agg #[.int .i64 W, .int .i64 H, .slice a n c], .agg #[.int .i64 x, .int .i64 y]] w fun e w' => e = .returned (.int .i64 (pixAt W zs (inR x 0 (W - 1)) (inR y 0 (H - 1)))) ∧ Below w.heap.size w w' := by
  have HR := Lib.hid hR
  have hx := near_in hI.1.1 x
  have hy := near_in hI.1.2 y
  have HA := Lib.hid (at_z W H _ _ a n c zs hI ⟨hx, hy⟩)
  obtain ⟨⟨⟨w0, w1⟩, h0, h1⟩, -⟩ := hI
  have v1 : IntKind.i64.wrap (W - 1) = W - 1 := IntWalk.i64_in _ (by omega)
  have v2 : IntKind.i64.wrap (H - 1) = H - 1 := IntWalk.i64_in _ (by omega)
  clear hR hx hy
  go_enter Try.func105, Try.ntmps105
  go_upto_region 1 with fail
  obtain ⟨W0, hW0, k0, k1, hB⟩ := alloc2b w #[.int .i64 W, .int .i64 H, .slice a n c] 86 #[.int .i64 x, .int .i64 y] 83
  rw [hW0]
  clear hW0
  obtain ⟨a0, b0⟩ := k0.read; obtain ⟨a1, b1⟩ := k1.read
  refine wp_region_still_tail 14 (by kernel_rfl) (by kernel_rfl) ?_
  simp only [List.take_succ_cons, List.take_zero, List.drop_succ_cons, List.drop_zero]
  repeat still_step
  still_call ((bring_any x 0 (W - 1) _).mono fun e w1 h => ⟨h.1, h.2.symm⟩)
  repeat still_step
  still_call ((bring_any y 0 (H - 1) _).mono fun e w1 h => ⟨h.1, h.2.symm⟩)
  repeat still_step
  refine wpStill_nil ?_
  go_wp2_with (go_at_call 57; (with_reducible refine (HA.out _ (HR.out.later (by (repeat' (first | (with_reducible exact Below.refl _ _) | (with_reducible assumption) | (with_reducible refine belowThru ?_ (by assumption)) | (with_reducible refine belowAlloc ?_) | (with_reducible refine Below.setCell ?_ (by first | omega | (simp; done) | (simp; omega)) _) | (with_reducible refine Below.drew ?_) | (with_reducible refine below_drewN ?_ _)))))).mono ?_); rintro e w1 ⟨rfl, hb⟩; (try (have zk := k0.lt; (first | ((with_reducible refine Blk.keepG hb k0 (fun h => ?_) ?_); (focus ((repeat' (first | (with_reducible assumption) | ((with_reducible refine Blk.new ?_); first | rfl | (simp; done)) | (with_reducible refine Blk.later (by assumption) ?_) | (with_reducible refine Blk.alloc ?_) | (with_reducible refine Blk.drewN ?_) | (with_reducible refine Blk.drew ?_) | (with_reducible refine Blk.other ?_ (by first | omega | (simp; done) | (simp; omega))))); done)); clear k0; intro k0) | (with_reducible replace k0 := Blk.later hb (Blk.set (Blk.set k0))) | (with_reducible replace k0 := Blk.later hb (Blk.set k0))); clear a0 b0; obtain ⟨a0, b0⟩ := k0.read; have zl := k0.lt)); (try (have zk := k1.lt; (first | ((with_reducible refine Blk.keepG hb k1 (fun h => ?_) ?_); (focus ((repeat' (first | (with_reducible assumption) | ((with_reducible refine Blk.new ?_); first | rfl | (simp; done)) | (with_reducible refine Blk.later (by assumption) ?_) | (with_reducible refine Blk.alloc ?_) | (with_reducible refine Blk.drewN ?_) | (with_reducible refine Blk.drew ?_) | (with_reducible refine Blk.other ?_ (by first | omega | (simp; done) | (simp; omega))))); done)); clear k1; intro k1) | (with_reducible replace k1 := Blk.later hb (Blk.set (Blk.set k1))) | (with_reducible replace k1 := Blk.later hb (Blk.set k1))); clear a1 b1; obtain ⟨a1, b1⟩ := k1.read; have zl := k1.lt)))
  go_ret
  exact ⟨rfl, by (repeat' (first | (with_reducible exact Below.refl _ _) | (with_reducible assumption) | (with_reducible refine belowThru ?_ (by assumption)) | (with_reducible refine belowAlloc ?_) | (with_reducible refine Below.setCell ?_ (by first | omega | (simp; done) | (simp; omega)) _) | (with_reducible refine Below.drew ?_) | (with_reducible refine below_drewN ?_ _)))⟩
set_option maxRecDepth 100000 in
set_option maxHeartbeats 1000000 in
theorem wrapped_any (W H x y : Int) (a : Option Addr) (n c : Nat) (zs : List Int) (hI : okI W H zs) (x0 : -64 ≤ x) (x1 : x ≤ 64) (y0 : -64 ≤ y) (y1 : y ≤ 64) (w : World) (hR : Row w a n (iv zs)) :
    Calls Try.prog 106 #[.agg #[.int .i64 W, .int .i64 H, .slice a n c], .agg #[.int .i64 x, .int .i64 y]] w fun e w' => e = .returned (.int .i64 (pixAt W zs (x % W) (y % H))) ∧ Below w.heap.size w w' := by
  have HR := Lib.hid hR
  have hx := rest_in hI.1.1 x
  have hy := rest_in hI.1.2 y
  have HA := Lib.hid (at_z W H _ _ a n c zs hI ⟨hx, hy⟩)
  obtain ⟨⟨⟨w0, w1⟩, h0, h1⟩, -⟩ := hI
  have ex := Int.mul_ediv_add_emod x W
  have ey := Int.mul_ediv_add_emod y H
  obtain ⟨P, hP⟩ : ∃ P, W * (x / W) = P := ⟨_, rfl⟩
  obtain ⟨Q, hQ⟩ : ∃ Q, H * (y / H) = Q := ⟨_, rfl⟩
  rw [hP] at ex; rw [hQ] at ey
  have vP : IntKind.i64.wrap (W * (x / W)) = P := by rw [hP]; exact IntWalk.i64_in _ (by omega)
  have vQ : IntKind.i64.wrap (H * (y / H)) = Q := by rw [hQ]; exact IntWalk.i64_in _ (by omega)
  have vX : IntKind.i64.wrap (x - P) = x % W := by rw [show x - P = x % W by omega]; exact IntWalk.i64_in _ (by omega)
  have vY : IntKind.i64.wrap (y - Q) = y % H := by rw [show y - Q = y % H by omega]; exact IntWalk.i64_in _ (by omega)
  clear hR hx hy hP hQ ex ey
  go_enter Try.func106, Try.ntmps106
  go_upto_region 1 with fail
  obtain ⟨W0, hW0, k0, k1, hB⟩ := alloc2b w #[.int .i64 W, .int .i64 H, .slice a n c] 86 #[.int .i64 x, .int .i64 y] 83
  rw [hW0]
  clear hW0
  obtain ⟨a0, b0⟩ := k0.read; obtain ⟨a1, b1⟩ := k1.read
  refine wp_region_still_tail 24 (by kernel_rfl) (by kernel_rfl) ?_
  simp only [List.take_succ_cons, List.take_zero, List.drop_succ_cons, List.drop_zero]
  repeat still_step
  still_call ((quotient_any x W (by omega) (by omega) (by omega) (by omega) _).mono fun e w1 h => ⟨h.1, h.2.symm⟩)
  repeat still_step
  still_call ((quotient_any y H (by omega) (by omega) (by omega) (by omega) _).mono fun e w1 h => ⟨h.1, h.2.symm⟩)
  repeat still_step
  refine wpStill_nil ?_
  go_wp2_with (go_at_call 57; (with_reducible refine (HA.out _ (HR.out.later (by (repeat' (first | (with_reducible exact Below.refl _ _) | (with_reducible assumption) | (with_reducible refine belowThru ?_ (by assumption)) | (with_reducible refine belowAlloc ?_) | (with_reducible refine Below.setCell ?_ (by first | omega | (simp; done) | (simp; omega)) _) | (with_reducible refine Below.drew ?_) | (with_reducible refine below_drewN ?_ _)))))).mono ?_); rintro e w1 ⟨rfl, hb⟩; (try (have zk := k0.lt; (first | ((with_reducible refine Blk.keepG hb k0 (fun h => ?_) ?_); (focus ((repeat' (first | (with_reducible assumption) | ((with_reducible refine Blk.new ?_); first | rfl | (simp; done)) | (with_reducible refine Blk.later (by assumption) ?_) | (with_reducible refine Blk.alloc ?_) | (with_reducible refine Blk.drewN ?_) | (with_reducible refine Blk.drew ?_) | (with_reducible refine Blk.other ?_ (by first | omega | (simp; done) | (simp; omega))))); done)); clear k0; intro k0) | (with_reducible replace k0 := Blk.later hb (Blk.set (Blk.set k0))) | (with_reducible replace k0 := Blk.later hb (Blk.set k0))); clear a0 b0; obtain ⟨a0, b0⟩ := k0.read; have zl := k0.lt)); (try (have zk := k1.lt; (first | ((with_reducible refine Blk.keepG hb k1 (fun h => ?_) ?_); (focus ((repeat' (first | (with_reducible assumption) | ((with_reducible refine Blk.new ?_); first | rfl | (simp; done)) | (with_reducible refine Blk.later (by assumption) ?_) | (with_reducible refine Blk.alloc ?_) | (with_reducible refine Blk.drewN ?_) | (with_reducible refine Blk.drew ?_) | (with_reducible refine Blk.other ?_ (by first | omega | (simp; done) | (simp; omega))))); done)); clear k1; intro k1) | (with_reducible replace k1 := Blk.later hb (Blk.set (Blk.set k1))) | (with_reducible replace k1 := Blk.later hb (Blk.set k1))); clear a1 b1; obtain ⟨a1, b1⟩ := k1.read; have zl := k1.lt)))
  go_ret
  exact ⟨rfl, by (repeat' (first | (with_reducible exact Below.refl _ _) | (with_reducible assumption) | (with_reducible refine belowThru ?_ (by assumption)) | (with_reducible refine belowAlloc ?_) | (with_reducible refine Below.setCell ?_ (by first | omega | (simp; done) | (simp; omega)) _) | (with_reducible refine Below.drew ?_) | (with_reducible refine below_drewN ?_ _)))⟩
/-- A value beyond the border. -/
def bey (j W H : Int) (zs : List Int) (x y : Int) : Int :=
  if inP W H x y then pixAt W zs x y else if j = 1 then 0 else if j = 2 then pixAt W zs (inR x 0 (W - 1)) (inR y 0 (H - 1)) else pixAt W zs (x % W) (y % H)
theorem bey_any (j W H x y : Int) (hj : j = 1 ∨ j = 2 ∨ j = 3) (a : Option Addr) (n c : Nat) (zs : List Int) (hI : okI W H zs) (x0 : -64 ≤ x) (x1 : x ≤ 64) (y0 : -64 ≤ y) (y1 : y ≤ 64) (w : World) (hR : Row w a n (iv zs)) :
    Calls Try.prog (brdF j) #[.agg #[.int .i64 W, .int .i64 H, .slice a n c], .agg #[.int .i64 x, .int .i64 y]] w fun e w' => e = .returned (.int .i64 (bey j W H zs x y)) ∧ Below w.heap.size w w' := by
  have hb : ∀ v, v = bey j W H zs x y → ∀ e (w' : World), (e = Ending.returned (.int .i64 v) ∧ Below w.heap.size w w') → (e = Ending.returned (.int .i64 (bey j W H zs x y)) ∧ Below w.heap.size w w') := fun v hv e w' h => by rw [← hv]; exact h
  rcases hj with rfl | rfl | rfl
  · exact (orZero_any W H x y a n c zs hI w hR).mono (hb _ (by unfold bey; simp))
  · refine (nearest_any W H x y a n c zs hI w hR).mono (hb _ ?_)
    unfold bey
    by_cases hp : inP W H x y
    · rw [if_pos hp]
      obtain ⟨⟨h1, h2⟩, h3, h4⟩ := hp
      rw [show inR x 0 (W - 1) = x by unfold inR; omega, show inR y 0 (H - 1) = y by unfold inR; omega]
    · rw [if_neg hp]; simp
  · refine (wrapped_any W H x y a n c zs hI x0 x1 y0 y1 w hR).mono (hb _ ?_)
    unfold bey
    by_cases hp : inP W H x y
    · rw [if_pos hp]
      obtain ⟨⟨h1, h2⟩, h3, h4⟩ := hp
      rw [Int.emod_eq_of_lt h1 h2, Int.emod_eq_of_lt h3 h4]
    · rw [if_neg hp]; simp

/-! ### The document's own -/
end Go.Proofs.Ytghmjdmiaajbnaa
/-
  Layer 2: whether a shape is valid, by the code and by the document.
-/
namespace Go.Proofs.Ytghmjdmiaajbnaa
open Go.RowKit
set_option linter.unusedVariables false
set_option linter.unusedSimpArgs false

/-- A number may be a side of a kernel or of a shape. -/
def okK (n : Int) : Prop := n = 1 ∨ n = 3 ∨ n = 5
instance (n : Int) : Decidable (okK n) := inferInstanceAs (Decidable (_ ∨ _))
set_option maxHeartbeats 400000 in
theorem isKernelSide_any (n : Int) (w : World) :
    Calls Try.prog 103 #[.int .i64 n] w fun e w' => e = .returned (.bool (decide (okK n))) ∧ w = w' := by
  by_cases h1 : 1 ≤ n
  · by_cases h5 : n ≤ 5
    · have hc : n = 1 ∨ n = 2 ∨ n = 3 ∨ n = 4 ∨ n = 5 := by omega
      clear h1 h5
      rcases hc with rfl | rfl | rfl | rfl | rfl
      all_goals
        go_enter Try.func103, Try.ntmps103
        go_wp2
        go_ret
        exact ⟨rfl, rfl⟩
    · have hf : ¬ okK n := by unfold okK; omega
      rw [decide_eq_false hf]
      clear hf
      have h5' : 5 < n := by omega
      clear h5
      go_enter Try.func103, Try.ntmps103
      go_wp2
      go_ret
      exact ⟨rfl, rfl⟩
  · have hf : ¬ okK n := by unfold okK; omega
    rw [decide_eq_false hf]
    clear hf
    have h1' : n < 1 := by omega
    clear h1
    go_enter Try.func103, Try.ntmps103
    go_wp2
    go_ret
    exact ⟨rfl, rfl⟩
set_option maxHeartbeats 400000 in
theorem rkside_any (n : Int) (w : World) :
    Calls Try.prog 91 #[.int .i64 n] w fun e w' => e = .returned (.bool (decide (okK n))) ∧ w = w' := by
  by_cases h : okK n
  · rcases h with rfl | rfl | rfl
    all_goals
      go_enter Try.func91, Try.ntmps91
      go_wp2
      go_ret
      exact ⟨rfl, rfl⟩
  · rw [decide_eq_false h]
    have h1 : (n == 1) = false := by simp; intro e; exact h (.inl e)
    have h3 : (n == 3) = false := by simp; intro e; exact h (.inr (.inl e))
    have h5 : (n == 5) = false := by simp; intro e; exact h (.inr (.inr e))
    clear h
    go_enter Try.func91, Try.ntmps91
    go_wp2
    go_ret
    exact ⟨by first | rfl | simp [h1, h3, h5], rfl⟩

/-- A shape with these sides and cells is valid. -/
def okSh (W H : Int) (bs : List Bool) : Prop := (okK W ∧ okK H) ∧ (bs.length : Int) = W * H ∧ true ∈ bs
instance (W H : Int) (bs : List Bool) : Decidable (okSh W H bs) := inferInstanceAs (Decidable (_ ∧ _))
theorem okK_mul {W H : Int} (h1 : okK W) (h2 : okK H) : 1 ≤ W * H ∧ W * H ≤ 25 := by
  rcases h1 with rfl | rfl | rfl <;> rcases h2 with rfl | rfl | rfl <;> omega
def NoneUp (bs : List Bool) (k : Nat) : Prop := true ∉ bs.take k
theorem NoneUp.zero (bs : List Bool) : NoneUp bs 0 := fun h => by simp at h
theorem NoneUp.snoc {bs : List Bool} {k : Nat} (h : NoneUp bs k) (hz : bs[k]? = some false) : NoneUp bs (k + 1) := by
  unfold NoneUp
  rw [List.take_add_one, hz]
  intro hx
  rcases List.mem_append.1 hx with k | k
  · exact h k
  · simp at k
theorem NoneUp.all {bs : List Bool} {k : Nat} (h : NoneUp bs k) (hk : bs.length ≤ k) : true ∉ bs := by
  unfold NoneUp at h; rwa [List.take_of_length_le hk] at h

set_option maxHeartbeats 1000000 in
theorem isShape_any (W H : Int) (a : Option Addr) (n c : Nat) (bs : List Bool) (hn : n ≤ maxLen) (w : World) (hR : Row w a n (bv bs)) :
    Calls Try.prog 108 #[.agg #[.int .i64 W, .int .i64 H, .slice a n c]] w fun e w' => e = .returned (.bool (decide (okSh W H bs))) ∧ Below w.heap.size w w' := by
  unfold maxLen at hn
  have hlen : bs.length = n := by have := hR.1; rwa [bv_length] at this
  have HR := Lib.hid hR
  clear hR
  by_cases hW : okK W
  · have dW : decide (okK W) = true := decide_eq_true hW
    by_cases hH : okK H
    · have dH : decide (okK H) = true := decide_eq_true hH
      have hm := okK_mul hW hH
      by_cases hL : (n : Int) = W * H
      · have hl : ((n : Int) != W * H) = false := by simpa using hL
        have HO : Hid ((okK W ∧ okK H) ∧ (bs.length : Int) = W * H) := ⟨⟨hW, hH⟩, by rw [hlen]; exact hL⟩
        have HN := Lib.hid hlen
        clear hlen hL hW hH
        go_enter Try.func108, Try.ntmps108
        go_wp2_with (go_at_call 103; (with_reducible refine (isKernelSide_any _ _).mono ?_); rintro e w1 ⟨rfl, rfl⟩)
        go_loop [29] (fun i => ∃ k : Nat, k ≤ n ∧ i = .int .i64 k ∧ Hid (NoneUp bs k)) (fun i => n - (intOf i).toNat)
        case atStart => exact ⟨0, Nat.zero_le _, rfl, NoneUp.zero bs⟩
        case round =>
          obtain ⟨k, hk, rfl, hu⟩ := hrel
          by_cases hlt : k < n
          · obtain ⟨b, off, z, rfl, -, hz, hc⟩ := HR.out.bool hlt
            have hc := cell_alloc (o := .cells #[.int .i64 W, .int .i64 H, .slice (some ⟨b, off, none⟩) n c] 43) hc
            cases z
            · have hu' : Hid (NoneUp bs (k + 1)) := hu.out.snoc hz
              clear hz
              go_wp2
              go_round
              case rel => exact ⟨k + 1, hlt, by go_num, hu'⟩
              case measure => simp [intOf]; omega
            · have he : decide (okSh W H bs) = true := decide_eq_true ⟨HO.out.1, HO.out.2, List.mem_of_getElem? hz⟩
              clear hz
              go_wp2
              go_ret
              exact ⟨by first | rfl | rw [he], by (repeat' (first | (with_reducible exact Below.refl _ _) | (with_reducible assumption) | (with_reducible refine belowThru ?_ (by assumption)) | (with_reducible refine belowAlloc ?_) | (with_reducible refine Below.setCell ?_ (by first | omega | (simp; done) | (simp; omega)) _) | (with_reducible refine Below.drew ?_) | (with_reducible refine below_drewN ?_ _)))⟩
          · have he : decide (okSh W H bs) = false := decide_eq_false (fun h => hu.out.all (by rw [HN.out]; omega) h.2.2)
            go_wp2
            go_ret
            exact ⟨by first | rfl | rw [he], by (repeat' (first | (with_reducible exact Below.refl _ _) | (with_reducible assumption) | (with_reducible refine belowThru ?_ (by assumption)) | (with_reducible refine belowAlloc ?_) | (with_reducible refine Below.setCell ?_ (by first | omega | (simp; done) | (simp; omega)) _) | (with_reducible refine Below.drew ?_) | (with_reducible refine below_drewN ?_ _)))⟩
      · have hl : ((n : Int) != W * H) = true := by simpa using hL
        have he : decide (okSh W H bs) = false := decide_eq_false (fun h => hL (by rw [← hlen]; exact h.2.1))
        clear hlen hL hW hH
        rw [he]
        clear he
        go_enter Try.func108, Try.ntmps108
        go_wp2_with (go_at_call 103; (with_reducible refine (isKernelSide_any _ _).mono ?_); rintro e w1 ⟨rfl, rfl⟩)
        go_ret
        exact ⟨rfl, by (repeat' (first | (with_reducible exact Below.refl _ _) | (with_reducible assumption) | (with_reducible refine belowThru ?_ (by assumption)) | (with_reducible refine belowAlloc ?_) | (with_reducible refine Below.setCell ?_ (by first | omega | (simp; done) | (simp; omega)) _) | (with_reducible refine Below.drew ?_) | (with_reducible refine below_drewN ?_ _)))⟩
    · have dH : decide (okK H) = false := decide_eq_false hH
      rw [decide_eq_false (fun h => hH h.1.2 : ¬ okSh W H bs)]
      clear hlen hW hH
      go_enter Try.func108, Try.ntmps108
      go_wp2_with (go_at_call 103; (with_reducible refine (isKernelSide_any _ _).mono ?_); rintro e w1 ⟨rfl, rfl⟩)
      go_ret
      exact ⟨rfl, by (repeat' (first | (with_reducible exact Below.refl _ _) | (with_reducible assumption) | (with_reducible refine belowThru ?_ (by assumption)) | (with_reducible refine belowAlloc ?_) | (with_reducible refine Below.setCell ?_ (by first | omega | (simp; done) | (simp; omega)) _) | (with_reducible refine Below.drew ?_) | (with_reducible refine below_drewN ?_ _)))⟩
  · have dW : decide (okK W) = false := decide_eq_false hW
    rw [decide_eq_false (fun h => hW h.1.1 : ¬ okSh W H bs)]
    clear hlen hW
    go_enter Try.func108, Try.ntmps108
    go_wp2_with (go_at_call 103; (with_reducible refine (isKernelSide_any _ _).mono ?_); rintro e w1 ⟨rfl, rfl⟩)
    go_ret
    exact ⟨rfl, by (repeat' (first | (with_reducible exact Below.refl _ _) | (with_reducible assumption) | (with_reducible refine belowThru ?_ (by assumption)) | (with_reducible refine belowAlloc ?_) | (with_reducible refine Below.setCell ?_ (by first | omega | (simp; done) | (simp; omega)) _) | (with_reducible refine Below.drew ?_) | (with_reducible refine below_drewN ?_ _)))⟩
end Go.Proofs.Ytghmjdmiaajbnaa
/-
  Layer 2: whether a kernel is valid, by the code and by the document.
-/
namespace Go.Proofs.Ytghmjdmiaajbnaa
open Go.RowKit
set_option linter.unusedVariables false
set_option linter.unusedSimpArgs false

/-- A kernel with these sides and factors is valid. -/
def okKn (W H : Int) (zs : List Int) : Prop := (okK W ∧ okK H) ∧ (zs.length : Int) = W * H ∧ ∀ z ∈ zs, okFa z
instance (W H : Int) (zs : List Int) : Decidable (okKn W H zs) := inferInstanceAs (Decidable (_ ∧ _))
def UptoK (zs : List Int) (k : Nat) : Prop := ∀ z ∈ zs.take k, okFa z
theorem UptoK.zero (zs : List Int) : UptoK zs 0 := fun z h => by simp at h
theorem UptoK.snoc {zs : List Int} {k : Nat} {z : Int} (h : UptoK zs k) (hz : zs[k]? = some z) (ok : okFa z) : UptoK zs (k + 1) := by
  unfold UptoK
  rw [List.take_add_one, hz]
  intro x hx
  rcases List.mem_append.1 hx with k | k
  · exact h x k
  · simp at k; subst k; exact ok
theorem UptoK.all {zs : List Int} {k : Nat} (h : UptoK zs k) (hk : zs.length ≤ k) : ∀ z ∈ zs, okFa z := by
  unfold UptoK at h; rwa [List.take_of_length_le hk] at h

set_option maxHeartbeats 1000000 in
theorem isKernel_any (W H : Int) (a : Option Addr) (n c : Nat) (zs : List Int) (hn : n ≤ maxLen) (w : World) (hR : Row w a n (iv zs)) :
    Calls Try.prog 60 #[.agg #[.int .i64 W, .int .i64 H, .slice a n c]] w fun e w' => e = .returned (.bool (decide (okKn W H zs))) ∧ Below w.heap.size w w' := by
  unfold maxLen at hn
  have hlen : zs.length = n := by have := hR.1; rwa [iv_length] at this
  have HR := Lib.hid hR
  clear hR
  by_cases hW : okK W
  · have dW : decide (okK W) = true := decide_eq_true hW
    by_cases hH : okK H
    · have dH : decide (okK H) = true := decide_eq_true hH
      have hm := okK_mul hW hH
      by_cases hL : (n : Int) = W * H
      · have hl : ((n : Int) != W * H) = false := by simpa using hL
        have HO : Hid ((okK W ∧ okK H) ∧ (zs.length : Int) = W * H) := ⟨⟨hW, hH⟩, by rw [hlen]; exact hL⟩
        have HN := Lib.hid hlen
        clear hlen hL hW hH
        go_enter Try.func60, Try.ntmps60
        go_wp2_with (go_at_call 103; (with_reducible refine (isKernelSide_any _ _).mono ?_); rintro e w1 ⟨rfl, rfl⟩)
        go_loop [29] (fun i => ∃ k : Nat, k ≤ n ∧ i = .int .i64 k ∧ Hid (UptoK zs k)) (fun i => n - (intOf i).toNat)
        case atStart => exact ⟨0, Nat.zero_le _, rfl, UptoK.zero zs⟩
        case round =>
          obtain ⟨k, hk, rfl, hu⟩ := hrel
          by_cases hlt : k < n
          · obtain ⟨b, off, z, rfl, -, hz, hc⟩ := HR.out.int hlt
            have hc := cell_alloc (o := .cells #[.int .i64 W, .int .i64 H, .slice (some ⟨b, off, none⟩) n c] 36) hc
            by_cases hv : okFa z
            · have dv : decide (okFa z) = true := decide_eq_true hv
              have hu' : Hid (UptoK zs (k + 1)) := hu.out.snoc hz hv
              clear hz hv
              go_wp2_with (go_at_call 95; (with_reducible refine (within_fa _ _).mono ?_); rintro e w1 ⟨rfl, rfl⟩)
              go_round
              case rel => exact ⟨k + 1, hlt, by go_num, hu'⟩
              case measure => simp [intOf]; omega
            · have dv : decide (okFa z) = false := decide_eq_false hv
              have he : decide (okKn W H zs) = false := decide_eq_false (fun h => hv (h.2.2 z (List.mem_of_getElem? hz)))
              clear hz hv
              go_wp2_with (go_at_call 95; (with_reducible refine (within_fa _ _).mono ?_); rintro e w1 ⟨rfl, rfl⟩)
              go_ret
              exact ⟨by first | rfl | (rw [he]; rfl), by (repeat' (first | (with_reducible exact Below.refl _ _) | (with_reducible assumption) | (with_reducible refine belowThru ?_ (by assumption)) | (with_reducible refine belowAlloc ?_) | (with_reducible refine Below.setCell ?_ (by first | omega | (simp; done) | (simp; omega)) _) | (with_reducible refine Below.drew ?_) | (with_reducible refine below_drewN ?_ _)))⟩
          · have he : decide (okKn W H zs) = true := decide_eq_true ⟨HO.out.1, HO.out.2, hu.out.all (by rw [HN.out]; omega)⟩
            go_wp2
            go_ret
            exact ⟨by first | rfl | (rw [he]; rfl), by (repeat' (first | (with_reducible exact Below.refl _ _) | (with_reducible assumption) | (with_reducible refine belowThru ?_ (by assumption)) | (with_reducible refine belowAlloc ?_) | (with_reducible refine Below.setCell ?_ (by first | omega | (simp; done) | (simp; omega)) _) | (with_reducible refine Below.drew ?_) | (with_reducible refine below_drewN ?_ _)))⟩
      · have hl : ((n : Int) != W * H) = true := by simpa using hL
        have he : decide (okKn W H zs) = false := decide_eq_false (fun h => hL (by rw [← hlen]; exact h.2.1))
        clear hlen hL hW hH
        rw [he]
        clear he
        go_enter Try.func60, Try.ntmps60
        go_wp2_with (go_at_call 103; (with_reducible refine (isKernelSide_any _ _).mono ?_); rintro e w1 ⟨rfl, rfl⟩)
        go_ret
        exact ⟨rfl, by (repeat' (first | (with_reducible exact Below.refl _ _) | (with_reducible assumption) | (with_reducible refine belowThru ?_ (by assumption)) | (with_reducible refine belowAlloc ?_) | (with_reducible refine Below.setCell ?_ (by first | omega | (simp; done) | (simp; omega)) _) | (with_reducible refine Below.drew ?_) | (with_reducible refine below_drewN ?_ _)))⟩
    · have dH : decide (okK H) = false := decide_eq_false hH
      rw [decide_eq_false (fun h => hH h.1.2 : ¬ okKn W H zs)]
      clear hlen hW hH
      go_enter Try.func60, Try.ntmps60
      go_wp2_with (go_at_call 103; (with_reducible refine (isKernelSide_any _ _).mono ?_); rintro e w1 ⟨rfl, rfl⟩)
      go_ret
      exact ⟨rfl, by (repeat' (first | (with_reducible exact Below.refl _ _) | (with_reducible assumption) | (with_reducible refine belowThru ?_ (by assumption)) | (with_reducible refine belowAlloc ?_) | (with_reducible refine Below.setCell ?_ (by first | omega | (simp; done) | (simp; omega)) _) | (with_reducible refine Below.drew ?_) | (with_reducible refine below_drewN ?_ _)))⟩
  · have dW : decide (okK W) = false := decide_eq_false hW
    rw [decide_eq_false (fun h => hW h.1.1 : ¬ okKn W H zs)]
    clear hlen hW
    go_enter Try.func60, Try.ntmps60
    go_wp2_with (go_at_call 103; (with_reducible refine (isKernelSide_any _ _).mono ?_); rintro e w1 ⟨rfl, rfl⟩)
    go_ret
    exact ⟨rfl, by (repeat' (first | (with_reducible exact Below.refl _ _) | (with_reducible assumption) | (with_reducible refine belowThru ?_ (by assumption)) | (with_reducible refine belowAlloc ?_) | (with_reducible refine Below.setCell ?_ (by first | omega | (simp; done) | (simp; omega)) _) | (with_reducible refine Below.drew ?_) | (with_reducible refine below_drewN ?_ _)))⟩

set_option maxHeartbeats 1000000 in
theorem rkvalid_any (W H : Int) (a : Option Addr) (n c : Nat) (zs : List Int) (hn : n ≤ maxLen) (w : World) (hR : Row w a n (iv zs)) :
    Calls Try.prog 44 #[.agg #[.int .i64 W, .int .i64 H, .slice a n c]] w fun e w' => e = .returned (.bool (decide (okKn W H zs))) ∧ Below w.heap.size w w' := by
  unfold maxLen at hn
  have hlen : zs.length = n := by have := hR.1; rwa [iv_length] at this
  have HR := Lib.hid hR
  clear hR
  by_cases hW : okK W
  · have dW : decide (okK W) = true := decide_eq_true hW
    by_cases hH : okK H
    · have dH : decide (okK H) = true := decide_eq_true hH
      have hm := okK_mul hW hH
      by_cases hL : (n : Int) = W * H
      · have hl : ((n : Int) != W * H) = false := by simpa using hL
        have HO : Hid ((okK W ∧ okK H) ∧ (zs.length : Int) = W * H) := ⟨⟨hW, hH⟩, by rw [hlen]; exact hL⟩
        have HN := Lib.hid hlen
        clear hlen hL hW hH
        go_enter Try.func44, Try.ntmps44
        go_wp2_with (go_at_call 91; (with_reducible refine (rkside_any _ _).mono ?_); rintro e w1 ⟨rfl, rfl⟩)
        go_loop [3] (fun i => ∃ k : Nat, k ≤ n ∧ i = .int .i64 k ∧ Hid (UptoK zs k)) (fun i => n - (intOf i).toNat)
        case atStart => exact ⟨0, Nat.zero_le _, rfl, UptoK.zero zs⟩
        case round =>
          obtain ⟨k, hk, rfl, hu⟩ := hrel
          by_cases hlt : k < n
          · obtain ⟨b, off, z, rfl, -, hz, hc⟩ := HR.out.int hlt
            have hc := cell_alloc (o := .cells #[.int .i64 W, .int .i64 H, .slice (some ⟨b, off, none⟩) n c] 36) hc
            by_cases hv : okFa z
            · have dv : decide (okFa z) = true := decide_eq_true hv
              have hu' : Hid (UptoK zs (k + 1)) := hu.out.snoc hz hv
              clear hz hv
              go_wp2_with (go_at_call 92; (with_reducible refine (rwithin_fa _ _).mono ?_); rintro e w1 ⟨rfl, rfl⟩)
              go_round
              case rel => exact ⟨k + 1, hlt, by go_num, hu'⟩
              case measure => simp [intOf]; omega
            · have dv : decide (okFa z) = false := decide_eq_false hv
              have he : decide (okKn W H zs) = false := decide_eq_false (fun h => hv (h.2.2 z (List.mem_of_getElem? hz)))
              clear hz hv
              go_wp2_with (go_at_call 92; (with_reducible refine (rwithin_fa _ _).mono ?_); rintro e w1 ⟨rfl, rfl⟩)
              go_ret
              exact ⟨by first | rfl | (rw [he]; rfl), by (repeat' (first | (with_reducible exact Below.refl _ _) | (with_reducible assumption) | (with_reducible refine belowThru ?_ (by assumption)) | (with_reducible refine belowAlloc ?_) | (with_reducible refine Below.setCell ?_ (by first | omega | (simp; done) | (simp; omega)) _) | (with_reducible refine Below.drew ?_) | (with_reducible refine below_drewN ?_ _)))⟩
          · have he : decide (okKn W H zs) = true := decide_eq_true ⟨HO.out.1, HO.out.2, hu.out.all (by rw [HN.out]; omega)⟩
            go_wp2
            go_ret
            exact ⟨by first | rfl | (rw [he]; rfl), by (repeat' (first | (with_reducible exact Below.refl _ _) | (with_reducible assumption) | (with_reducible refine belowThru ?_ (by assumption)) | (with_reducible refine belowAlloc ?_) | (with_reducible refine Below.setCell ?_ (by first | omega | (simp; done) | (simp; omega)) _) | (with_reducible refine Below.drew ?_) | (with_reducible refine below_drewN ?_ _)))⟩
      · have hl : ((n : Int) != W * H) = true := by simpa using hL
        rw [decide_eq_false (fun h : okKn W H zs => hL (by rw [← hlen]; exact h.2.1))]
        clear hlen hL hW hH
        go_enter Try.func44, Try.ntmps44
        go_wp2_with (go_at_call 91; (with_reducible refine (rkside_any _ _).mono ?_); rintro e w1 ⟨rfl, rfl⟩)
        go_ret
        exact ⟨rfl, by (repeat' (first | (with_reducible exact Below.refl _ _) | (with_reducible assumption) | (with_reducible refine belowThru ?_ (by assumption)) | (with_reducible refine belowAlloc ?_) | (with_reducible refine Below.setCell ?_ (by first | omega | (simp; done) | (simp; omega)) _) | (with_reducible refine Below.drew ?_) | (with_reducible refine below_drewN ?_ _)))⟩
    · have dH : decide (okK H) = false := decide_eq_false hH
      rw [decide_eq_false (fun h : okKn W H zs => hH h.1.2)]
      clear hlen hW hH
      go_enter Try.func44, Try.ntmps44
      go_wp2_with (go_at_call 91; (with_reducible refine (rkside_any _ _).mono ?_); rintro e w1 ⟨rfl, rfl⟩)
      go_ret
      exact ⟨rfl, by (repeat' (first | (with_reducible exact Below.refl _ _) | (with_reducible assumption) | (with_reducible refine belowThru ?_ (by assumption)) | (with_reducible refine belowAlloc ?_) | (with_reducible refine Below.setCell ?_ (by first | omega | (simp; done) | (simp; omega)) _) | (with_reducible refine Below.drew ?_) | (with_reducible refine below_drewN ?_ _)))⟩
  · have dW : decide (okK W) = false := decide_eq_false hW
    rw [decide_eq_false (fun h : okKn W H zs => hW h.1.1)]
    clear hlen hW
    go_enter Try.func44, Try.ntmps44
    go_wp2_with (go_at_call 91; (with_reducible refine (rkside_any _ _).mono ?_); rintro e w1 ⟨rfl, rfl⟩)
    go_ret
    exact ⟨rfl, by (repeat' (first | (with_reducible exact Below.refl _ _) | (with_reducible assumption) | (with_reducible refine belowThru ?_ (by assumption)) | (with_reducible refine belowAlloc ?_) | (with_reducible refine Below.setCell ?_ (by first | omega | (simp; done) | (simp; omega)) _) | (with_reducible refine Below.drew ?_) | (with_reducible refine below_drewN ?_ _)))⟩
end Go.Proofs.Ytghmjdmiaajbnaa
/-
  Layer 2: the sums of a convolution.
-/
namespace Go.Proofs.Ytghmjdmiaajbnaa
open Go.RowKit
set_option linter.unusedVariables false
set_option linter.unusedSimpArgs false

/-- A product of a convolution, and the sum of the first of them. -/
def cvT (j W H : Int) (zs : List Int) (KW KH : Int) (ks : List Int) (x y : Int) (k : Nat) : Int :=
  ks[k]?.getD 0 * bey j W H zs (x - ((k : Int) % KW - KW / 2)) (y - ((k : Int) / KW - KH / 2))
def cvN (j W H : Int) (zs : List Int) (KW KH : Int) (ks : List Int) (x y : Int) : Nat → Int
  | 0 => 0
  | k + 1 => cvN j W H zs KW KH ks x y k + cvT j W H zs KW KH ks x y k
theorem pixAt_bd {W H : Int} {zs : List Int} (hI : okI W H zs) (x y : Int) : okV (pixAt W zs x y) := by
  unfold pixAt
  cases h : zs[(y * W + x).toNat]? with
  | none => exact ⟨by decide, by decide⟩
  | some z => exact hI.2.2 z (List.mem_of_getElem? h)
theorem bey_bd {j W H : Int} {zs : List Int} (hI : okI W H zs) (x y : Int) : okV (bey j W H zs x y) := by
  unfold bey
  split
  · exact pixAt_bd hI _ _
  · split
    · exact ⟨by decide, by decide⟩
    · split <;> exact pixAt_bd hI _ _
theorem fb_bd {f b : Int} (hf : okFa f) (hb : okV b) : -140737488355328 ≤ f * b ∧ f * b ≤ 140737488355328 := by
  have h0 := Int.natAbs_mul f b
  have h1 : f.natAbs ≤ 65536 := by unfold okFa at hf; omega
  have h2 : b.natAbs ≤ 2147483648 := by unfold okV at hb; omega
  have h3 := Nat.mul_le_mul h1 h2
  omega
theorem kn_get {KW KH : Int} {ks : List Int} (hK : okKn KW KH ks) (k : Nat) : okFa (ks[k]?.getD 0) := by
  cases h : ks[k]? with
  | none => exact ⟨by decide, by decide⟩
  | some z => exact hK.2.2 z (List.mem_of_getElem? h)
theorem cvT_bd {j W H KW KH : Int} {zs ks : List Int} (hI : okI W H zs) (hK : okKn KW KH ks) (x y : Int) (k : Nat) : -140737488355328 ≤ cvT j W H zs KW KH ks x y k ∧ cvT j W H zs KW KH ks x y k ≤ 140737488355328 :=
  fb_bd (kn_get hK k) (bey_bd hI _ _)
theorem cvN_fold (j W H : Int) (zs : List Int) (KW KH : Int) (ks : List Int) (x y : Int) (m : Nat) : (List.range m).foldl (fun p k => p + cvT j W H zs KW KH ks x y k) 0 = cvN j W H zs KW KH ks x y m := by
  induction m with
  | zero => rfl
  | succ m ih => rw [List.range_succ, List.foldl_append, ih]; rfl
theorem kn_sides {n : Int} (h : okK n) : 1 ≤ n ∧ n ≤ 5 := by unfold okK at h; omega
end Go.Proofs.Ytghmjdmiaajbnaa
/-
  Layer 2: the kernel of two convolutions.
-/
namespace Go.Proofs.Ytghmjdmiaajbnaa
open Go.RowKit
set_option linter.unusedVariables false
set_option linter.unusedSimpArgs false

/-- Where the product of two factors goes. -/
def cIdx (AW BW KW : Int) (i j : Nat) : Nat := (((i : Int) / AW + (j : Int) / BW) * KW + (i : Int) % AW + (j : Int) % BW).toNat
/-- The factors after the first products of a row, and after the first rows. -/
def cIn (AW BW KW : Int) (xs ys : List Int) (i : Nat) (ls : List Int) : Nat → List Int
  | 0 => ls
  | j + 1 => (cIn AW BW KW xs ys i ls j).set (cIdx AW BW KW i j) ((cIn AW BW KW xs ys i ls j)[cIdx AW BW KW i j]?.getD 0 + xs[i]?.getD 0 * ys[j]?.getD 0)
def cOut (AW BW KW : Int) (xs ys : List Int) (M mb : Nat) : Nat → List Int
  | 0 => List.replicate M 0
  | i + 1 => cIn AW BW KW xs ys i (cOut AW BW KW xs ys M mb i) mb
def Bd (B : Nat) (ls : List Int) : Prop := ∀ z ∈ ls, -(B : Int) ≤ z ∧ z ≤ (B : Int)
theorem Bd.get {B : Nat} {ls : List Int} (h : Bd B ls) (p : Nat) : -(B : Int) ≤ ls[p]?.getD 0 ∧ ls[p]?.getD 0 ≤ (B : Int) := by
  cases e : ls[p]? with
  | none => simp
  | some z => exact h z (List.mem_of_getElem? e)
theorem Bd.set {B : Nat} {ls : List Int} (h : Bd B ls) (p : Nat) {v : Int} {C : Nat} (hB : B ≤ C) (hv : -(C : Int) ≤ v ∧ v ≤ (C : Int)) : Bd C (ls.set p v) := by
  intro z hz
  rcases List.mem_or_eq_of_mem_set hz with h1 | h1
  · have := h z h1; omega
  · subst h1; exact hv
theorem ff_bd {f g : Int} (hf : okFa f) (hg : okFa g) : -4294967296 ≤ f * g ∧ f * g ≤ 4294967296 := by
  have h0 := Int.natAbs_mul f g
  have h1 : f.natAbs ≤ 65536 := by unfold okFa at hf; omega
  have h2 : g.natAbs ≤ 65536 := by unfold okFa at hg; omega
  have h3 := Nat.mul_le_mul h1 h2
  omega
theorem cIn_length (AW BW KW : Int) (xs ys : List Int) (i : Nat) (ls : List Int) (j : Nat) : (cIn AW BW KW xs ys i ls j).length = ls.length := by
  induction j with
  | zero => rfl
  | succ j ih => unfold cIn; rw [List.length_set, ih]
theorem cOut_length (AW BW KW : Int) (xs ys : List Int) (M mb i : Nat) : (cOut AW BW KW xs ys M mb i).length = M := by
  induction i with
  | zero => exact List.length_replicate
  | succ i ih => unfold cOut; rw [cIn_length, ih]
theorem cIn_bd {AW AH BW BH KW : Int} {xs ys : List Int} (hA : okKn AW AH xs) (hB : okKn BW BH ys) (i : Nat) {ls : List Int} {B : Nat} (h : Bd B ls) (j : Nat) : Bd (B + j * 4294967296) (cIn AW BW KW xs ys i ls j) := by
  induction j with
  | zero => simpa [cIn] using h
  | succ j ih =>
    unfold cIn
    refine ih.set _ (by omega) ?_
    have h1 := ih.get (cIdx AW BW KW i j)
    have h2 := ff_bd (kn_get hA i) (kn_get hB j)
    generalize xs[i]?.getD 0 * ys[j]?.getD 0 = t at h2 ⊢
    generalize (cIn AW BW KW xs ys i ls j)[cIdx AW BW KW i j]?.getD 0 = u at h1 ⊢
    obtain ⟨C, hC⟩ : ∃ C, B + j * 4294967296 = C := ⟨_, rfl⟩
    rw [hC] at h1
    rw [show B + (j + 1) * 4294967296 = C + 4294967296 by rw [← hC, Nat.add_one_mul, Nat.add_assoc]]
    omega
theorem cOut_bd {AW AH BW BH KW : Int} {xs ys : List Int} (hA : okKn AW AH xs) (hB : okKn BW BH ys) (M mb i : Nat) : Bd (i * (mb * 4294967296)) (cOut AW BW KW xs ys M mb i) := by
  induction i with
  | zero => intro z hz; have := List.eq_of_mem_replicate hz; subst this; simp
  | succ i ih =>
    unfold cOut
    have := cIn_bd (KW := KW) hA hB i ih mb
    have e : (i + 1) * (mb * 4294967296) = i * (mb * 4294967296) + mb * 4294967296 := Nat.add_one_mul i _
    rw [e]; exact this
theorem cIn_get {AW AH BW BH KW : Int} {xs ys : List Int} (hA : okKn AW AH xs) (hB : okKn BW BH ys) (M mb i j p : Nat) (hi : i ≤ 24) (hj : j ≤ 25) (hmb : mb ≤ 25) (hp : p < M) :
    ∃ u, (cIn AW BW KW xs ys i (cOut AW BW KW xs ys M mb i) j)[p]? = some u ∧ -4398046511104 ≤ u ∧ u ≤ 4398046511104 := by
  have hl : p < (cIn AW BW KW xs ys i (cOut AW BW KW xs ys M mb i) j).length := by rw [cIn_length, cOut_length]; exact hp
  have h := cIn_bd (KW := KW) hA hB i (cOut_bd (KW := KW) hA hB M mb i) j _ (List.getElem_mem hl)
  have h3 : i * (mb * 4294967296) ≤ 24 * (25 * 4294967296) := Nat.mul_le_mul hi (Nat.mul_le_mul hmb (Nat.le_refl _))
  exact ⟨_, List.getElem?_eq_getElem hl, by omega⟩
/-- The numbers that a walk over two kernels comes to. -/
theorem cIdx_facts {AW AH BW BH KW KH : Int} (hA : 1 ≤ AW ∧ AW ≤ 5) (hA2 : 1 ≤ AH ∧ AH ≤ 5) (hB : 1 ≤ BW ∧ BW ≤ 5) (hB2 : 1 ≤ BH ∧ BH ≤ 5) (hKW : AW + BW - 1 = KW) (hKH : AH + BH - 1 = KH) (h5 : KW ≤ 5) (h6 : KH ≤ 5) (i j : Nat) (hi : (i : Int) < AW * AH) (hj : (j : Int) < BW * BH) :
    ∃ q1 r1 q2 r2 s1 m1 m2 : Int, ((i : Int) / AW = q1 ∧ (i : Int) % AW = r1 ∧ (j : Int) / BW = q2 ∧ (j : Int) % BW = r2) ∧ (q1 + q2 = s1 ∧ s1 * KW = m1 ∧ m1 + r1 = m2 ∧ m2 + r2 = (cIdx AW BW KW i j : Nat)) ∧ (0 ≤ q1 ∧ q1 ≤ 4) ∧ (0 ≤ r1 ∧ r1 ≤ 4) ∧ (0 ≤ q2 ∧ q2 ≤ 4) ∧ (0 ≤ r2 ∧ r2 ≤ 4) ∧ (0 ≤ s1 ∧ s1 ≤ 8) ∧ (0 ≤ m1 ∧ m1 ≤ 100) ∧ (0 ≤ m2 ∧ m2 ≤ 200) ∧ ((cIdx AW BW KW i j : Nat) : Int) < KW * KH := by
  have a1 := Int.ediv_nonneg (show (0 : Int) ≤ i by omega) (show 0 ≤ AW by omega)
  have a2 : (i : Int) / AW < AH := Int.ediv_lt_of_lt_mul (by omega) (by rw [Int.mul_comm]; exact hi)
  have a3 := Int.emod_nonneg (i : Int) (show AW ≠ 0 by omega)
  have a4 := Int.emod_lt_of_pos (i : Int) (show 0 < AW by omega)
  have b1 := Int.ediv_nonneg (show (0 : Int) ≤ j by omega) (show 0 ≤ BW by omega)
  have b2 : (j : Int) / BW < BH := Int.ediv_lt_of_lt_mul (by omega) (by rw [Int.mul_comm]; exact hj)
  have b3 := Int.emod_nonneg (j : Int) (show BW ≠ 0 by omega)
  have b4 := Int.emod_lt_of_pos (j : Int) (show 0 < BW by omega)
  have c1 := Int.mul_nonneg (show 0 ≤ (i : Int) / AW + (j : Int) / BW by omega) (show 0 ≤ KW by omega)
  have c2 := Int.mul_le_mul_of_nonneg_right (show (i : Int) / AW + (j : Int) / BW ≤ KH - 1 by omega) (show 0 ≤ KW by omega)
  rw [Int.sub_mul, Int.one_mul, Int.mul_comm KH KW] at c2
  have c3 := Int.mul_le_mul (show (i : Int) / AW + (j : Int) / BW ≤ 8 by omega) h5 (by omega) (by omega)
  have c4 : ((cIdx AW BW KW i j : Nat) : Int) = ((i : Int) / AW + (j : Int) / BW) * KW + (i : Int) % AW + (j : Int) % BW := by unfold cIdx; omega
  exact ⟨_, _, _, _, _, _, _, ⟨rfl, rfl, rfl, rfl⟩, ⟨rfl, rfl, rfl, c4.symm⟩, by omega, by omega, by omega, by omega, by omega, by omega, by omega, by rw [c4]; omega⟩
/-- A list whose first numbers are brought into a range. -/
def mixd (ls : List Int) (i : Nat) : List Int := (ls.take i).map (fun z => inR z (-65536) 65536) ++ ls.drop i
theorem mixd_all (ls : List Int) : mixd ls ls.length = ls.map (fun z => inR z (-65536) 65536) := by unfold mixd; simp
theorem mixd_at (ls : List Int) {i : Nat} (h : i < ls.length) : (mixd ls i)[i]? = ls[i]? := by
  unfold mixd
  rw [List.getElem?_append_right (by simp; omega), List.getElem?_drop]
  congr 1; simp; omega
theorem mixd_set (ls : List Int) {i : Nat} {z : Int} (hz : ls[i]? = some z) : (mixd ls i).set i (inR z (-65536) 65536) = mixd ls (i + 1) := by
  have hi : i < ls.length := by
    rcases Nat.lt_or_ge i ls.length with h | h
    · exact h
    · rw [List.getElem?_eq_none h] at hz; cases hz
  have e1 : ls.drop i = z :: ls.drop (i + 1) := by rw [List.drop_eq_getElem_cons hi]; congr 1; rw [List.getElem?_eq_getElem hi] at hz; exact Option.some.inj hz
  unfold mixd
  rw [e1, List.set_append_right _ _ (by simp; omega), List.length_map, List.length_take, show i - min i ls.length = 0 by omega, List.take_add_one, hz, List.map_append, List.append_assoc]
  rfl
/-- The kernel of two convolutions. -/
def compK (AW AH BW BH : Int) (xs ys : List Int) : List Int := (cOut AW BW (AW + BW - 1) xs ys ((AW + BW - 1) * (AH + BH - 1)).toNat ys.length xs.length).map (fun z => inR z (-65536) 65536)
end Go.Proofs.Ytghmjdmiaajbnaa
