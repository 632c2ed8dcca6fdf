/-
  The texts that the laws of this seat share, merged: part 7.
-/
import Derived.BigQuiet
import Derived.Deep.CutRange
import Derived.Deep.DeepCutAuto
import Derived.Deep.Draws
import Derived.Deep.OwnRows
import Derived.Deep.QuietTactic
import Derived.Deep.RegionHeld3
import Derived.Laws.AppendOwn
import Derived.Lib.Hide
import Derived.LoopIn
import Derived.LoopNIn
import Derived.MapKept
import Derived.Maps.AppendAt
import Derived.OneCell
import Derived.OwnWalkIn
import Derived.RangeFuncBound
import Derived.RangeFuncCalls
import Derived.RangeFuncLeaves
import Derived.RangeFuncNested
import Derived.Shelf.Abstract
import Derived.Shelf.AbstractIn
import Derived.Shelf.RegionOpen
import Derived.StillTailTactics
import Derived.TacticsInMore
import Derived.Test.YtghmjdmiaajbnaaProg
import Derived.WalkKit
import Derived.WalkSmall
import Derived.WalkSpells
import Derived.Test.YtghmjdmiaajbnaaM2
import Derived.Test.YtghmjdmiaajbnaaM5
/-
  Layer 2: the ways to have values beyond the border, by the code and by the document.
-/
namespace Go.Proofs.Ytghmjdmiaajbnaa
open Go.RowKit Go.Shelf
set_option linter.unusedVariables false
set_option linter.unusedSimpArgs false

/-! ### A map of functions that the call makes -/
theorem insert_run (t k e : TypeId) (ht : Try.prog.underlying t = some (.map k e)) (hk : Try.prog.underlying k = some (.int .u8)) (w : World) (r : Nat) (es : Array MapEntry) (c : Nat) (j : Int) (v : Value) (hb : w.heap[r]? = some (.map es c)) (h1 : Instr.findNow (.int .u8) (.int .u8 j) es.toList 0 = some none) :
    (Instr.mapUpdate t (.map (some r)) (.int .u8 j) v).run Try.prog w = .ok () (w.putObj r (.map (es.push ⟨.int .u8 j, v, c⟩) (c + 1))) := by
  have hq : MapKept.IsKey (.int .u8) (.int .u8 j) := rfl
  simp [Instr.mapUpdate, run_underlying ht, MapKept.run_getObj_map hb, MapKept.run_checkKey hk hq, MapKept.run_findKey hk h1, MapKept.run_setObj_map _ hb, Result.andThen]
  rfl
theorem look_run (t k e : TypeId) (ht : Try.prog.underlying t = some (.map k e)) (hk : Try.prog.underlying k = some (.int .u8)) (w : World) (r : Nat) (es : Array MapEntry) (c : Nat) (j : Int) (i : Nat) (v : Value) (hb : w.heap[r]? = some (.map es c)) (h1 : Instr.findNow (.int .u8) (.int .u8 j) es.toList 0 = some (some (i, v))) :
    (Instr.lookup t (.map (some r)) (.int .u8 j) true).run Try.prog w = .ok (.tuple #[v, .bool true]) w := by
  have hq : MapKept.IsKey (.int .u8) (.int .u8 j) := rfl
  simp [Instr.lookup, run_underlying ht, MapKept.run_getObj_map hb, MapKept.run_checkKey hk hq, MapKept.run_findKey hk h1, Result.andThen]
/-- The function for a border. -/
def brdF (j : Int) : FuncId := if j = 1 then 104 else if j = 2 then 105 else 106
def brds : Array MapEntry := #[⟨.int .u8 1, .func (.func 104) #[] #[], 0⟩, ⟨.int .u8 2, .func (.func 105) #[] #[], 1⟩, ⟨.int .u8 3, .func (.func 106) #[] #[], 2⟩]
theorem below_put {B : Nat} {a w : World} {r : Nat} (o : Obj) (h : Below B a w) (hr : B ≤ r) : Below B a (w.putObj r o) :=
  h.trans ⟨rfl, rfl, rfl, by simp [World.putObj], fun k hk => World.putObj_heap_other (by omega)⟩
set_option maxHeartbeats 1000000 in
theorem borders_any (w : World) :
    Calls Try.prog 61 #[] w fun e w' => ∃ r : Nat, e = .returned (.map (some r)) ∧ w'.heap[r]? = some (.map brds 3) ∧ Below w.heap.size w w' := by
  have ht : Try.prog.underlying 93 = some (.map 5 91) := Try.underlying93
  have hk : Try.prog.underlying 5 = some (.int .u8) := Try.underlying5
  have hmm := @run_makeMap Try.prog
  obtain ⟨w1, hw1⟩ : ∃ w1, w.alloc (.map #[] 0) = w1 := ⟨_, rfl⟩
  have c1 : w1.heap[w.heap.size]? = some (.map #[] 0) := by rw [← hw1]; exact Array.getElem?_push_size
  have B1 : Below w.heap.size w w1 := by rw [← hw1]; exact belowAlloc (Below.refl _ _)
  have lt : w.heap.size < w1.heap.size := by rw [← hw1]; simp
  have i1 := insert_run _ _ _ ht hk w1 w.heap.size _ _ 1 (.func (.func 104) #[] #[]) c1 rfl
  obtain ⟨w2, hw2⟩ : ∃ w2, w1.putObj w.heap.size (.map (#[].push ⟨.int .u8 1, .func (.func 104) #[] #[], 0⟩) (0 + 1)) = w2 := ⟨_, rfl⟩
  rw [hw2] at i1
  have c2 : w2.heap[w.heap.size]? = some (.map (#[].push ⟨.int .u8 1, .func (.func 104) #[] #[], 0⟩) (0 + 1)) := by rw [← hw2]; exact World.putObj_heap_same lt
  have B2 : Below w.heap.size w w2 := by rw [← hw2]; exact below_put _ B1 (Nat.le_refl _)
  have lt2 : w.heap.size < w2.heap.size := by rw [← hw2]; simpa [World.putObj] using lt
  have i2 := insert_run _ _ _ ht hk w2 w.heap.size _ _ 2 (.func (.func 105) #[] #[]) c2 rfl
  obtain ⟨w3, hw3⟩ : ∃ w3, w2.putObj w.heap.size (.map ((#[].push ⟨.int .u8 1, .func (.func 104) #[] #[], 0⟩).push ⟨.int .u8 2, .func (.func 105) #[] #[], 0 + 1⟩) (0 + 1 + 1)) = w3 := ⟨_, rfl⟩
  rw [hw3] at i2
  have c3 : w3.heap[w.heap.size]? = some (.map ((#[].push ⟨.int .u8 1, .func (.func 104) #[] #[], 0⟩).push ⟨.int .u8 2, .func (.func 105) #[] #[], 0 + 1⟩) (0 + 1 + 1)) := by rw [← hw3]; exact World.putObj_heap_same lt2
  have B3 : Below w.heap.size w w3 := by rw [← hw3]; exact below_put _ B2 (Nat.le_refl _)
  have lt3 : w.heap.size < w3.heap.size := by rw [← hw3]; simpa [World.putObj] using lt2
  have i3 := insert_run _ _ _ ht hk w3 w.heap.size _ _ 3 (.func (.func 106) #[] #[]) c3 rfl
  obtain ⟨w4, hw4⟩ : ∃ w4, w3.putObj w.heap.size (.map brds 3) = w4 := ⟨_, rfl⟩
  have i4 : (Instr.mapUpdate 93 (.map (some w.heap.size)) (.int .u8 3) (.func (.func 106) #[] #[])).run Try.prog w3 = .ok () w4 := by rw [← hw4]; exact i3
  have c4 : w4.heap[w.heap.size]? = some (.map brds 3) := by rw [← hw4]; exact World.putObj_heap_same lt3
  have B4 : Below w.heap.size w w4 := by rw [← hw4]; exact below_put _ B3 (Nat.le_refl _)
  have C4 := Lib.hid c4
  have HB4 := Lib.hid B4
  have hmm' : (Instr.makeMap 93 none).run Try.prog w = .ok (.map (some w.heap.size)) w1 := by rw [← hw1]; exact hmm _ _
  clear c1 c2 c3 c4 B1 B2 B3 B4 hw1 hw2 hw3 hw4 lt lt2 lt3 ht hk hmm i3
  go_enter Try.func61, Try.ntmps61
  go_wp2
  go_ret
  exact ⟨_, rfl, C4.out, HB4.out⟩

/-! ### The three ways, by the code -/
theorem alloc2b (w : World) (c0 : Array Value) (t0 : TypeId) (c1 : Array Value) (t1 : TypeId) :
    ∃ W0, (w.alloc (.cells c0 t0)).alloc (.cells c1 t1) = W0 ∧ Blk W0 w.heap.size c0 t0 ∧ Blk W0 (w.heap.size + 1) c1 t1 ∧ Below w.heap.size w W0 :=
  ⟨_, rfl, Blk.alloc (Blk.new rfl), Blk.new (by simp), by (repeat' (first | (with_reducible exact Below.refl _ _) | (with_reducible assumption) | (with_reducible refine belowThru ?_ (by assumption)) | (with_reducible refine belowAlloc ?_) | (with_reducible refine Below.setCell ?_ (by first | omega | (simp; done) | (simp; omega)) _) | (with_reducible refine Below.drew ?_) | (with_reducible refine below_drewN ?_ _)))⟩
/-- A place beyond the border is brought to the nearest pixel, or around. -/
theorem near_in {n : Int} (h : okS n) (x : Int) : 0 ≤ inR x 0 (n - 1) ∧ inR x 0 (n - 1) < n := by
  unfold inR; obtain ⟨h1, h2⟩ := h; omega
theorem rest_in {n : Int} (h : okS n) (x : Int) : 0 ≤ x % n ∧ x % n < n := by
  obtain ⟨h1, h2⟩ := h
  exact ⟨Int.emod_nonneg x (by omega), Int.emod_lt_of_pos x (by omega)⟩
set_option maxHeartbeats 1000000 in
theorem orZero_any (W H x y : Int) (a : Option Addr) (n c : Nat) (zs : List Int) (hI : okI W H zs) (w : World) (hR : Row w a n (iv zs)) :
    Calls Try.prog 104 #[.agg #[.int .i64 W, .int .i64 H, .slice a n c], .agg #[.int .i64 x, .int .i64 y]] w fun e w' => e = .returned (.int .i64 (if inP W H x y then pixAt W zs x y else 0)) ∧ Below w.heap.size w w' := by
  have HR := Lib.hid hR
  by_cases hp : inP W H x y
  · rw [if_pos hp]
    have dp : decide (inP W H x y) = true := decide_eq_true hp
    have HA := Lib.hid (at_z W H x y a n c zs hI hp)
    clear hp hR hI
    go_enter Try.func104, Try.ntmps104
    go_wp2_with (first
      | (go_at_call 83; (with_reducible refine (has_any _ _ _ _ _ _ _ _).mono ?_); rintro e w1 ⟨rfl, hb⟩; (first | ((with_reducible have k0 := Blk.later hb (Blk.alloc (Blk.new rfl))); (with_reducible have k1 := Blk.later hb (Blk.new rfl)); simp only [World.size_alloc] at k1; obtain ⟨a0, b0⟩ := k0.read; have zl := k0.lt; obtain ⟨a1, b1⟩ := k1.read; have zl := k1.lt) | ((try (have zk := k0.lt; (first | ((with_reducible refine Blk.keepG hb k0 (fun h => ?_) ?_); (focus ((repeat' (first | (with_reducible assumption) | ((with_reducible refine Blk.new ?_); first | rfl | (simp; done)) | (with_reducible refine Blk.later (by assumption) ?_) | (with_reducible refine Blk.alloc ?_) | (with_reducible refine Blk.drewN ?_) | (with_reducible refine Blk.drew ?_) | (with_reducible refine Blk.other ?_ (by first | omega | (simp; done) | (simp; omega))))); done)); clear k0; intro k0) | (with_reducible replace k0 := Blk.later hb (Blk.set (Blk.set k0))) | (with_reducible replace k0 := Blk.later hb (Blk.set k0))); clear a0 b0; obtain ⟨a0, b0⟩ := k0.read; have zl := k0.lt)); (try (have zk := k1.lt; (first | ((with_reducible refine Blk.keepG hb k1 (fun h => ?_) ?_); (focus ((repeat' (first | (with_reducible assumption) | ((with_reducible refine Blk.new ?_); first | rfl | (simp; done)) | (with_reducible refine Blk.later (by assumption) ?_) | (with_reducible refine Blk.alloc ?_) | (with_reducible refine Blk.drewN ?_) | (with_reducible refine Blk.drew ?_) | (with_reducible refine Blk.other ?_ (by first | omega | (simp; done) | (simp; omega))))); done)); clear k1; intro k1) | (with_reducible replace k1 := Blk.later hb (Blk.set (Blk.set k1))) | (with_reducible replace k1 := Blk.later hb (Blk.set k1))); clear a1 b1; obtain ⟨a1, b1⟩ := k1.read; have zl := k1.lt)))))
      | (go_at_call 57; (with_reducible refine (HA.out _ (HR.out.later (by (repeat' (first | (with_reducible exact Below.refl _ _) | (with_reducible assumption) | (with_reducible refine belowThru ?_ (by assumption)) | (with_reducible refine belowAlloc ?_) | (with_reducible refine Below.setCell ?_ (by first | omega | (simp; done) | (simp; omega)) _) | (with_reducible refine Below.drew ?_) | (with_reducible refine below_drewN ?_ _)))))).mono ?_); rintro e w1 ⟨rfl, hb⟩; (try (have zk := k0.lt; (first | ((with_reducible refine Blk.keepG hb k0 (fun h => ?_) ?_); (focus ((repeat' (first | (with_reducible assumption) | ((with_reducible refine Blk.new ?_); first | rfl | (simp; done)) | (with_reducible refine Blk.later (by assumption) ?_) | (with_reducible refine Blk.alloc ?_) | (with_reducible refine Blk.drewN ?_) | (with_reducible refine Blk.drew ?_) | (with_reducible refine Blk.other ?_ (by first | omega | (simp; done) | (simp; omega))))); done)); clear k0; intro k0) | (with_reducible replace k0 := Blk.later hb (Blk.set (Blk.set k0))) | (with_reducible replace k0 := Blk.later hb (Blk.set k0))); clear a0 b0; obtain ⟨a0, b0⟩ := k0.read; have zl := k0.lt)); (try (have zk := k1.lt; (first | ((with_reducible refine Blk.keepG hb k1 (fun h => ?_) ?_); (focus ((repeat' (first | (with_reducible assumption) | ((with_reducible refine Blk.new ?_); first | rfl | (simp; done)) | (with_reducible refine Blk.later (by assumption) ?_) | (with_reducible refine Blk.alloc ?_) | (with_reducible refine Blk.drewN ?_) | (with_reducible refine Blk.drew ?_) | (with_reducible refine Blk.other ?_ (by first | omega | (simp; done) | (simp; omega))))); done)); clear k1; intro k1) | (with_reducible replace k1 := Blk.later hb (Blk.set (Blk.set k1))) | (with_reducible replace k1 := Blk.later hb (Blk.set k1))); clear a1 b1; obtain ⟨a1, b1⟩ := k1.read; have zl := k1.lt))))
    go_ret
    exact ⟨rfl, by (repeat' (first | (with_reducible exact Below.refl _ _) | (with_reducible assumption) | (with_reducible refine belowThru ?_ (by assumption)) | (with_reducible refine belowAlloc ?_) | (with_reducible refine Below.setCell ?_ (by first | omega | (simp; done) | (simp; omega)) _) | (with_reducible refine Below.drew ?_) | (with_reducible refine below_drewN ?_ _)))⟩
  · rw [if_neg hp]
    have dp : decide (inP W H x y) = false := decide_eq_false hp
    clear hp hR hI
    go_enter Try.func104, Try.ntmps104
    go_wp2_with (go_at_call 83; (with_reducible refine (has_any _ _ _ _ _ _ _ _).mono ?_); rintro e w1 ⟨rfl, hb⟩; (first | ((with_reducible have k0 := Blk.later hb (Blk.alloc (Blk.new rfl))); (with_reducible have k1 := Blk.later hb (Blk.new rfl)); simp only [World.size_alloc] at k1; obtain ⟨a0, b0⟩ := k0.read; have zl := k0.lt; obtain ⟨a1, b1⟩ := k1.read; have zl := k1.lt) | ((try (have zk := k0.lt; (first | ((with_reducible refine Blk.keepG hb k0 (fun h => ?_) ?_); (focus ((repeat' (first | (with_reducible assumption) | ((with_reducible refine Blk.new ?_); first | rfl | (simp; done)) | (with_reducible refine Blk.later (by assumption) ?_) | (with_reducible refine Blk.alloc ?_) | (with_reducible refine Blk.drewN ?_) | (with_reducible refine Blk.drew ?_) | (with_reducible refine Blk.other ?_ (by first | omega | (simp; done) | (simp; omega))))); done)); clear k0; intro k0) | (with_reducible replace k0 := Blk.later hb (Blk.set (Blk.set k0))) | (with_reducible replace k0 := Blk.later hb (Blk.set k0))); clear a0 b0; obtain ⟨a0, b0⟩ := k0.read; have zl := k0.lt)); (try (have zk := k1.lt; (first | ((with_reducible refine Blk.keepG hb k1 (fun h => ?_) ?_); (focus ((repeat' (first | (with_reducible assumption) | ((with_reducible refine Blk.new ?_); first | rfl | (simp; done)) | (with_reducible refine Blk.later (by assumption) ?_) | (with_reducible refine Blk.alloc ?_) | (with_reducible refine Blk.drewN ?_) | (with_reducible refine Blk.drew ?_) | (with_reducible refine Blk.other ?_ (by first | omega | (simp; done) | (simp; omega))))); done)); clear k1; intro k1) | (with_reducible replace k1 := Blk.later hb (Blk.set (Blk.set k1))) | (with_reducible replace k1 := Blk.later hb (Blk.set k1))); clear a1 b1; obtain ⟨a1, b1⟩ := k1.read; have zl := k1.lt)))))
    go_ret
    exact ⟨rfl, by (repeat' (first | (with_reducible exact Below.refl _ _) | (with_reducible assumption) | (with_reducible refine belowThru ?_ (by assumption)) | (with_reducible refine belowAlloc ?_) | (with_reducible refine Below.setCell ?_ (by first | omega | (simp; done) | (simp; omega)) _) | (with_reducible refine Below.drew ?_) | (with_reducible refine below_drewN ?_ _)))⟩
set_option maxRecDepth 100000 in
set_option maxHeartbeats 400000 in
theorem nearest_any (W H x y : Int) (a : Option Addr) (n c : Nat) (zs : List Int) (hI : okI W H zs) (w : World) (hR : Row w a n (iv zs)) :
    Calls Try.prog 105 #[.agg #[.int .i64 W, .int .i64 H, .slice a n c], .agg #[.int .i64 x, .int .i64 y]] w fun e w' => e = .returned (.int .i64 (pixAt W zs (inR x 0 (W - 1)) (inR y 0 (H - 1)))) ∧ Below w.heap.size w w' := by
  have HR := Lib.hid hR
  have hx := near_in hI.1.1 x
  have hy := near_in hI.1.2 y
  have HA := Lib.hid (at_z W H _ _ a n c zs hI ⟨hx, hy⟩)
  obtain ⟨⟨⟨w0, w1⟩, h0, h1⟩, -⟩ := hI
  have v1 : IntKind.i64.wrap (W - 1) = W - 1 := IntWalk.i64_in _ (by omega)
  have v2 : IntKind.i64.wrap (H - 1) = H - 1 := IntWalk.i64_in _ (by omega)
  clear hR hx hy
  go_enter Try.func105, Try.ntmps105
  go_upto_region 1 with fail
  obtain ⟨W0, hW0, k0, k1, hB⟩ := alloc2b w #[.int .i64 W, .int .i64 H, .slice a n c] 86 #[.int .i64 x, .int .i64 y] 83
  rw [hW0]
  clear hW0
  obtain ⟨a0, b0⟩ := k0.read; obtain ⟨a1, b1⟩ := k1.read
  refine wp_region_still_tail 14 (by kernel_rfl) (by kernel_rfl) ?_
  simp only [List.take_succ_cons, List.take_zero, List.drop_succ_cons, List.drop_zero]
  repeat still_step
  still_call ((bring_any x 0 (W - 1) _).mono fun e w1 h => ⟨h.1, h.2.symm⟩)
  repeat still_step
  still_call ((bring_any y 0 (H - 1) _).mono fun e w1 h => ⟨h.1, h.2.symm⟩)
  repeat still_step
  refine wpStill_nil ?_
  go_wp2_with (go_at_call 57; (with_reducible refine (HA.out _ (HR.out.later (by (repeat' (first | (with_reducible exact Below.refl _ _) | (with_reducible assumption) | (with_reducible refine belowThru ?_ (by assumption)) | (with_reducible refine belowAlloc ?_) | (with_reducible refine Below.setCell ?_ (by first | omega | (simp; done) | (simp; omega)) _) | (with_reducible refine Below.drew ?_) | (with_reducible refine below_drewN ?_ _)))))).mono ?_); rintro e w1 ⟨rfl, hb⟩; (try (have zk := k0.lt; (first | ((with_reducible refine Blk.keepG hb k0 (fun h => ?_) ?_); (focus ((repeat' (first | (with_reducible assumption) | ((with_reducible refine Blk.new ?_); first | rfl | (simp; done)) | (with_reducible refine Blk.later (by assumption) ?_) | (with_reducible refine Blk.alloc ?_) | (with_reducible refine Blk.drewN ?_) | (with_reducible refine Blk.drew ?_) | (with_reducible refine Blk.other ?_ (by first | omega | (simp; done) | (simp; omega))))); done)); clear k0; intro k0) | (with_reducible replace k0 := Blk.later hb (Blk.set (Blk.set k0))) | (with_reducible replace k0 := Blk.later hb (Blk.set k0))); clear a0 b0; obtain ⟨a0, b0⟩ := k0.read; have zl := k0.lt)); (try (have zk := k1.lt; (first | ((with_reducible refine Blk.keepG hb k1 (fun h => ?_) ?_); (focus ((repeat' (first | (with_reducible assumption) | ((with_reducible refine Blk.new ?_); first | rfl | (simp; done)) | (with_reducible refine Blk.later (by assumption) ?_) | (with_reducible refine Blk.alloc ?_) | (with_reducible refine Blk.drewN ?_) | (with_reducible refine Blk.drew ?_) | (with_reducible refine Blk.other ?_ (by first | omega | (simp; done) | (simp; omega))))); done)); clear k1; intro k1) | (with_reducible replace k1 := Blk.later hb (Blk.set (Blk.set k1))) | (with_reducible replace k1 := Blk.later hb (Blk.set k1))); clear a1 b1; obtain ⟨a1, b1⟩ := k1.read; have zl := k1.lt)))
  go_ret
  exact ⟨rfl, by (repeat' (first | (with_reducible exact Below.refl _ _) | (with_reducible assumption) | (with_reducible refine belowThru ?_ (by assumption)) | (with_reducible refine belowAlloc ?_) | (with_reducible refine Below.setCell ?_ (by first | omega | (simp; done) | (simp; omega)) _) | (with_reducible refine Below.drew ?_) | (with_reducible refine below_drewN ?_ _)))⟩
set_option maxRecDepth 100000 in
set_option maxHeartbeats 1000000 in
theorem wrapped_any (W H x y : Int) (a : Option Addr) (n c : Nat) (zs : List Int) (hI : okI W H zs) (x0 : -64 ≤ x) (x1 : x ≤ 64) (y0 : -64 ≤ y) (y1 : y ≤ 64) (w : World) (hR : Row w a n (iv zs)) :
    Calls Try.prog 106 #[.agg #[.int .i64 W, .int .i64 H, .slice a n c], .agg #[.int .i64 x, .int .i64 y]] w fun e w' => e = .returned (.int .i64 (pixAt W zs (x % W) (y % H))) ∧ Below w.heap.size w w' := by
  have HR := Lib.hid hR
  have hx := rest_in hI.1.1 x
  have hy := rest_in hI.1.2 y
  have HA := Lib.hid (at_z W H _ _ a n c zs hI ⟨hx, hy⟩)
  obtain ⟨⟨⟨w0, w1⟩, h0, h1⟩, -⟩ := hI
  have ex := Int.mul_ediv_add_emod x W
  have ey := Int.mul_ediv_add_emod y H
  obtain ⟨P, hP⟩ : ∃ P, W * (x / W) = P := ⟨_, rfl⟩
  obtain ⟨Q, hQ⟩ : ∃ Q, H * (y / H) = Q := ⟨_, rfl⟩
  rw [hP] at ex; rw [hQ] at ey
  have vP : IntKind.i64.wrap (W * (x / W)) = P := by rw [hP]; exact IntWalk.i64_in _ (by omega)
  have vQ : IntKind.i64.wrap (H * (y / H)) = Q := by rw [hQ]; exact IntWalk.i64_in _ (by omega)
  have vX : IntKind.i64.wrap (x - P) = x % W := by rw [show x - P = x % W by omega]; exact IntWalk.i64_in _ (by omega)
  have vY : IntKind.i64.wrap (y - Q) = y % H := by rw [show y - Q = y % H by omega]; exact IntWalk.i64_in _ (by omega)
  clear hR hx hy hP hQ ex ey
  go_enter Try.func106, Try.ntmps106
  go_upto_region 1 with fail
  obtain ⟨W0, hW0, k0, k1, hB⟩ := alloc2b w #[.int .i64 W, .int .i64 H, .slice a n c] 86 #[.int .i64 x, .int .i64 y] 83
  rw [hW0]
  clear hW0
  obtain ⟨a0, b0⟩ := k0.read; obtain ⟨a1, b1⟩ := k1.read
  refine wp_region_still_tail 24 (by kernel_rfl) (by kernel_rfl) ?_
  simp only [List.take_succ_cons, List.take_zero, List.drop_succ_cons, List.drop_zero]
  repeat still_step
  still_call ((quotient_any x W (by omega) (by omega) (by omega) (by omega) _).mono fun e w1 h => ⟨h.1, h.2.symm⟩)
  repeat still_step
  still_call ((quotient_any y H (by omega) (by omega) (by omega) (by omega) _).mono fun e w1 h => ⟨h.1, h.2.symm⟩)
  repeat still_step
  refine wpStill_nil ?_
  go_wp2_with (go_at_call 57; (with_reducible refine (HA.out _ (HR.out.later (by (repeat' (first | (with_reducible exact Below.refl _ _) | (with_reducible assumption) | (with_reducible refine belowThru ?_ (by assumption)) | (with_reducible refine belowAlloc ?_) | (with_reducible refine Below.setCell ?_ (by first | omega | (simp; done) | (simp; omega)) _) | (with_reducible refine Below.drew ?_) | (with_reducible refine below_drewN ?_ _)))))).mono ?_); rintro e w1 ⟨rfl, hb⟩; (try (have zk := k0.lt; (first | ((with_reducible refine Blk.keepG hb k0 (fun h => ?_) ?_); (focus ((repeat' (first | (with_reducible assumption) | ((with_reducible refine Blk.new ?_); first | rfl | (simp; done)) | (with_reducible refine Blk.later (by assumption) ?_) | (with_reducible refine Blk.alloc ?_) | (with_reducible refine Blk.drewN ?_) | (with_reducible refine Blk.drew ?_) | (with_reducible refine Blk.other ?_ (by first | omega | (simp; done) | (simp; omega))))); done)); clear k0; intro k0) | (with_reducible replace k0 := Blk.later hb (Blk.set (Blk.set k0))) | (with_reducible replace k0 := Blk.later hb (Blk.set k0))); clear a0 b0; obtain ⟨a0, b0⟩ := k0.read; have zl := k0.lt)); (try (have zk := k1.lt; (first | ((with_reducible refine Blk.keepG hb k1 (fun h => ?_) ?_); (focus ((repeat' (first | (with_reducible assumption) | ((with_reducible refine Blk.new ?_); first | rfl | (simp; done)) | (with_reducible refine Blk.later (by assumption) ?_) | (with_reducible refine Blk.alloc ?_) | (with_reducible refine Blk.drewN ?_) | (with_reducible refine Blk.drew ?_) | (with_reducible refine Blk.other ?_ (by first | omega | (simp; done) | (simp; omega))))); done)); clear k1; intro k1) | (with_reducible replace k1 := Blk.later hb (Blk.set (Blk.set k1))) | (with_reducible replace k1 := Blk.later hb (Blk.set k1))); clear a1 b1; obtain ⟨a1, b1⟩ := k1.read; have zl := k1.lt)))
  go_ret
  exact ⟨rfl, by (repeat' (first | (with_reducible exact Below.refl _ _) | (with_reducible assumption) | (with_reducible refine belowThru ?_ (by assumption)) | (with_reducible refine belowAlloc ?_) | (with_reducible refine Below.setCell ?_ (by first | omega | (simp; done) | (simp; omega)) _) | (with_reducible refine Below.drew ?_) | (with_reducible refine below_drewN ?_ _)))⟩
/-- A value beyond the border. -/
def bey (j W H : Int) (zs : List Int) (x y : Int) : Int :=
  if inP W H x y then pixAt W zs x y else if j = 1 then 0 else if j = 2 then pixAt W zs (inR x 0 (W - 1)) (inR y 0 (H - 1)) else pixAt W zs (x % W) (y % H)
theorem bey_any (j W H x y : Int) (hj : j = 1 ∨ j = 2 ∨ j = 3) (a : Option Addr) (n c : Nat) (zs : List Int) (hI : okI W H zs) (x0 : -64 ≤ x) (x1 : x ≤ 64) (y0 : -64 ≤ y) (y1 : y ≤ 64) (w : World) (hR : Row w a n (iv zs)) :
    Calls Try.prog (brdF j) #[.agg #[.int .i64 W, .int .i64 H, .slice a n c], .agg #[.int .i64 x, .int .i64 y]] w fun e w' => e = .returned (.int .i64 (bey j W H zs x y)) ∧ Below w.heap.size w w' := by
  have hb : ∀ v, v = bey j W H zs x y → ∀ e (w' : World), (e = Ending.returned (.int .i64 v) ∧ Below w.heap.size w w') → (e = Ending.returned (.int .i64 (bey j W H zs x y)) ∧ Below w.heap.size w w') := fun v hv e w' h => by rw [← hv]; exact h
  rcases hj with rfl | rfl | rfl
  · exact (orZero_any W H x y a n c zs hI w hR).mono (hb _ (by unfold bey; simp))
  · refine (nearest_any W H x y a n c zs hI w hR).mono (hb _ ?_)
    unfold bey
    by_cases hp : inP W H x y
    · rw [if_pos hp]
      obtain ⟨⟨h1, h2⟩, h3, h4⟩ := hp
      rw [show inR x 0 (W - 1) = x by unfold inR; omega, show inR y 0 (H - 1) = y by unfold inR; omega]
    · rw [if_neg hp]; simp
  · refine (wrapped_any W H x y a n c zs hI x0 x1 y0 y1 w hR).mono (hb _ ?_)
    unfold bey
    by_cases hp : inP W H x y
    · rw [if_pos hp]
      obtain ⟨⟨h1, h2⟩, h3, h4⟩ := hp
      rw [Int.emod_eq_of_lt h1 h2, Int.emod_eq_of_lt h3 h4]
    · rw [if_neg hp]; simp

/-! ### The document's own -/
end Go.Proofs.Ytghmjdmiaajbnaa
/-
  Layer 2: what distances, labels and basins are made of, by the code.
-/
namespace Go.Proofs.Ytghmjdmiaajbnaa
open Go.RowKit
set_option linter.unusedVariables false
set_option linter.unusedSimpArgs false

/-- The steps to the four neighbours. -/
def offs4 : List (Int × Int) := [(0, -1), (-1, 0), (1, 0), (0, 1)]
def cells4 : Array Value := #[.int .i64 0, .int .i64 (-1), .int .i64 (-1), .int .i64 0, .int .i64 1, .int .i64 0, .int .i64 0, .int .i64 1]
theorem around4_any (w : World) :
    Calls Try.prog 73 #[.bool false] w fun e w' => e = .returned (.slice (some ⟨w.heap.size, 0, none⟩) 4 4) ∧ Blk w' w.heap.size cells4 83 ∧ Below w.heap.size w w' := by
  go_enter Try.func73, Try.ntmps73
  go_wp2
  go_ret
  exact ⟨rfl, by unfold cells4; (repeat' (first | (with_reducible assumption) | ((with_reducible refine Blk.new ?_); first | rfl | (simp; done)) | (with_reducible refine Blk.later (by assumption) ?_) | (with_reducible refine Blk.alloc ?_) | (with_reducible refine Blk.drewN ?_) | (with_reducible refine Blk.drew ?_) | (with_reducible refine Blk.other ?_ (by first | omega | (simp; done) | (simp; omega))))), by (repeat' (first | (with_reducible exact Below.refl _ _) | (with_reducible assumption) | (with_reducible refine belowThru ?_ (by assumption)) | (with_reducible refine belowAlloc ?_) | (with_reducible refine Below.setCell ?_ (by first | omega | (simp; done) | (simp; omega)) _) | (with_reducible refine Below.drew ?_) | (with_reducible refine below_drewN ?_ _)))⟩
set_option maxHeartbeats 1000000 in
theorem steps_any (px py qx qy : Int) (hp : (0 ≤ px ∧ px ≤ 64) ∧ 0 ≤ py ∧ py ≤ 64) (hq : (0 ≤ qx ∧ qx ≤ 64) ∧ 0 ≤ qy ∧ qy ≤ 64) (w : World) :
    Calls Try.prog 71 #[.agg #[.int .i64 px, .int .i64 py], .agg #[.int .i64 qx, .int .i64 qy]] w fun e w' => e = .returned (.int .i64 (max (px - qx) (qx - px) + max (py - qy) (qy - py))) ∧ Below w.heap.size w w' := by
  obtain ⟨⟨h1, h2⟩, h3, h4⟩ := hp
  obtain ⟨⟨g1, g2⟩, g3, g4⟩ := hq
  go_enter Try.func71, Try.ntmps71
  go_wp2
  all_goals
    go_ret
    exact ⟨ret_int (by omega), by (repeat' (first | (with_reducible exact Below.refl _ _) | (with_reducible assumption) | (with_reducible refine belowThru ?_ (by assumption)) | (with_reducible refine belowAlloc ?_) | (with_reducible refine Below.setCell ?_ (by first | omega | (simp; done) | (simp; omega)) _) | (with_reducible refine Below.drew ?_) | (with_reducible refine below_drewN ?_ _)))⟩
/-- A pixel with the value vq and the number iq is taken as lower than one with vp and ip. -/
def lowB (vq vp : Int) (iq ip : Nat) : Prop := vq < vp ∨ (vq = vp ∧ iq < ip)
instance (vq vp : Int) (iq ip : Nat) : Decidable (lowB vq vp iq ip) := inferInstanceAs (Decidable (_ ∨ _))
set_option maxRecDepth 100000 in
set_option maxHeartbeats 4000000 in
theorem lower_any (W H qx qy px py vq vp : Int) (iq ip : Nat) (a : Option Addr) (n c : Nat) (zs : List Int) (hI : okI W H zs) (hq : inP W H qx qy) (hp : inP W H px py) (evq : pixAt W zs qx qy = vq) (evp : pixAt W zs px py = vp) (eiq : qy * W + qx = (iq : Int)) (eip : py * W + px = (ip : Int)) (w : World) (hR : Row w a n (iv zs)) :
    Calls Try.prog 114 #[.agg #[.int .i64 W, .int .i64 H, .slice a n c], .agg #[.int .i64 qx, .int .i64 qy], .agg #[.int .i64 px, .int .i64 py]] w fun e w' => e = .returned (.bool (decide (lowB vq vp iq ip))) ∧ Below w.heap.size w w' := by
  have HAQ := Lib.hid (at_z W H qx qy a n c zs hI hq)
  have HAP := Lib.hid (at_z W H px py a n c zs hI hp)
  rw [evq] at HAQ
  rw [evp] at HAP
  have HR := Lib.hid hR
  have hs := hI.1
  unfold okS at hs
  have HXQ := Lib.hid (fun w => index_any W H qx qy iq a n c eiq hq.2.1 (by have := hq.2.2; omega) (by omega) (by omega) hq.1.1 (by have := hq.1.2; omega) w)
  have HXP := Lib.hid (fun w => index_any W H px py ip a n c eip hp.2.1 (by have := hp.2.2; omega) (by omega) (by omega) hp.1.1 (by have := hp.1.2; omega) w)
  clear hI hq hp evq evp eiq eip hR hs
  by_cases e : vq = vp
  · have dl : decide (lowB vq vp iq ip) = decide ((iq : Int) < (ip : Int)) := by unfold lowB; simp [e]
    rw [dl]
    subst e
    clear dl
    go_enter Try.func114, Try.ntmps114
    go_upto_region 1 with fail
    go_region_held3 (fun w' => (Blk w' w.heap.size #[.int .i64 W, .int .i64 H, .slice a n c] 86 ∧ (∀ i : Nat, w'.cell? ⟨w.heap.size, i, none⟩ = (#[.int .i64 W, .int .i64 H, .slice a n c] : Array Value)[i]?)) ∧ (Blk w' (w.heap.size + 1) #[.int .i64 qx, .int .i64 qy] 83 ∧ (∀ i : Nat, w'.cell? ⟨(w.heap.size + 1), i, none⟩ = (#[.int .i64 qx, .int .i64 qy] : Array Value)[i]?)) ∧ (Blk w' (w.heap.size + 1 + 1) #[.int .i64 px, .int .i64 py] 83 ∧ (∀ i : Nat, w'.cell? ⟨(w.heap.size + 1 + 1), i, none⟩ = (#[.int .i64 px, .int .i64 py] : Array Value)[i]?)) ∧ Below w.heap.size w w')
      (((first | (apply hold3; (focus assumption); intro p0 p1 p2 pB) | skip); refine ⟨Blk.full ?_, Blk.full ?_, Blk.full ?_, ?_⟩; all_goals (first | ((repeat' (first | (with_reducible assumption) | ((with_reducible refine Blk.new ?_); first | rfl | (simp; done)) | (with_reducible refine Blk.later (by assumption) ?_) | (with_reducible refine Blk.alloc ?_) | (with_reducible refine Blk.drewN ?_) | (with_reducible refine Blk.drew ?_) | (with_reducible refine Blk.other ?_ (by first | omega | (simp; done) | (simp; omega))))); done) | ((repeat' (first | (with_reducible exact Below.refl _ _) | (with_reducible assumption) | (with_reducible refine belowThru ?_ (by assumption)) | (with_reducible refine belowAlloc ?_) | (with_reducible refine Below.setCell ?_ (by first | omega | (simp; done) | (simp; omega)) _) | (with_reducible refine Below.drew ?_) | (with_reducible refine below_drewN ?_ _))); done))))
      (first
      | (go_at_call 57; (with_reducible refine (HAQ.out _ (HR.out.later (by (repeat' (first | (with_reducible exact Below.refl _ _) | (with_reducible assumption) | (with_reducible refine belowThru ?_ (by assumption)) | (with_reducible refine belowAlloc ?_) | (with_reducible refine Below.setCell ?_ (by first | omega | (simp; done) | (simp; omega)) _) | (with_reducible refine Below.drew ?_) | (with_reducible refine below_drewN ?_ _)))))).mono ?_); rintro e w1 ⟨rfl, hb⟩)
      | (go_at_call 57; (with_reducible refine (HAP.out _ (HR.out.later (by (repeat' (first | (with_reducible exact Below.refl _ _) | (with_reducible assumption) | (with_reducible refine belowThru ?_ (by assumption)) | (with_reducible refine belowAlloc ?_) | (with_reducible refine Below.setCell ?_ (by first | omega | (simp; done) | (simp; omega)) _) | (with_reducible refine Below.drew ?_) | (with_reducible refine below_drewN ?_ _)))))).mono ?_); rintro e w1 ⟨rfl, hb⟩))
    all_goals
      apply hold3; (focus assumption); intro k0 k1 k2 hB
      obtain ⟨a0, b0⟩ := k0.read; obtain ⟨a1, b1⟩ := k1.read; obtain ⟨a2, b2⟩ := k2.read
      go_upto_region 2 with fail
      go_region_held3 (fun w' => (Blk w' w.heap.size #[.int .i64 W, .int .i64 H, .slice a n c] 86 ∧ (∀ i : Nat, w'.cell? ⟨w.heap.size, i, none⟩ = (#[.int .i64 W, .int .i64 H, .slice a n c] : Array Value)[i]?)) ∧ (Blk w' (w.heap.size + 1) #[.int .i64 qx, .int .i64 qy] 83 ∧ (∀ i : Nat, w'.cell? ⟨(w.heap.size + 1), i, none⟩ = (#[.int .i64 qx, .int .i64 qy] : Array Value)[i]?)) ∧ (Blk w' (w.heap.size + 1 + 1) #[.int .i64 px, .int .i64 py] 83 ∧ (∀ i : Nat, w'.cell? ⟨(w.heap.size + 1 + 1), i, none⟩ = (#[.int .i64 px, .int .i64 py] : Array Value)[i]?)) ∧ Below w.heap.size w w')
        (((first | (apply hold3; (focus assumption); intro p0 p1 p2 pB) | skip); refine ⟨Blk.full ?_, Blk.full ?_, Blk.full ?_, ?_⟩; all_goals (first | ((repeat' (first | (with_reducible assumption) | ((with_reducible refine Blk.new ?_); first | rfl | (simp; done)) | (with_reducible refine Blk.later (by assumption) ?_) | (with_reducible refine Blk.alloc ?_) | (with_reducible refine Blk.drewN ?_) | (with_reducible refine Blk.drew ?_) | (with_reducible refine Blk.other ?_ (by first | omega | (simp; done) | (simp; omega))))); done) | ((repeat' (first | (with_reducible exact Below.refl _ _) | (with_reducible assumption) | (with_reducible refine belowThru ?_ (by assumption)) | (with_reducible refine belowAlloc ?_) | (with_reducible refine Below.setCell ?_ (by first | omega | (simp; done) | (simp; omega)) _) | (with_reducible refine Below.drew ?_) | (with_reducible refine below_drewN ?_ _))); done))))
        (first
      | (go_at_call 96; (with_reducible refine (HXQ.out _).mono ?_); rintro e w1 ⟨rfl, hb⟩)
      | (go_at_call 96; (with_reducible refine (HXP.out _).mono ?_); rintro e w1 ⟨rfl, hb⟩))
      all_goals
        apply hold3; (focus assumption); intro q0 q1 q2 qB
        go_wp2_with fail
        go_ret
        exact ⟨by first | rfl | (simp; done) | (congr 2; simp), qB⟩
  · have dl : decide (lowB vq vp iq ip) = decide (vq < vp) := by unfold lowB; simp [e]
    rw [dl]
    have e2 : (vq == vp) = false := by simpa using e
    clear dl
    go_enter Try.func114, Try.ntmps114
    go_upto_region 1 with fail
    go_region_held3 (fun w' => (Blk w' w.heap.size #[.int .i64 W, .int .i64 H, .slice a n c] 86 ∧ (∀ i : Nat, w'.cell? ⟨w.heap.size, i, none⟩ = (#[.int .i64 W, .int .i64 H, .slice a n c] : Array Value)[i]?)) ∧ (Blk w' (w.heap.size + 1) #[.int .i64 qx, .int .i64 qy] 83 ∧ (∀ i : Nat, w'.cell? ⟨(w.heap.size + 1), i, none⟩ = (#[.int .i64 qx, .int .i64 qy] : Array Value)[i]?)) ∧ (Blk w' (w.heap.size + 1 + 1) #[.int .i64 px, .int .i64 py] 83 ∧ (∀ i : Nat, w'.cell? ⟨(w.heap.size + 1 + 1), i, none⟩ = (#[.int .i64 px, .int .i64 py] : Array Value)[i]?)) ∧ Below w.heap.size w w')
      (((first | (apply hold3; (focus assumption); intro p0 p1 p2 pB) | skip); refine ⟨Blk.full ?_, Blk.full ?_, Blk.full ?_, ?_⟩; all_goals (first | ((repeat' (first | (with_reducible assumption) | ((with_reducible refine Blk.new ?_); first | rfl | (simp; done)) | (with_reducible refine Blk.later (by assumption) ?_) | (with_reducible refine Blk.alloc ?_) | (with_reducible refine Blk.drewN ?_) | (with_reducible refine Blk.drew ?_) | (with_reducible refine Blk.other ?_ (by first | omega | (simp; done) | (simp; omega))))); done) | ((repeat' (first | (with_reducible exact Below.refl _ _) | (with_reducible assumption) | (with_reducible refine belowThru ?_ (by assumption)) | (with_reducible refine belowAlloc ?_) | (with_reducible refine Below.setCell ?_ (by first | omega | (simp; done) | (simp; omega)) _) | (with_reducible refine Below.drew ?_) | (with_reducible refine below_drewN ?_ _))); done))))
      (first
      | (go_at_call 57; (with_reducible refine (HAQ.out _ (HR.out.later (by (repeat' (first | (with_reducible exact Below.refl _ _) | (with_reducible assumption) | (with_reducible refine belowThru ?_ (by assumption)) | (with_reducible refine belowAlloc ?_) | (with_reducible refine Below.setCell ?_ (by first | omega | (simp; done) | (simp; omega)) _) | (with_reducible refine Below.drew ?_) | (with_reducible refine below_drewN ?_ _)))))).mono ?_); rintro e w1 ⟨rfl, hb⟩)
      | (go_at_call 57; (with_reducible refine (HAP.out _ (HR.out.later (by (repeat' (first | (with_reducible exact Below.refl _ _) | (with_reducible assumption) | (with_reducible refine belowThru ?_ (by assumption)) | (with_reducible refine belowAlloc ?_) | (with_reducible refine Below.setCell ?_ (by first | omega | (simp; done) | (simp; omega)) _) | (with_reducible refine Below.drew ?_) | (with_reducible refine below_drewN ?_ _)))))).mono ?_); rintro e w1 ⟨rfl, hb⟩))
    all_goals
      apply hold3; (focus assumption); intro k0 k1 k2 hB
      obtain ⟨a0, b0⟩ := k0.read; obtain ⟨a1, b1⟩ := k1.read; obtain ⟨a2, b2⟩ := k2.read
      go_upto_region 3 with fail
      go_region_held3 (fun w' => (Blk w' w.heap.size #[.int .i64 W, .int .i64 H, .slice a n c] 86 ∧ (∀ i : Nat, w'.cell? ⟨w.heap.size, i, none⟩ = (#[.int .i64 W, .int .i64 H, .slice a n c] : Array Value)[i]?)) ∧ (Blk w' (w.heap.size + 1) #[.int .i64 qx, .int .i64 qy] 83 ∧ (∀ i : Nat, w'.cell? ⟨(w.heap.size + 1), i, none⟩ = (#[.int .i64 qx, .int .i64 qy] : Array Value)[i]?)) ∧ (Blk w' (w.heap.size + 1 + 1) #[.int .i64 px, .int .i64 py] 83 ∧ (∀ i : Nat, w'.cell? ⟨(w.heap.size + 1 + 1), i, none⟩ = (#[.int .i64 px, .int .i64 py] : Array Value)[i]?)) ∧ Below w.heap.size w w')
        (((first | (apply hold3; (focus assumption); intro p0 p1 p2 pB) | skip); refine ⟨Blk.full ?_, Blk.full ?_, Blk.full ?_, ?_⟩; all_goals (first | ((repeat' (first | (with_reducible assumption) | ((with_reducible refine Blk.new ?_); first | rfl | (simp; done)) | (with_reducible refine Blk.later (by assumption) ?_) | (with_reducible refine Blk.alloc ?_) | (with_reducible refine Blk.drewN ?_) | (with_reducible refine Blk.drew ?_) | (with_reducible refine Blk.other ?_ (by first | omega | (simp; done) | (simp; omega))))); done) | ((repeat' (first | (with_reducible exact Below.refl _ _) | (with_reducible assumption) | (with_reducible refine belowThru ?_ (by assumption)) | (with_reducible refine belowAlloc ?_) | (with_reducible refine Below.setCell ?_ (by first | omega | (simp; done) | (simp; omega)) _) | (with_reducible refine Below.drew ?_) | (with_reducible refine below_drewN ?_ _))); done))))
        (first
      | (go_at_call 57; (with_reducible refine (HAQ.out _ (HR.out.later (by (repeat' (first | (with_reducible exact Below.refl _ _) | (with_reducible assumption) | (with_reducible refine belowThru ?_ (by assumption)) | (with_reducible refine belowAlloc ?_) | (with_reducible refine Below.setCell ?_ (by first | omega | (simp; done) | (simp; omega)) _) | (with_reducible refine Below.drew ?_) | (with_reducible refine below_drewN ?_ _)))))).mono ?_); rintro e w1 ⟨rfl, hb⟩)
      | (go_at_call 57; (with_reducible refine (HAP.out _ (HR.out.later (by (repeat' (first | (with_reducible exact Below.refl _ _) | (with_reducible assumption) | (with_reducible refine belowThru ?_ (by assumption)) | (with_reducible refine belowAlloc ?_) | (with_reducible refine Below.setCell ?_ (by first | omega | (simp; done) | (simp; omega)) _) | (with_reducible refine Below.drew ?_) | (with_reducible refine below_drewN ?_ _)))))).mono ?_); rintro e w1 ⟨rfl, hb⟩))
      all_goals
        apply hold3; (focus assumption); intro q0 q1 q2 qB
        go_wp2_with fail
        go_ret
        exact ⟨by first | rfl | (simp; done) | (congr 2; simp), qB⟩
end Go.Proofs.Ytghmjdmiaajbnaa
/-
  Layer 2: the distance of a place from the places of a list, by the code.
-/
namespace Go.Proofs.Ytghmjdmiaajbnaa
open Go.RowKit
set_option linter.unusedVariables false
set_option linter.unusedSimpArgs false

def stepD (px py qx qy : Int) : Int := max (px - qx) (qx - px) + max (py - qy) (qy - py)
/-- The least of a number and the distances to the first places of a list. -/
def disN (px py M : Int) (Z : List (Int × Int)) : Nat → Int
  | 0 => M
  | j + 1 => min (disN px py M Z j) (stepD px py (Z[j]?.getD (0, 0)).1 (Z[j]?.getD (0, 0)).2)
theorem disN_bd {px py M : Int} {Z : List (Int × Int)} (hM : 0 ≤ M) (j : Nat) : 0 ≤ disN px py M Z j ∧ disN px py M Z j ≤ M := by
  induction j with
  | zero => exact ⟨hM, Int.le_refl _⟩
  | succ j ih => unfold disN stepD; omega
/-- A slice value that reads as these places. -/
def PRow (w : World) (a : Option Addr) (Z : List (Int × Int)) : Prop :=
  ∀ j, j < Z.length → ∃ g, a = some ⟨g, 0, none⟩ ∧ w.cell? ⟨g, j * 2, none⟩ = some (.int .i64 (Z[j]?.getD (0, 0)).1) ∧ w.cell? ⟨g, j * 2 + 1, none⟩ = some (.int .i64 (Z[j]?.getD (0, 0)).2)
theorem PRow.later {w w' : World} (hb : Below w.heap.size w w') {a : Option Addr} {Z : List (Int × Int)} (h : PRow w a Z) : PRow w' a Z := fun j hj => by
  obtain ⟨g, e, h1, h2⟩ := h j hj
  exact ⟨g, e, cell_later hb h1, cell_later hb h2⟩
set_option maxRecDepth 100000 in
set_option maxHeartbeats 8000000 in
theorem dist1_any (W H px py : Int) (Z : List (Int × Int)) (a az : Option Addr) (n c nz cz Bm Bz : Nat) (hW : okS W) (hH : okS H) (hp : inP W H px py) (hz : ∀ q ∈ Z, inP W H q.1 q.2) (hn : Z.length = nz) (hnz : nz ≤ 256) (w : World) (hR : PRow w az Z) (km : Blk w Bm #[.int .i64 W, .int .i64 H, .slice a n c] 24) (kz : Blk w Bz #[.slice az nz cz] 101) :
    Calls Try.prog 70 #[.agg #[.int .i64 px, .int .i64 py], .pointer (some ⟨Bm, 0, none⟩), .pointer (some ⟨Bz, 0, none⟩)] w fun e w' => e = .returned (.int .i64 (disN px py (W + H) Z nz)) ∧ Below w.heap.size w w' := by
  obtain ⟨w0, w1⟩ := hW
  obtain ⟨h0, h1⟩ := hH
  have HB : Hid (∀ j, 0 ≤ disN px py (W + H) Z j ∧ disN px py (W + H) Z j ≤ W + H) := fun j => disN_bd (by omega) j
  have HQ : Hid (∀ j, j < nz → ∃ qx qy : Int, (Z[j]?.getD (0, 0)) = (qx, qy) ∧ (0 ≤ qx ∧ qx ≤ 64) ∧ 0 ≤ qy ∧ qy ≤ 64) := fun j hj => by
    have hm : Z[j]'(by omega) ∈ Z := List.getElem_mem _
    have := hz _ hm
    refine ⟨(Z[j]'(by omega)).1, (Z[j]'(by omega)).2, by rw [List.getElem?_eq_getElem (by omega)]; rfl, ?_⟩
    unfold inP at this
    omega
  have hp2 : (0 ≤ px ∧ px ≤ 64) ∧ 0 ≤ py ∧ py ≤ 64 := by unfold inP at hp; omega
  have HP := Lib.hid hp2
  have HN := Lib.hid hn
  have HR := Lib.hid hR
  obtain ⟨D, hD⟩ : ∃ D : Nat → Int, D = disN px py (W + H) Z := ⟨_, rfl⟩
  have HD0 : Hid (D 0 = W + H) := by rw [hD]; rfl
  have HDS : Hid (∀ j qx qy, (Z[j]?.getD (0, 0)) = (qx, qy) → D (j + 1) = min (D j) (stepD px py qx qy)) := by rw [hD]; intro j qx qy h; show min _ _ = _; rw [h]
  rw [← hD] at HB ⊢
  clear hp hz hn hR hp2 hD
  obtain ⟨am, bm⟩ := km.read; obtain ⟨az', bz'⟩ := kz.read
  have zm := km.lt; have zz := kz.lt
  have km1 : Hid (Blk w Bm #[.int .i64 W, .int .i64 H, .slice a n c] 24) := km
  go_enter Try.func70, Try.ntmps70
  go_wp2
  go_loopw [5, 7, 15] (fun s5 _ s15 wr => ∃ j : Nat, j ≤ nz ∧ s15 = .int .i64 j ∧ s5 = .int .i64 (D j) ∧ Blk wr w.heap.size #[.int .i64 px, .int .i64 py] 83 ∧ Below w.heap.size w wr) (fun _ _ s15 _ => nz - (intOf s15).toNat)
  case atStart => exact ⟨0, Nat.zero_le _, rfl, by rw [HD0.out], by (repeat' (first | (with_reducible assumption) | ((with_reducible refine Blk.new ?_); first | rfl | (simp; done)) | (with_reducible refine Blk.later (by assumption) ?_) | (with_reducible refine Blk.alloc ?_) | (with_reducible refine Blk.drewN ?_) | (with_reducible refine Blk.drew ?_) | (with_reducible refine Blk.other ?_ (by first | omega | (simp; done) | (simp; omega))))), by (repeat' (first | (with_reducible exact Below.refl _ _) | (with_reducible assumption) | (with_reducible refine belowThru ?_ (by assumption)) | (with_reducible refine belowAlloc ?_) | (with_reducible refine Below.setCell ?_ (by first | omega | (simp; done) | (simp; omega)) _) | (with_reducible refine Below.drew ?_) | (with_reducible refine below_drewN ?_ _)))⟩
  case round =>
    obtain ⟨j, hj, rfl, rfl, k0, hB⟩ := hrel
    clear am bm az' bz' km kz
    obtain ⟨a0, b0⟩ := k0.read
    have y0 := k0.lt
    have hdb := HB.out j
    by_cases hlt : j < nz
    · have i9 : (j : Int) < (nz : Int) := by omega
      have i0 : (0 : Int) ≤ (j : Int) := by omega
      obtain ⟨qx, qy, hq, hqb⟩ := HQ.out j hlt
      have HS := Lib.hid (HDS.out j qx qy hq)
      obtain ⟨g, rfl, c0, c1⟩ := HR.out.later hB j (by rw [HN.out]; exact hlt)
      rw [hq] at c0 c1
      have HC := Lib.hid (steps_any px py qx qy HP.out hqb)
      have hsb : 0 ≤ stepD px py qx qy ∧ stepD px py qx qy ≤ 128 := by have := HP.out; unfold stepD; omega
      obtain ⟨u, hu⟩ : ∃ u, D j = u := ⟨_, rfl⟩
      obtain ⟨t, ht⟩ : ∃ t, stepD px py qx qy = t := ⟨_, rfl⟩
      rw [hu] at hdb HS ⊢
      rw [ht] at hsb HS
      rw [show max (px - qx) (qx - px) + max (py - qy) (qy - py) = t from ht] at HC
      clear hq hqb hu ht
      go_wp2_with (go_at_call 71; (with_reducible refine (HC.out _).mono ?_); rintro e w5 ⟨rfl, hb⟩; (try (have zk := k0.lt; (first | ((with_reducible refine Blk.keepG hb k0 (fun h => ?_) ?_); (focus ((repeat' (first | (with_reducible assumption) | ((with_reducible refine Blk.new ?_); first | rfl | (simp; done)) | (with_reducible refine Blk.later (by assumption) ?_) | (with_reducible refine Blk.alloc ?_) | (with_reducible refine Blk.drewN ?_) | (with_reducible refine Blk.drew ?_) | (with_reducible refine Blk.other ?_ (by first | omega | (simp; done) | (simp; omega))))); done)); clear k0; intro k0) | (with_reducible replace k0 := Blk.later hb (Blk.set (Blk.set k0))) | (with_reducible replace k0 := Blk.later hb (Blk.set k0))); clear a0 b0; obtain ⟨a0, b0⟩ := k0.read; have zl := k0.lt)))
      all_goals
        go_roundw
        case rel => exact ⟨j + 1, hlt, by go_num, by rw [HS.out]; congr 1; omega, by (repeat' (first | (with_reducible assumption) | ((with_reducible refine Blk.new ?_); first | rfl | (simp; done)) | (with_reducible refine Blk.later (by assumption) ?_) | (with_reducible refine Blk.alloc ?_) | (with_reducible refine Blk.drewN ?_) | (with_reducible refine Blk.drew ?_) | (with_reducible refine Blk.other ?_ (by first | omega | (simp; done) | (simp; omega))))), by (repeat' (first | (with_reducible exact Below.refl _ _) | (with_reducible assumption) | (with_reducible refine belowThru ?_ (by assumption)) | (with_reducible refine belowAlloc ?_) | (with_reducible refine Below.setCell ?_ (by first | omega | (simp; done) | (simp; omega)) _) | (with_reducible refine Below.drew ?_) | (with_reducible refine below_drewN ?_ _)))⟩
        case measure => simp [intOf]; omega
    · have hje : j = nz := by omega
      rw [hje]
      go_wp2
      go_ret
      exact ⟨rfl, by (repeat' (first | (with_reducible exact Below.refl _ _) | (with_reducible assumption) | (with_reducible refine belowThru ?_ (by assumption)) | (with_reducible refine belowAlloc ?_) | (with_reducible refine Below.setCell ?_ (by first | omega | (simp; done) | (simp; omega)) _) | (with_reducible refine Below.drew ?_) | (with_reducible refine below_drewN ?_ _)))⟩
end Go.Proofs.Ytghmjdmiaajbnaa
