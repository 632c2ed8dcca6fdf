/-
  Layer 2: the ways to have values beyond the border, by the code and by the document.
-/
import Derived.Test.YtihefdlolfpbnaaITwin
import Derived.Test.YtihefdlolfpbnaaIRefW
import Derived.MapKept
namespace Go.Proofs.Ytihefdlolfpbnaa
open Go.RowKit Go.Shelf
set_option linter.unusedVariables false
set_option linter.unusedSimpArgs false

/-! ### A map of functions that the call makes -/
theorem insert_run (t k e : TypeId) (ht : Try.prog.underlying t = some (.map k e)) (hk : Try.prog.underlying k = some (.int .u8)) (w : World) (r : Nat) (es : Array MapEntry) (c : Nat) (j : Int) (v : Value) (hb : w.heap[r]? = some (.map es c)) (h1 : Instr.findNow (.int .u8) (.int .u8 j) es.toList 0 = some none) :
    (Instr.mapUpdate t (.map (some r)) (.int .u8 j) v).run Try.prog w = .ok () (w.putObj r (.map (es.push ⟨.int .u8 j, v, c⟩) (c + 1))) := by
  have hq : MapKept.IsKey (.int .u8) (.int .u8 j) := rfl
  simp [Instr.mapUpdate, run_underlying ht, MapKept.run_getObj_map hb, MapKept.run_checkKey hk hq, MapKept.run_findKey hk h1, MapKept.run_setObj_map _ hb, Result.andThen]
  rfl
theorem look_run (t k e : TypeId) (ht : Try.prog.underlying t = some (.map k e)) (hk : Try.prog.underlying k = some (.int .u8)) (w : World) (r : Nat) (es : Array MapEntry) (c : Nat) (j : Int) (i : Nat) (v : Value) (hb : w.heap[r]? = some (.map es c)) (h1 : Instr.findNow (.int .u8) (.int .u8 j) es.toList 0 = some (some (i, v))) :
    (Instr.lookup t (.map (some r)) (.int .u8 j) true).run Try.prog w = .ok (.tuple #[v, .bool true]) w := by
  have hq : MapKept.IsKey (.int .u8) (.int .u8 j) := rfl
  simp [Instr.lookup, run_underlying ht, MapKept.run_getObj_map hb, MapKept.run_checkKey hk hq, MapKept.run_findKey hk h1, Result.andThen]
theorem look_none (t k e : TypeId) (ht : Try.prog.underlying t = some (.map k e)) (hk : Try.prog.underlying k = some (.int .u8)) (w : World) (r : Nat) (es : Array MapEntry) (c : Nat) (j : Int) (z : Value) (hz : (zeroValue e).run Try.prog w = .ok z w) (hb : w.heap[r]? = some (.map es c)) (h1 : Instr.findNow (.int .u8) (.int .u8 j) es.toList 0 = some none) :
    (Instr.lookup t (.map (some r)) (.int .u8 j) true).run Try.prog w = .ok (.tuple #[z, .bool false]) w := by
  have hq : MapKept.IsKey (.int .u8) (.int .u8 j) := rfl
  simp [Instr.lookup, run_underlying ht, MapKept.run_getObj_map hb, MapKept.run_checkKey hk hq, MapKept.run_findKey hk h1, hz, Result.andThen]
/-- The function for a border. -/
def brdF (j : Int) : FuncId := if j = 1 then 108 else if j = 2 then 109 else 110
def brds : Array MapEntry := #[⟨.int .u8 1, .func (.func 108) #[] #[], 0⟩, ⟨.int .u8 2, .func (.func 109) #[] #[], 1⟩, ⟨.int .u8 3, .func (.func 110) #[] #[], 2⟩]
theorem brds_no (j : Int) (h : j ≠ 1 ∧ j ≠ 2 ∧ j ≠ 3) : Instr.findNow (.int .u8) (.int .u8 j) brds.toList 0 = some none := by
  obtain ⟨h1, h2, h3⟩ := h
  have e1 : (j == 1) = false := by simpa using h1
  have e2 : (j == 2) = false := by simpa using h2
  have e3 : (j == 3) = false := by simpa using h3
  simp [Instr.findNow, Instr.sameNow, brds, e1, e2, e3]
theorem below_put {B : Nat} {a w : World} {r : Nat} (o : Obj) (h : Below B a w) (hr : B ≤ r) : Below B a (w.putObj r o) :=
  h.trans ⟨rfl, rfl, rfl, by simp [World.putObj], fun k hk => World.putObj_heap_other (by omega)⟩
set_option maxHeartbeats 1000000 in
theorem borders_any (w : World) :
    Calls Try.prog 62 #[] w fun e w' => ∃ r : Nat, e = .returned (.map (some r)) ∧ w'.heap[r]? = some (.map brds 3) ∧ Below w.heap.size w w' := by
  have ht : Try.prog.underlying 96 = some (.map 5 94) := Try.underlying96
  have hk : Try.prog.underlying 5 = some (.int .u8) := Try.underlying5
  have hmm := @run_makeMap Try.prog
  obtain ⟨w1, hw1⟩ : ∃ w1, w.alloc (.map #[] 0) = w1 := ⟨_, rfl⟩
  have c1 : w1.heap[w.heap.size]? = some (.map #[] 0) := by rw [← hw1]; exact Array.getElem?_push_size
  have B1 : Below w.heap.size w w1 := by rw [← hw1]; exact belowAlloc (Below.refl _ _)
  have lt : w.heap.size < w1.heap.size := by rw [← hw1]; simp
  have i1 := insert_run _ _ _ ht hk w1 w.heap.size _ _ 1 (.func (.func 108) #[] #[]) c1 rfl
  obtain ⟨w2, hw2⟩ : ∃ w2, w1.putObj w.heap.size (.map (#[].push ⟨.int .u8 1, .func (.func 108) #[] #[], 0⟩) (0 + 1)) = w2 := ⟨_, rfl⟩
  rw [hw2] at i1
  have c2 : w2.heap[w.heap.size]? = some (.map (#[].push ⟨.int .u8 1, .func (.func 108) #[] #[], 0⟩) (0 + 1)) := by rw [← hw2]; exact World.putObj_heap_same lt
  have B2 : Below w.heap.size w w2 := by rw [← hw2]; exact below_put _ B1 (Nat.le_refl _)
  have lt2 : w.heap.size < w2.heap.size := by rw [← hw2]; simpa [World.putObj] using lt
  have i2 := insert_run _ _ _ ht hk w2 w.heap.size _ _ 2 (.func (.func 109) #[] #[]) c2 rfl
  obtain ⟨w3, hw3⟩ : ∃ w3, w2.putObj w.heap.size (.map ((#[].push ⟨.int .u8 1, .func (.func 108) #[] #[], 0⟩).push ⟨.int .u8 2, .func (.func 109) #[] #[], 0 + 1⟩) (0 + 1 + 1)) = w3 := ⟨_, rfl⟩
  rw [hw3] at i2
  have c3 : w3.heap[w.heap.size]? = some (.map ((#[].push ⟨.int .u8 1, .func (.func 108) #[] #[], 0⟩).push ⟨.int .u8 2, .func (.func 109) #[] #[], 0 + 1⟩) (0 + 1 + 1)) := by rw [← hw3]; exact World.putObj_heap_same lt2
  have B3 : Below w.heap.size w w3 := by rw [← hw3]; exact below_put _ B2 (Nat.le_refl _)
  have lt3 : w.heap.size < w3.heap.size := by rw [← hw3]; simpa [World.putObj] using lt2
  have i3 := insert_run _ _ _ ht hk w3 w.heap.size _ _ 3 (.func (.func 110) #[] #[]) c3 rfl
  obtain ⟨w4, hw4⟩ : ∃ w4, w3.putObj w.heap.size (.map brds 3) = w4 := ⟨_, rfl⟩
  have i4 : (Instr.mapUpdate 96 (.map (some w.heap.size)) (.int .u8 3) (.func (.func 110) #[] #[])).run Try.prog w3 = .ok () w4 := by rw [← hw4]; exact i3
  have c4 : w4.heap[w.heap.size]? = some (.map brds 3) := by rw [← hw4]; exact World.putObj_heap_same lt3
  have B4 : Below w.heap.size w w4 := by rw [← hw4]; exact below_put _ B3 (Nat.le_refl _)
  have C4 := Lib.hid c4
  have HB4 := Lib.hid B4
  have hmm' : (Instr.makeMap 96 none).run Try.prog w = .ok (.map (some w.heap.size)) w1 := by rw [← hw1]; exact hmm _ _
  clear c1 c2 c3 c4 B1 B2 B3 B4 hw1 hw2 hw3 hw4 lt lt2 lt3 ht hk hmm i3
  go_enter Try.func62, Try.ntmps62
  go_wp2
  go_ret
  exact ⟨_, rfl, C4.out, HB4.out⟩

/-! ### The three ways, by the code -/
theorem alloc2b (w : World) (c0 : Array Value) (t0 : TypeId) (c1 : Array Value) (t1 : TypeId) :
    ∃ W0, (w.alloc (.cells c0 t0)).alloc (.cells c1 t1) = W0 ∧ Blk W0 w.heap.size c0 t0 ∧ Blk W0 (w.heap.size + 1) c1 t1 ∧ Below w.heap.size w W0 :=
  ⟨_, rfl, Blk.alloc (Blk.new rfl), Blk.new (by simp), by (repeat' (first | (with_reducible exact Below.refl _ _) | (with_reducible assumption) | (with_reducible refine belowThru ?_ (by assumption)) | (with_reducible refine belowAlloc ?_) | (with_reducible refine Below.setCell ?_ (by first | omega | (simp; done) | (simp; omega)) _) | (with_reducible refine Below.drew ?_) | (with_reducible refine below_drewN ?_ _)))⟩
/-- A place beyond the border is brought to the nearest pixel, or around. -/
theorem near_in {n : Int} (h : okS n) (x : Int) : 0 ≤ inR x 0 (n - 1) ∧ inR x 0 (n - 1) < n := by
  unfold inR; obtain ⟨h1, h2⟩ := h; omega
theorem rest_in {n : Int} (h : okS n) (x : Int) : 0 ≤ x % n ∧ x % n < n := by
  obtain ⟨h1, h2⟩ := h
  exact ⟨Int.emod_nonneg x (by omega), Int.emod_lt_of_pos x (by omega)⟩
set_option maxHeartbeats 1000000 in
theorem orZero_any (W H x y : Int) (a : Option Addr) (n c : Nat) (zs : List Int) (hI : okI W H zs) (w : World) (hR : Row w a n (iv zs)) :
    Calls Try.prog 108 #[.agg #[.int .i64 W, .int .i64 H, .slice a n c], .agg #[.int .i64 x, .int .i64 y]] w fun e w' => e = .returned (.int .i64 (if inP W H x y then pixAt W zs x y else 0)) ∧ Below w.heap.size w w' := by
  have HR := Lib.hid hR
  by_cases hp : inP W H x y
  · rw [if_pos hp]
    have dp : decide (inP W H x y) = true := decide_eq_true hp
    have HA := Lib.hid (at_z W H x y a n c zs hI hp)
    clear hp hR hI
    go_enter Try.func108, Try.ntmps108
    go_wp2_with (first
      | (go_at_call 84; (with_reducible refine (has_any _ _ _ _ _ _ _ _).mono ?_); rintro e w1 ⟨rfl, hb⟩; (first | ((with_reducible have k0 := Blk.later hb (Blk.alloc (Blk.new rfl))); (with_reducible have k1 := Blk.later hb (Blk.new rfl)); simp only [World.size_alloc] at k1; obtain ⟨a0, b0⟩ := k0.read; have zl := k0.lt; obtain ⟨a1, b1⟩ := k1.read; have zl := k1.lt) | ((try (have zk := k0.lt; (first | ((with_reducible refine Blk.keepG hb k0 (fun h => ?_) ?_); (focus ((repeat' (first | (with_reducible assumption) | ((with_reducible refine Blk.new ?_); first | rfl | (simp; done)) | (with_reducible refine Blk.later (by assumption) ?_) | (with_reducible refine Blk.alloc ?_) | (with_reducible refine Blk.drewN ?_) | (with_reducible refine Blk.drew ?_) | (with_reducible refine Blk.other ?_ (by first | omega | (simp; done) | (simp; omega))))); done)); clear k0; intro k0) | (with_reducible replace k0 := Blk.later hb (Blk.set (Blk.set k0))) | (with_reducible replace k0 := Blk.later hb (Blk.set k0))); clear a0 b0; obtain ⟨a0, b0⟩ := k0.read; have zl := k0.lt)); (try (have zk := k1.lt; (first | ((with_reducible refine Blk.keepG hb k1 (fun h => ?_) ?_); (focus ((repeat' (first | (with_reducible assumption) | ((with_reducible refine Blk.new ?_); first | rfl | (simp; done)) | (with_reducible refine Blk.later (by assumption) ?_) | (with_reducible refine Blk.alloc ?_) | (with_reducible refine Blk.drewN ?_) | (with_reducible refine Blk.drew ?_) | (with_reducible refine Blk.other ?_ (by first | omega | (simp; done) | (simp; omega))))); done)); clear k1; intro k1) | (with_reducible replace k1 := Blk.later hb (Blk.set (Blk.set k1))) | (with_reducible replace k1 := Blk.later hb (Blk.set k1))); clear a1 b1; obtain ⟨a1, b1⟩ := k1.read; have zl := k1.lt)))))
      | (go_at_call 58; (with_reducible refine (HA.out _ (HR.out.later (by (repeat' (first | (with_reducible exact Below.refl _ _) | (with_reducible assumption) | (with_reducible refine belowThru ?_ (by assumption)) | (with_reducible refine belowAlloc ?_) | (with_reducible refine Below.setCell ?_ (by first | omega | (simp; done) | (simp; omega)) _) | (with_reducible refine Below.drew ?_) | (with_reducible refine below_drewN ?_ _)))))).mono ?_); rintro e w1 ⟨rfl, hb⟩; (try (have zk := k0.lt; (first | ((with_reducible refine Blk.keepG hb k0 (fun h => ?_) ?_); (focus ((repeat' (first | (with_reducible assumption) | ((with_reducible refine Blk.new ?_); first | rfl | (simp; done)) | (with_reducible refine Blk.later (by assumption) ?_) | (with_reducible refine Blk.alloc ?_) | (with_reducible refine Blk.drewN ?_) | (with_reducible refine Blk.drew ?_) | (with_reducible refine Blk.other ?_ (by first | omega | (simp; done) | (simp; omega))))); done)); clear k0; intro k0) | (with_reducible replace k0 := Blk.later hb (Blk.set (Blk.set k0))) | (with_reducible replace k0 := Blk.later hb (Blk.set k0))); clear a0 b0; obtain ⟨a0, b0⟩ := k0.read; have zl := k0.lt)); (try (have zk := k1.lt; (first | ((with_reducible refine Blk.keepG hb k1 (fun h => ?_) ?_); (focus ((repeat' (first | (with_reducible assumption) | ((with_reducible refine Blk.new ?_); first | rfl | (simp; done)) | (with_reducible refine Blk.later (by assumption) ?_) | (with_reducible refine Blk.alloc ?_) | (with_reducible refine Blk.drewN ?_) | (with_reducible refine Blk.drew ?_) | (with_reducible refine Blk.other ?_ (by first | omega | (simp; done) | (simp; omega))))); done)); clear k1; intro k1) | (with_reducible replace k1 := Blk.later hb (Blk.set (Blk.set k1))) | (with_reducible replace k1 := Blk.later hb (Blk.set k1))); clear a1 b1; obtain ⟨a1, b1⟩ := k1.read; have zl := k1.lt))))
    go_ret
    exact ⟨rfl, by (repeat' (first | (with_reducible exact Below.refl _ _) | (with_reducible assumption) | (with_reducible refine belowThru ?_ (by assumption)) | (with_reducible refine belowAlloc ?_) | (with_reducible refine Below.setCell ?_ (by first | omega | (simp; done) | (simp; omega)) _) | (with_reducible refine Below.drew ?_) | (with_reducible refine below_drewN ?_ _)))⟩
  · rw [if_neg hp]
    have dp : decide (inP W H x y) = false := decide_eq_false hp
    clear hp hR hI
    go_enter Try.func108, Try.ntmps108
    go_wp2_with (go_at_call 84; (with_reducible refine (has_any _ _ _ _ _ _ _ _).mono ?_); rintro e w1 ⟨rfl, hb⟩; (first | ((with_reducible have k0 := Blk.later hb (Blk.alloc (Blk.new rfl))); (with_reducible have k1 := Blk.later hb (Blk.new rfl)); simp only [World.size_alloc] at k1; obtain ⟨a0, b0⟩ := k0.read; have zl := k0.lt; obtain ⟨a1, b1⟩ := k1.read; have zl := k1.lt) | ((try (have zk := k0.lt; (first | ((with_reducible refine Blk.keepG hb k0 (fun h => ?_) ?_); (focus ((repeat' (first | (with_reducible assumption) | ((with_reducible refine Blk.new ?_); first | rfl | (simp; done)) | (with_reducible refine Blk.later (by assumption) ?_) | (with_reducible refine Blk.alloc ?_) | (with_reducible refine Blk.drewN ?_) | (with_reducible refine Blk.drew ?_) | (with_reducible refine Blk.other ?_ (by first | omega | (simp; done) | (simp; omega))))); done)); clear k0; intro k0) | (with_reducible replace k0 := Blk.later hb (Blk.set (Blk.set k0))) | (with_reducible replace k0 := Blk.later hb (Blk.set k0))); clear a0 b0; obtain ⟨a0, b0⟩ := k0.read; have zl := k0.lt)); (try (have zk := k1.lt; (first | ((with_reducible refine Blk.keepG hb k1 (fun h => ?_) ?_); (focus ((repeat' (first | (with_reducible assumption) | ((with_reducible refine Blk.new ?_); first | rfl | (simp; done)) | (with_reducible refine Blk.later (by assumption) ?_) | (with_reducible refine Blk.alloc ?_) | (with_reducible refine Blk.drewN ?_) | (with_reducible refine Blk.drew ?_) | (with_reducible refine Blk.other ?_ (by first | omega | (simp; done) | (simp; omega))))); done)); clear k1; intro k1) | (with_reducible replace k1 := Blk.later hb (Blk.set (Blk.set k1))) | (with_reducible replace k1 := Blk.later hb (Blk.set k1))); clear a1 b1; obtain ⟨a1, b1⟩ := k1.read; have zl := k1.lt)))))
    go_ret
    exact ⟨rfl, by (repeat' (first | (with_reducible exact Below.refl _ _) | (with_reducible assumption) | (with_reducible refine belowThru ?_ (by assumption)) | (with_reducible refine belowAlloc ?_) | (with_reducible refine Below.setCell ?_ (by first | omega | (simp; done) | (simp; omega)) _) | (with_reducible refine Below.drew ?_) | (with_reducible refine below_drewN ?_ _)))⟩
set_option maxRecDepth 100000 in
set_option maxHeartbeats 400000 in
theorem nearest_any (W H x y : Int) (a : Option Addr) (n c : Nat) (zs : List Int) (hI : okI W H zs) (w : World) (hR : Row w a n (iv zs)) :
    Calls Try.prog 109 #[.agg #[.int .i64 W, .int .i64 H, .slice a n c], .agg #[.int .i64 x, .int .i64 y]] w fun e w' => e = .returned (.int .i64 (pixAt W zs (inR x 0 (W - 1)) (inR y 0 (H - 1)))) ∧ Below w.heap.size w w' := by
  have HR := Lib.hid hR
  have hx := near_in hI.1.1 x
  have hy := near_in hI.1.2 y
  have HA := Lib.hid (at_z W H _ _ a n c zs hI ⟨hx, hy⟩)
  obtain ⟨⟨⟨w0, w1⟩, h0, h1⟩, -⟩ := hI
  have v1 : IntKind.i64.wrap (W - 1) = W - 1 := IntWalk.i64_in _ (by omega)
  have v2 : IntKind.i64.wrap (H - 1) = H - 1 := IntWalk.i64_in _ (by omega)
  clear hR hx hy
  go_enter Try.func109, Try.ntmps109
  go_upto_region 1 with fail
  obtain ⟨W0, hW0, k0, k1, hB⟩ := alloc2b w #[.int .i64 W, .int .i64 H, .slice a n c] 89 #[.int .i64 x, .int .i64 y] 86
  rw [hW0]
  clear hW0
  obtain ⟨a0, b0⟩ := k0.read; obtain ⟨a1, b1⟩ := k1.read
  refine wp_region_still_tail 14 (by kernel_rfl) (by kernel_rfl) ?_
  simp only [List.take_succ_cons, List.take_zero, List.drop_succ_cons, List.drop_zero]
  repeat still_step
  still_call ((bring_any x 0 (W - 1) _).mono fun e w1 h => ⟨h.1, h.2.symm⟩)
  repeat still_step
  still_call ((bring_any y 0 (H - 1) _).mono fun e w1 h => ⟨h.1, h.2.symm⟩)
  repeat still_step
  refine wpStill_nil ?_
  go_wp2_with (go_at_call 58; (with_reducible refine (HA.out _ (HR.out.later (by (repeat' (first | (with_reducible exact Below.refl _ _) | (with_reducible assumption) | (with_reducible refine belowThru ?_ (by assumption)) | (with_reducible refine belowAlloc ?_) | (with_reducible refine Below.setCell ?_ (by first | omega | (simp; done) | (simp; omega)) _) | (with_reducible refine Below.drew ?_) | (with_reducible refine below_drewN ?_ _)))))).mono ?_); rintro e w1 ⟨rfl, hb⟩; (try (have zk := k0.lt; (first | ((with_reducible refine Blk.keepG hb k0 (fun h => ?_) ?_); (focus ((repeat' (first | (with_reducible assumption) | ((with_reducible refine Blk.new ?_); first | rfl | (simp; done)) | (with_reducible refine Blk.later (by assumption) ?_) | (with_reducible refine Blk.alloc ?_) | (with_reducible refine Blk.drewN ?_) | (with_reducible refine Blk.drew ?_) | (with_reducible refine Blk.other ?_ (by first | omega | (simp; done) | (simp; omega))))); done)); clear k0; intro k0) | (with_reducible replace k0 := Blk.later hb (Blk.set (Blk.set k0))) | (with_reducible replace k0 := Blk.later hb (Blk.set k0))); clear a0 b0; obtain ⟨a0, b0⟩ := k0.read; have zl := k0.lt)); (try (have zk := k1.lt; (first | ((with_reducible refine Blk.keepG hb k1 (fun h => ?_) ?_); (focus ((repeat' (first | (with_reducible assumption) | ((with_reducible refine Blk.new ?_); first | rfl | (simp; done)) | (with_reducible refine Blk.later (by assumption) ?_) | (with_reducible refine Blk.alloc ?_) | (with_reducible refine Blk.drewN ?_) | (with_reducible refine Blk.drew ?_) | (with_reducible refine Blk.other ?_ (by first | omega | (simp; done) | (simp; omega))))); done)); clear k1; intro k1) | (with_reducible replace k1 := Blk.later hb (Blk.set (Blk.set k1))) | (with_reducible replace k1 := Blk.later hb (Blk.set k1))); clear a1 b1; obtain ⟨a1, b1⟩ := k1.read; have zl := k1.lt)))
  go_ret
  exact ⟨rfl, by (repeat' (first | (with_reducible exact Below.refl _ _) | (with_reducible assumption) | (with_reducible refine belowThru ?_ (by assumption)) | (with_reducible refine belowAlloc ?_) | (with_reducible refine Below.setCell ?_ (by first | omega | (simp; done) | (simp; omega)) _) | (with_reducible refine Below.drew ?_) | (with_reducible refine below_drewN ?_ _)))⟩
set_option maxRecDepth 100000 in
set_option maxHeartbeats 1000000 in
theorem wrapped_any (W H x y : Int) (a : Option Addr) (n c : Nat) (zs : List Int) (hI : okI W H zs) (x0 : -64 ≤ x) (x1 : x ≤ 64) (y0 : -64 ≤ y) (y1 : y ≤ 64) (w : World) (hR : Row w a n (iv zs)) :
    Calls Try.prog 110 #[.agg #[.int .i64 W, .int .i64 H, .slice a n c], .agg #[.int .i64 x, .int .i64 y]] w fun e w' => e = .returned (.int .i64 (pixAt W zs (x % W) (y % H))) ∧ Below w.heap.size w w' := by
  have HR := Lib.hid hR
  have hx := rest_in hI.1.1 x
  have hy := rest_in hI.1.2 y
  have HA := Lib.hid (at_z W H _ _ a n c zs hI ⟨hx, hy⟩)
  obtain ⟨⟨⟨w0, w1⟩, h0, h1⟩, -⟩ := hI
  have ex := Int.mul_ediv_add_emod x W
  have ey := Int.mul_ediv_add_emod y H
  obtain ⟨P, hP⟩ : ∃ P, W * (x / W) = P := ⟨_, rfl⟩
  obtain ⟨Q, hQ⟩ : ∃ Q, H * (y / H) = Q := ⟨_, rfl⟩
  rw [hP] at ex; rw [hQ] at ey
  have vP : IntKind.i64.wrap (W * (x / W)) = P := by rw [hP]; exact IntWalk.i64_in _ (by omega)
  have vQ : IntKind.i64.wrap (H * (y / H)) = Q := by rw [hQ]; exact IntWalk.i64_in _ (by omega)
  have vX : IntKind.i64.wrap (x - P) = x % W := by rw [show x - P = x % W by omega]; exact IntWalk.i64_in _ (by omega)
  have vY : IntKind.i64.wrap (y - Q) = y % H := by rw [show y - Q = y % H by omega]; exact IntWalk.i64_in _ (by omega)
  clear hR hx hy hP hQ ex ey
  go_enter Try.func110, Try.ntmps110
  go_upto_region 1 with fail
  obtain ⟨W0, hW0, k0, k1, hB⟩ := alloc2b w #[.int .i64 W, .int .i64 H, .slice a n c] 89 #[.int .i64 x, .int .i64 y] 86
  rw [hW0]
  clear hW0
  obtain ⟨a0, b0⟩ := k0.read; obtain ⟨a1, b1⟩ := k1.read
  refine wp_region_still_tail 24 (by kernel_rfl) (by kernel_rfl) ?_
  simp only [List.take_succ_cons, List.take_zero, List.drop_succ_cons, List.drop_zero]
  repeat still_step
  still_call ((quotient_any x W (by omega) (by omega) (by omega) (by omega) _).mono fun e w1 h => ⟨h.1, h.2.symm⟩)
  repeat still_step
  still_call ((quotient_any y H (by omega) (by omega) (by omega) (by omega) _).mono fun e w1 h => ⟨h.1, h.2.symm⟩)
  repeat still_step
  refine wpStill_nil ?_
  go_wp2_with (go_at_call 58; (with_reducible refine (HA.out _ (HR.out.later (by (repeat' (first | (with_reducible exact Below.refl _ _) | (with_reducible assumption) | (with_reducible refine belowThru ?_ (by assumption)) | (with_reducible refine belowAlloc ?_) | (with_reducible refine Below.setCell ?_ (by first | omega | (simp; done) | (simp; omega)) _) | (with_reducible refine Below.drew ?_) | (with_reducible refine below_drewN ?_ _)))))).mono ?_); rintro e w1 ⟨rfl, hb⟩; (try (have zk := k0.lt; (first | ((with_reducible refine Blk.keepG hb k0 (fun h => ?_) ?_); (focus ((repeat' (first | (with_reducible assumption) | ((with_reducible refine Blk.new ?_); first | rfl | (simp; done)) | (with_reducible refine Blk.later (by assumption) ?_) | (with_reducible refine Blk.alloc ?_) | (with_reducible refine Blk.drewN ?_) | (with_reducible refine Blk.drew ?_) | (with_reducible refine Blk.other ?_ (by first | omega | (simp; done) | (simp; omega))))); done)); clear k0; intro k0) | (with_reducible replace k0 := Blk.later hb (Blk.set (Blk.set k0))) | (with_reducible replace k0 := Blk.later hb (Blk.set k0))); clear a0 b0; obtain ⟨a0, b0⟩ := k0.read; have zl := k0.lt)); (try (have zk := k1.lt; (first | ((with_reducible refine Blk.keepG hb k1 (fun h => ?_) ?_); (focus ((repeat' (first | (with_reducible assumption) | ((with_reducible refine Blk.new ?_); first | rfl | (simp; done)) | (with_reducible refine Blk.later (by assumption) ?_) | (with_reducible refine Blk.alloc ?_) | (with_reducible refine Blk.drewN ?_) | (with_reducible refine Blk.drew ?_) | (with_reducible refine Blk.other ?_ (by first | omega | (simp; done) | (simp; omega))))); done)); clear k1; intro k1) | (with_reducible replace k1 := Blk.later hb (Blk.set (Blk.set k1))) | (with_reducible replace k1 := Blk.later hb (Blk.set k1))); clear a1 b1; obtain ⟨a1, b1⟩ := k1.read; have zl := k1.lt)))
  go_ret
  exact ⟨rfl, by (repeat' (first | (with_reducible exact Below.refl _ _) | (with_reducible assumption) | (with_reducible refine belowThru ?_ (by assumption)) | (with_reducible refine belowAlloc ?_) | (with_reducible refine Below.setCell ?_ (by first | omega | (simp; done) | (simp; omega)) _) | (with_reducible refine Below.drew ?_) | (with_reducible refine below_drewN ?_ _)))⟩
/-- A value beyond the border. -/
def bey (j W H : Int) (zs : List Int) (x y : Int) : Int :=
  if inP W H x y then pixAt W zs x y else if j = 1 then 0 else if j = 2 then pixAt W zs (inR x 0 (W - 1)) (inR y 0 (H - 1)) else pixAt W zs (x % W) (y % H)
theorem bey_any (j W H x y : Int) (hj : j = 1 ∨ j = 2 ∨ j = 3) (a : Option Addr) (n c : Nat) (zs : List Int) (hI : okI W H zs) (x0 : -64 ≤ x) (x1 : x ≤ 64) (y0 : -64 ≤ y) (y1 : y ≤ 64) (w : World) (hR : Row w a n (iv zs)) :
    Calls Try.prog (brdF j) #[.agg #[.int .i64 W, .int .i64 H, .slice a n c], .agg #[.int .i64 x, .int .i64 y]] w fun e w' => e = .returned (.int .i64 (bey j W H zs x y)) ∧ Below w.heap.size w w' := by
  have hb : ∀ v, v = bey j W H zs x y → ∀ e (w' : World), (e = Ending.returned (.int .i64 v) ∧ Below w.heap.size w w') → (e = Ending.returned (.int .i64 (bey j W H zs x y)) ∧ Below w.heap.size w w') := fun v hv e w' h => by rw [← hv]; exact h
  rcases hj with rfl | rfl | rfl
  · exact (orZero_any W H x y a n c zs hI w hR).mono (hb _ (by unfold bey; simp))
  · refine (nearest_any W H x y a n c zs hI w hR).mono (hb _ ?_)
    unfold bey
    by_cases hp : inP W H x y
    · rw [if_pos hp]
      obtain ⟨⟨h1, h2⟩, h3, h4⟩ := hp
      rw [show inR x 0 (W - 1) = x by unfold inR; omega, show inR y 0 (H - 1) = y by unfold inR; omega]
    · rw [if_neg hp]; simp
  · refine (wrapped_any W H x y a n c zs hI x0 x1 y0 y1 w hR).mono (hb _ ?_)
    unfold bey
    by_cases hp : inP W H x y
    · rw [if_pos hp]
      obtain ⟨⟨h1, h2⟩, h3, h4⟩ := hp
      rw [Int.emod_eq_of_lt h1 h2, Int.emod_eq_of_lt h3 h4]
    · rw [if_neg hp]; simp

/-! ### The document's own -/
set_option maxHeartbeats 400000 in
theorem into2_any (n lo hi : Int) (w : World) :
    Calls Try.prog 88 #[.int .i64 n, .int .i64 lo, .int .i64 hi] w fun e w' => e = .returned (.int .i64 (inR n lo hi)) ∧ w = w' := by
  go_enter Try.func88, Try.ntmps88
  go_wp2
  all_goals
    go_ret
    exact ⟨ret_int (by unfold inR; omega), rfl⟩
set_option maxHeartbeats 400000 in
theorem rest_any (x n : Int) (h : okS n) (x0 : -64 ≤ x) (x1 : x ≤ 64) (w : World) :
    Calls Try.prog 121 #[.int .i64 x, .int .i64 n] w fun e w' => e = .returned (.int .i64 (x % n)) ∧ w = w' := by
  obtain ⟨h0, h1⟩ := h
  have hz : ¬ n = 0 := by omega
  have hb : -64 ≤ x.tmod n ∧ x.tmod n ≤ 64 ∧ -n < x.tmod n := by
    have e : x.tmod n = -((-x).tmod n) := by rw [Int.neg_tmod, Int.neg_neg]
    have q1 := Int.tmod_lt_of_pos x (show 0 < n by omega)
    have q2 := Int.tmod_lt_of_pos (-x) (show 0 < n by omega)
    omega
  have he : (x.tmod n + n).tmod n = x % n := by
    rw [Int.tmod_eq_emod_of_nonneg (by omega), Int.add_emod_right]
    have := Int.mul_tdiv_add_tmod x n
    conv => rhs; rw [← this]
    rw [Int.mul_add_emod_self_left]
  have HE : Hid ((wrap64 (x.tmod n + n)).tmod n = x % n) := by
    show _ = _
    rw [show wrap64 (x.tmod n + n) = x.tmod n + n by unfold wrap64; omega, he]
  clear he hb
  go_enter Try.func121, Try.ntmps121
  go_wp2
  go_ret
  exact ⟨ret_int HE.out, rfl⟩
set_option maxRecDepth 100000 in
set_option maxHeartbeats 600000 in
theorem beyond_any (j W H x y : Int) (hj : j = 1 ∨ j = 2 ∨ j = 3) (a : Option Addr) (n c : Nat) (zs : List Int) (hI : okI W H zs) (x0 : -64 ≤ x) (x1 : x ≤ 64) (y0 : -64 ≤ y) (y1 : y ≤ 64) (w : World) (hR : Row w a n (iv zs)) :
    Calls Try.prog 116 #[.agg #[.int .i64 W, .int .i64 H, .slice a n c], .int .u8 j, .int .i64 x, .int .i64 y] w fun e w' => e = .returned (.int .i64 (bey j W H zs x y)) ∧ Below w.heap.size w w' := by
  have HR := Lib.hid hR
  have HW := Lib.hid hI.1
  by_cases hp : inP W H x y
  · have he : bey j W H zs x y = pixAt W zs x y := if_pos hp
    rw [he]
    have dp : decide (inP W H x y) = true := decide_eq_true hp
    have HA := Lib.hid (rat_z W H x y a n c zs hI hp)
    clear hp hR hI he hj
    go_enter Try.func116, Try.ntmps116
    go_wp2_with (first
      | (go_at_call 120; (with_reducible refine (inside_any _ _ _ _ HW.out.1 HW.out.2 _ _ _ _).mono ?_); rintro e w1 ⟨rfl, hb⟩; (first | ((with_reducible have k0 := Blk.later hb (Blk.new rfl)); skip; obtain ⟨a0, b0⟩ := k0.read; have zl := k0.lt) | ((try (have zk := k0.lt; (first | ((with_reducible refine Blk.keepG hb k0 (fun h => ?_) ?_); (focus ((repeat' (first | (with_reducible assumption) | ((with_reducible refine Blk.new ?_); first | rfl | (simp; done)) | (with_reducible refine Blk.later (by assumption) ?_) | (with_reducible refine Blk.alloc ?_) | (with_reducible refine Blk.drewN ?_) | (with_reducible refine Blk.drew ?_) | (with_reducible refine Blk.other ?_ (by first | omega | (simp; done) | (simp; omega))))); done)); clear k0; intro k0) | (with_reducible replace k0 := Blk.later hb (Blk.set (Blk.set k0))) | (with_reducible replace k0 := Blk.later hb (Blk.set k0))); clear a0 b0; obtain ⟨a0, b0⟩ := k0.read; have zl := k0.lt)))))
      | (go_at_call 117; (with_reducible refine (HA.out _ (HR.out.later (by (repeat' (first | (with_reducible exact Below.refl _ _) | (with_reducible assumption) | (with_reducible refine belowThru ?_ (by assumption)) | (with_reducible refine belowAlloc ?_) | (with_reducible refine Below.setCell ?_ (by first | omega | (simp; done) | (simp; omega)) _) | (with_reducible refine Below.drew ?_) | (with_reducible refine below_drewN ?_ _)))))).mono ?_); rintro e w1 ⟨rfl, hb⟩; (try (have zk := k0.lt; (first | ((with_reducible refine Blk.keepG hb k0 (fun h => ?_) ?_); (focus ((repeat' (first | (with_reducible assumption) | ((with_reducible refine Blk.new ?_); first | rfl | (simp; done)) | (with_reducible refine Blk.later (by assumption) ?_) | (with_reducible refine Blk.alloc ?_) | (with_reducible refine Blk.drewN ?_) | (with_reducible refine Blk.drew ?_) | (with_reducible refine Blk.other ?_ (by first | omega | (simp; done) | (simp; omega))))); done)); clear k0; intro k0) | (with_reducible replace k0 := Blk.later hb (Blk.set (Blk.set k0))) | (with_reducible replace k0 := Blk.later hb (Blk.set k0))); clear a0 b0; obtain ⟨a0, b0⟩ := k0.read; have zl := k0.lt))))
    go_ret
    exact ⟨rfl, by (repeat' (first | (with_reducible exact Below.refl _ _) | (with_reducible assumption) | (with_reducible refine belowThru ?_ (by assumption)) | (with_reducible refine belowAlloc ?_) | (with_reducible refine Below.setCell ?_ (by first | omega | (simp; done) | (simp; omega)) _) | (with_reducible refine Below.drew ?_) | (with_reducible refine below_drewN ?_ _)))⟩
  · have dp : decide (inP W H x y) = false := decide_eq_false hp
    rcases hj with rfl | rfl | rfl
    · have he : bey 1 W H zs x y = 0 := by unfold bey; rw [if_neg hp, if_pos rfl]
      rw [he]
      clear hp hR hI he
      go_enter Try.func116, Try.ntmps116
      go_wp2_with (go_at_call 120; (with_reducible refine (inside_any _ _ _ _ HW.out.1 HW.out.2 _ _ _ _).mono ?_); rintro e w1 ⟨rfl, hb⟩; (first | ((with_reducible have k0 := Blk.later hb (Blk.new rfl)); skip; obtain ⟨a0, b0⟩ := k0.read; have zl := k0.lt) | ((try (have zk := k0.lt; (first | ((with_reducible refine Blk.keepG hb k0 (fun h => ?_) ?_); (focus ((repeat' (first | (with_reducible assumption) | ((with_reducible refine Blk.new ?_); first | rfl | (simp; done)) | (with_reducible refine Blk.later (by assumption) ?_) | (with_reducible refine Blk.alloc ?_) | (with_reducible refine Blk.drewN ?_) | (with_reducible refine Blk.drew ?_) | (with_reducible refine Blk.other ?_ (by first | omega | (simp; done) | (simp; omega))))); done)); clear k0; intro k0) | (with_reducible replace k0 := Blk.later hb (Blk.set (Blk.set k0))) | (with_reducible replace k0 := Blk.later hb (Blk.set k0))); clear a0 b0; obtain ⟨a0, b0⟩ := k0.read; have zl := k0.lt)))))
      go_ret
      exact ⟨rfl, by (repeat' (first | (with_reducible exact Below.refl _ _) | (with_reducible assumption) | (with_reducible refine belowThru ?_ (by assumption)) | (with_reducible refine belowAlloc ?_) | (with_reducible refine Below.setCell ?_ (by first | omega | (simp; done) | (simp; omega)) _) | (with_reducible refine Below.drew ?_) | (with_reducible refine below_drewN ?_ _)))⟩
    · have he : bey 2 W H zs x y = pixAt W zs (inR x 0 (W - 1)) (inR y 0 (H - 1)) := by unfold bey; rw [if_neg hp]; simp
      rw [he]
      have HA := Lib.hid (rat_z W H _ _ a n c zs hI ⟨near_in hI.1.1 x, near_in hI.1.2 y⟩)
      obtain ⟨⟨⟨w0, w1⟩, h0, h1⟩, -⟩ := hI
      have v1 : IntKind.i64.wrap (W - 1) = W - 1 := IntWalk.i64_in _ (by omega)
      have v2 : IntKind.i64.wrap (H - 1) = H - 1 := IntWalk.i64_in _ (by omega)
      clear hp hR he
      go_enter Try.func116, Try.ntmps116
      go_upto_region 6 with (go_at_call 120; (with_reducible refine (inside_any _ _ _ _ HW.out.1 HW.out.2 _ _ _ _).mono ?_); rintro e w8 ⟨rfl, hb⟩; (with_reducible have k0 := Blk.later hb (Blk.new rfl)); obtain ⟨a0, b0⟩ := k0.read; have hB : Below w.heap.size w w8 := by (repeat' (first | (with_reducible exact Below.refl _ _) | (with_reducible assumption) | (with_reducible refine belowThru ?_ (by assumption)) | (with_reducible refine belowAlloc ?_) | (with_reducible refine Below.setCell ?_ (by first | omega | (simp; done) | (simp; omega)) _) | (with_reducible refine Below.drew ?_) | (with_reducible refine below_drewN ?_ _))))
      refine wp_region_still_tail 11 (by kernel_rfl) (by kernel_rfl) ?_
      simp only [List.take_succ_cons, List.take_zero, List.drop_succ_cons, List.drop_zero]
      repeat still_step
      still_call ((into2_any x 0 (W - 1) _).mono fun e w1 h => ⟨h.1, h.2.symm⟩)
      repeat still_step
      still_call ((into2_any y 0 (H - 1) _).mono fun e w1 h => ⟨h.1, h.2.symm⟩)
      repeat still_step
      refine wpStill_nil ?_
      go_wp2_with (go_at_call 117; (with_reducible refine (HA.out _ (HR.out.later (by (repeat' (first | (with_reducible exact Below.refl _ _) | (with_reducible assumption) | (with_reducible refine belowThru ?_ (by assumption)) | (with_reducible refine belowAlloc ?_) | (with_reducible refine Below.setCell ?_ (by first | omega | (simp; done) | (simp; omega)) _) | (with_reducible refine Below.drew ?_) | (with_reducible refine below_drewN ?_ _)))))).mono ?_); rintro e w1 ⟨rfl, hb⟩; (try (have zk := k0.lt; (first | ((with_reducible refine Blk.keepG hb k0 (fun h => ?_) ?_); (focus ((repeat' (first | (with_reducible assumption) | ((with_reducible refine Blk.new ?_); first | rfl | (simp; done)) | (with_reducible refine Blk.later (by assumption) ?_) | (with_reducible refine Blk.alloc ?_) | (with_reducible refine Blk.drewN ?_) | (with_reducible refine Blk.drew ?_) | (with_reducible refine Blk.other ?_ (by first | omega | (simp; done) | (simp; omega))))); done)); clear k0; intro k0) | (with_reducible replace k0 := Blk.later hb (Blk.set (Blk.set k0))) | (with_reducible replace k0 := Blk.later hb (Blk.set k0))); clear a0 b0; obtain ⟨a0, b0⟩ := k0.read; have zl := k0.lt)))
      go_ret
      exact ⟨rfl, by (repeat' (first | (with_reducible exact Below.refl _ _) | (with_reducible assumption) | (with_reducible refine belowThru ?_ (by assumption)) | (with_reducible refine belowAlloc ?_) | (with_reducible refine Below.setCell ?_ (by first | omega | (simp; done) | (simp; omega)) _) | (with_reducible refine Below.drew ?_) | (with_reducible refine below_drewN ?_ _)))⟩
    · have he : bey 3 W H zs x y = pixAt W zs (x % W) (y % H) := by unfold bey; rw [if_neg hp]; simp
      rw [he]
      have HA := Lib.hid (rat_z W H _ _ a n c zs hI ⟨rest_in hI.1.1 x, rest_in hI.1.2 y⟩)
      obtain ⟨⟨⟨w0, w1⟩, h0, h1⟩, -⟩ := hI
      clear hp hR he
      go_enter Try.func116, Try.ntmps116
      go_upto_region 7 with (go_at_call 120; (with_reducible refine (inside_any _ _ _ _ HW.out.1 HW.out.2 _ _ _ _).mono ?_); rintro e w8 ⟨rfl, hb⟩; (with_reducible have k0 := Blk.later hb (Blk.new rfl)); obtain ⟨a0, b0⟩ := k0.read; have hB : Below w.heap.size w w8 := by (repeat' (first | (with_reducible exact Below.refl _ _) | (with_reducible assumption) | (with_reducible refine belowThru ?_ (by assumption)) | (with_reducible refine belowAlloc ?_) | (with_reducible refine Below.setCell ?_ (by first | omega | (simp; done) | (simp; omega)) _) | (with_reducible refine Below.drew ?_) | (with_reducible refine below_drewN ?_ _))))
      refine wp_region_still_tail 9 (by kernel_rfl) (by kernel_rfl) ?_
      simp only [List.take_succ_cons, List.take_zero, List.drop_succ_cons, List.drop_zero]
      repeat still_step
      still_call ((rest_any x W ⟨w0, w1⟩ x0 x1 _).mono fun e w1 h => ⟨h.1, h.2.symm⟩)
      repeat still_step
      still_call ((rest_any y H ⟨h0, h1⟩ y0 y1 _).mono fun e w1 h => ⟨h.1, h.2.symm⟩)
      repeat still_step
      refine wpStill_nil ?_
      go_wp2_with (go_at_call 117; (with_reducible refine (HA.out _ (HR.out.later (by (repeat' (first | (with_reducible exact Below.refl _ _) | (with_reducible assumption) | (with_reducible refine belowThru ?_ (by assumption)) | (with_reducible refine belowAlloc ?_) | (with_reducible refine Below.setCell ?_ (by first | omega | (simp; done) | (simp; omega)) _) | (with_reducible refine Below.drew ?_) | (with_reducible refine below_drewN ?_ _)))))).mono ?_); rintro e w1 ⟨rfl, hb⟩; (try (have zk := k0.lt; (first | ((with_reducible refine Blk.keepG hb k0 (fun h => ?_) ?_); (focus ((repeat' (first | (with_reducible assumption) | ((with_reducible refine Blk.new ?_); first | rfl | (simp; done)) | (with_reducible refine Blk.later (by assumption) ?_) | (with_reducible refine Blk.alloc ?_) | (with_reducible refine Blk.drewN ?_) | (with_reducible refine Blk.drew ?_) | (with_reducible refine Blk.other ?_ (by first | omega | (simp; done) | (simp; omega))))); done)); clear k0; intro k0) | (with_reducible replace k0 := Blk.later hb (Blk.set (Blk.set k0))) | (with_reducible replace k0 := Blk.later hb (Blk.set k0))); clear a0 b0; obtain ⟨a0, b0⟩ := k0.read; have zl := k0.lt)))
      go_ret
      exact ⟨rfl, by (repeat' (first | (with_reducible exact Below.refl _ _) | (with_reducible assumption) | (with_reducible refine belowThru ?_ (by assumption)) | (with_reducible refine belowAlloc ?_) | (with_reducible refine Below.setCell ?_ (by first | omega | (simp; done) | (simp; omega)) _) | (with_reducible refine Below.drew ?_) | (with_reducible refine below_drewN ?_ _)))⟩
end Go.Proofs.Ytihefdlolfpbnaa
