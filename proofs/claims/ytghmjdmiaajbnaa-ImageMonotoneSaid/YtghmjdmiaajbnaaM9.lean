/-
  The texts that the laws of this seat share, merged: part 9.
-/
import Derived.BigQuiet
import Derived.Deep.CutRange
import Derived.Deep.DeepCutAuto
import Derived.Deep.Draws
import Derived.Deep.OwnRows
import Derived.Deep.QuietTactic
import Derived.Deep.RegionHeld3
import Derived.Laws.AppendOwn
import Derived.Laws.EntriesVeiled
import Derived.Lib.Hide
import Derived.LoopIn
import Derived.LoopNIn
import Derived.Maps.AppendAt
import Derived.OneCell
import Derived.Orders
import Derived.OwnWalkIn
import Derived.RangeFuncBound
import Derived.RangeFuncCalls
import Derived.RangeFuncLeaves
import Derived.RangeFuncNested
import Derived.Shelf.Abstract
import Derived.Shelf.AbstractIn
import Derived.Shelf.RegionOpen
import Derived.StillTailTactics
import Derived.TacticsInMore
import Derived.Test.YtghmjdmiaajbnaaProg
import Derived.WalkKit
import Derived.WalkSmall
import Derived.WalkSpells
import Derived.Test.YtghmjdmiaajbnaaM1
import Derived.Test.YtghmjdmiaajbnaaM2
import Derived.Test.YtghmjdmiaajbnaaM3
import Derived.Test.YtghmjdmiaajbnaaM7
import Derived.Test.YtghmjdmiaajbnaaM8
/-
  Layer 2: Dilate and Erode, by the code; both sides.
-/
namespace Go.Proofs.Ytghmjdmiaajbnaa
open Go.RowKit
set_option linter.unusedVariables false
set_option linter.unusedSimpArgs false

theorem pixAt_ok {W H : Int} {zs : List Int} (hI : okI W H zs) (x y : Int) : okV (pixAt W zs x y) := by
  unfold pixAt
  cases h : zs[(y * W + x).toNat]? with
  | none => exact ⟨by decide, by decide⟩
  | some z => exact hI.2.2 z (List.mem_of_getElem? h)

def stpD (W H : Int) (zs : List Int) (SW SH : Int) (bs : List Bool) (x y : Int) (p : Int) (k : Nat) : Int :=
  if bs[k]?.getD false = true ∧ inP W H (x - ((k : Int) % SW - SW / 2)) (y - ((k : Int) / SW - SH / 2)) then (if p < pixAt W zs (x - ((k : Int) % SW - SW / 2)) (y - ((k : Int) / SW - SH / 2)) then pixAt W zs (x - ((k : Int) % SW - SW / 2)) (y - ((k : Int) / SW - SH / 2)) else p) else p
theorem exD_fold (W H : Int) (zs : List Int) (SW SH : Int) (bs : List Bool) (x y : Int) (m : Nat) : (List.range m).foldl (stpD W H zs SW SH bs x y) (-2147483648) = exD W H zs SW SH bs x y m := by
  induction m with
  | zero => rfl
  | succ m ih => rw [List.range_succ, List.foldl_append, ih]; rfl
theorem exD_ok {W H : Int} {zs : List Int} (hI : okI W H zs) (SW SH : Int) (bs : List Bool) (x y : Int) (m : Nat) : okV (exD W H zs SW SH bs x y m) := by
  induction m with
  | zero => show okV (-2147483648); exact ⟨by decide, by decide⟩
  | succ k ih =>
    have hp := pixAt_ok hI (x - ((k : Int) % SW - SW / 2)) (y - ((k : Int) / SW - SH / 2))
    unfold exD
    split
    · split
      · exact hp
      · exact ih
    · exact ih
set_option maxHeartbeats 400000 in
theorem dilate1_any (p q : Int) (w : World) : Calls Try.prog 68 #[.int .i64 p, .int .i64 q] w fun e w' => e = .returned (.int .i64 (if p < q then q else p)) ∧ Below w.heap.size w w' := by
  go_enter Try.func68, Try.ntmps68
  go_wp2
  all_goals
    go_ret
    exact ⟨rfl, by (repeat' (first | (with_reducible exact Below.refl _ _) | (with_reducible assumption) | (with_reducible refine belowThru ?_ (by assumption)) | (with_reducible refine belowAlloc ?_) | (with_reducible refine Below.setCell ?_ (by first | omega | (simp; done) | (simp; omega)) _) | (with_reducible refine Below.drew ?_) | (with_reducible refine below_drewN ?_ _)))⟩
set_option maxHeartbeats 2000000 in
theorem dilate_of (W H SW SH W2 H2 E2 : Int) (Z2 : List Int) (a a' : Option Addr) (n c m c' : Nat) (zs : List Int) (bs : List Bool) (w : World) (hR : Row w a n (iv zs)) (hT : Row w a' m (bv bs))
    (HX : Hid (∀ w, Row w a n (iv zs) → Row w a' m (bv bs) → Calls Try.prog 65 #[.agg #[.int .i64 W, .int .i64 H, .slice a n c], .agg #[.int .i64 SW, .int .i64 SH, .slice a' m c'], .func (.func 64) #[] #[], .int .i64 (-2147483648), .func (.func 68) #[] #[]] w (RetI W2 H2 Z2 E2 w))) :
    Calls Try.prog 25 #[.agg #[.int .i64 W, .int .i64 H, .slice a n c], .agg #[.int .i64 SW, .int .i64 SH, .slice a' m c']] w (RetI W2 H2 Z2 E2 w) := by
  have HR := Lib.hid hR
  have HT := Lib.hid hT
  clear hR hT
  go_enter Try.func25, Try.ntmps25
  go_wp2_with fail
  refine (HX.out _ (HR.out.later (by (repeat' (first | (with_reducible exact Below.refl _ _) | (with_reducible assumption) | (with_reducible refine belowThru ?_ (by assumption)) | (with_reducible refine belowAlloc ?_) | (with_reducible refine Below.setCell ?_ (by first | omega | (simp; done) | (simp; omega)) _) | (with_reducible refine Below.drew ?_) | (with_reducible refine below_drewN ?_ _))))) (HT.out.later (by (repeat' (first | (with_reducible exact Below.refl _ _) | (with_reducible assumption) | (with_reducible refine belowThru ?_ (by assumption)) | (with_reducible refine belowAlloc ?_) | (with_reducible refine Below.setCell ?_ (by first | omega | (simp; done) | (simp; omega)) _) | (with_reducible refine Below.drew ?_) | (with_reducible refine below_drewN ?_ _)))))).mono ?_
  rintro e w2 ⟨ax, nx, cx, rfl, hNx, hb⟩
  (first | ((with_reducible have k0 := Blk.later hb (Blk.alloc (Blk.alloc (Blk.new rfl)))); (with_reducible have k1 := Blk.later hb (Blk.alloc (Blk.new rfl))); (with_reducible have k2 := Blk.later hb (Blk.new rfl)); simp only [World.size_alloc] at k1 k2; obtain ⟨a0, b0⟩ := k0.read; have zl := k0.lt; obtain ⟨a1, b1⟩ := k1.read; have zl := k1.lt; obtain ⟨a2, b2⟩ := k2.read; have zl := k2.lt) | ((try (have zk := k0.lt; (first | ((with_reducible refine Blk.keepG hb k0 (fun h => ?_) ?_); (focus ((repeat' (first | (with_reducible assumption) | ((with_reducible refine Blk.new ?_); first | rfl | (simp; done)) | (with_reducible refine Blk.later (by assumption) ?_) | (with_reducible refine Blk.alloc ?_) | (with_reducible refine Blk.drewN ?_) | (with_reducible refine Blk.drew ?_) | (with_reducible refine Blk.other ?_ (by first | omega | (simp; done) | (simp; omega))))); done)); clear k0; intro k0) | (with_reducible replace k0 := Blk.later hb (Blk.set (Blk.set k0))) | (with_reducible replace k0 := Blk.later hb (Blk.set k0))); clear a0 b0; obtain ⟨a0, b0⟩ := k0.read; have zl := k0.lt)); (try (have zk := k1.lt; (first | ((with_reducible refine Blk.keepG hb k1 (fun h => ?_) ?_); (focus ((repeat' (first | (with_reducible assumption) | ((with_reducible refine Blk.new ?_); first | rfl | (simp; done)) | (with_reducible refine Blk.later (by assumption) ?_) | (with_reducible refine Blk.alloc ?_) | (with_reducible refine Blk.drewN ?_) | (with_reducible refine Blk.drew ?_) | (with_reducible refine Blk.other ?_ (by first | omega | (simp; done) | (simp; omega))))); done)); clear k1; intro k1) | (with_reducible replace k1 := Blk.later hb (Blk.set (Blk.set k1))) | (with_reducible replace k1 := Blk.later hb (Blk.set k1))); clear a1 b1; obtain ⟨a1, b1⟩ := k1.read; have zl := k1.lt)); (try (have zk := k2.lt; (first | ((with_reducible refine Blk.keepG hb k2 (fun h => ?_) ?_); (focus ((repeat' (first | (with_reducible assumption) | ((with_reducible refine Blk.new ?_); first | rfl | (simp; done)) | (with_reducible refine Blk.later (by assumption) ?_) | (with_reducible refine Blk.alloc ?_) | (with_reducible refine Blk.drewN ?_) | (with_reducible refine Blk.drew ?_) | (with_reducible refine Blk.other ?_ (by first | omega | (simp; done) | (simp; omega))))); done)); clear k2; intro k2) | (with_reducible replace k2 := Blk.later hb (Blk.set (Blk.set k2))) | (with_reducible replace k2 := Blk.later hb (Blk.set k2))); clear a2 b2; obtain ⟨a2, b2⟩ := k2.read; have zl := k2.lt))))
  have HX2 := Lib.hid (New.mono (B' := w.heap.size) (by first | omega | (simp; omega)) hNx)
  have HBw : Hid (Below w.heap.size w w2) := by show Below _ _ _; (repeat' (first | (with_reducible exact Below.refl _ _) | (with_reducible assumption) | (with_reducible refine belowThru ?_ (by assumption)) | (with_reducible refine belowAlloc ?_) | (with_reducible refine Below.setCell ?_ (by first | omega | (simp; done) | (simp; omega)) _) | (with_reducible refine Below.drew ?_) | (with_reducible refine below_drewN ?_ _)))
  clear hb hNx HX
  go_wp2_with fail
  have hBw := HBw.out
  exact bodyPost_ret (v := .tuple #[.agg #[.int .i64 W2, .int .i64 H2, .slice ax nx cx], .int .i64 E2]) (by simp only [results, Try.results25]; go_simp) rfl ⟨ax, nx, cx, rfl, New.set3 HX2.out k2 (by decide) _ _ _, by (repeat' (first | (with_reducible exact Below.refl _ _) | (with_reducible assumption) | (with_reducible refine belowThru ?_ (by assumption)) | (with_reducible refine belowAlloc ?_) | (with_reducible refine Below.setCell ?_ (by first | omega | (simp; done) | (simp; omega)) _) | (with_reducible refine Below.drew ?_) | (with_reducible refine below_drewN ?_ _)))⟩
def stpE (W H : Int) (zs : List Int) (SW SH : Int) (bs : List Bool) (x y : Int) (p : Int) (k : Nat) : Int :=
  if bs[k]?.getD false = true ∧ inP W H (x + ((k : Int) % SW - SW / 2)) (y + ((k : Int) / SW - SH / 2)) then (if pixAt W zs (x + ((k : Int) % SW - SW / 2)) (y + ((k : Int) / SW - SH / 2)) < p then pixAt W zs (x + ((k : Int) % SW - SW / 2)) (y + ((k : Int) / SW - SH / 2)) else p) else p
theorem exE_fold (W H : Int) (zs : List Int) (SW SH : Int) (bs : List Bool) (x y : Int) (m : Nat) : (List.range m).foldl (stpE W H zs SW SH bs x y) 2147483648 = exE W H zs SW SH bs x y m := by
  induction m with
  | zero => rfl
  | succ m ih => rw [List.range_succ, List.foldl_append, ih]; rfl
theorem exE_ok {W H : Int} {zs : List Int} (hI : okI W H zs) (SW SH : Int) (bs : List Bool) (x y : Int) (m : Nat) : okV (exE W H zs SW SH bs x y m) := by
  induction m with
  | zero => show okV 2147483648; exact ⟨by decide, by decide⟩
  | succ k ih =>
    have hp := pixAt_ok hI (x + ((k : Int) % SW - SW / 2)) (y + ((k : Int) / SW - SH / 2))
    unfold exE
    split
    · split
      · exact hp
      · exact ih
    · exact ih
set_option maxHeartbeats 400000 in
theorem erode1_any (p q : Int) (w : World) : Calls Try.prog 67 #[.int .i64 p, .int .i64 q] w fun e w' => e = .returned (.int .i64 (if q < p then q else p)) ∧ Below w.heap.size w w' := by
  go_enter Try.func67, Try.ntmps67
  go_wp2
  all_goals
    go_ret
    exact ⟨rfl, by (repeat' (first | (with_reducible exact Below.refl _ _) | (with_reducible assumption) | (with_reducible refine belowThru ?_ (by assumption)) | (with_reducible refine belowAlloc ?_) | (with_reducible refine Below.setCell ?_ (by first | omega | (simp; done) | (simp; omega)) _) | (with_reducible refine Below.drew ?_) | (with_reducible refine below_drewN ?_ _)))⟩
set_option maxHeartbeats 2000000 in
theorem erode_of (W H SW SH W2 H2 E2 : Int) (Z2 : List Int) (a a' : Option Addr) (n c m c' : Nat) (zs : List Int) (bs : List Bool) (w : World) (hR : Row w a n (iv zs)) (hT : Row w a' m (bv bs))
    (HX : Hid (∀ w, Row w a n (iv zs) → Row w a' m (bv bs) → Calls Try.prog 65 #[.agg #[.int .i64 W, .int .i64 H, .slice a n c], .agg #[.int .i64 SW, .int .i64 SH, .slice a' m c'], .func (.func 66) #[] #[], .int .i64 2147483648, .func (.func 67) #[] #[]] w (RetI W2 H2 Z2 E2 w))) :
    Calls Try.prog 24 #[.agg #[.int .i64 W, .int .i64 H, .slice a n c], .agg #[.int .i64 SW, .int .i64 SH, .slice a' m c']] w (RetI W2 H2 Z2 E2 w) := by
  have HR := Lib.hid hR
  have HT := Lib.hid hT
  clear hR hT
  go_enter Try.func24, Try.ntmps24
  go_wp2_with fail
  refine (HX.out _ (HR.out.later (by (repeat' (first | (with_reducible exact Below.refl _ _) | (with_reducible assumption) | (with_reducible refine belowThru ?_ (by assumption)) | (with_reducible refine belowAlloc ?_) | (with_reducible refine Below.setCell ?_ (by first | omega | (simp; done) | (simp; omega)) _) | (with_reducible refine Below.drew ?_) | (with_reducible refine below_drewN ?_ _))))) (HT.out.later (by (repeat' (first | (with_reducible exact Below.refl _ _) | (with_reducible assumption) | (with_reducible refine belowThru ?_ (by assumption)) | (with_reducible refine belowAlloc ?_) | (with_reducible refine Below.setCell ?_ (by first | omega | (simp; done) | (simp; omega)) _) | (with_reducible refine Below.drew ?_) | (with_reducible refine below_drewN ?_ _)))))).mono ?_
  rintro e w2 ⟨ax, nx, cx, rfl, hNx, hb⟩
  (first | ((with_reducible have k0 := Blk.later hb (Blk.alloc (Blk.alloc (Blk.new rfl)))); (with_reducible have k1 := Blk.later hb (Blk.alloc (Blk.new rfl))); (with_reducible have k2 := Blk.later hb (Blk.new rfl)); simp only [World.size_alloc] at k1 k2; obtain ⟨a0, b0⟩ := k0.read; have zl := k0.lt; obtain ⟨a1, b1⟩ := k1.read; have zl := k1.lt; obtain ⟨a2, b2⟩ := k2.read; have zl := k2.lt) | ((try (have zk := k0.lt; (first | ((with_reducible refine Blk.keepG hb k0 (fun h => ?_) ?_); (focus ((repeat' (first | (with_reducible assumption) | ((with_reducible refine Blk.new ?_); first | rfl | (simp; done)) | (with_reducible refine Blk.later (by assumption) ?_) | (with_reducible refine Blk.alloc ?_) | (with_reducible refine Blk.drewN ?_) | (with_reducible refine Blk.drew ?_) | (with_reducible refine Blk.other ?_ (by first | omega | (simp; done) | (simp; omega))))); done)); clear k0; intro k0) | (with_reducible replace k0 := Blk.later hb (Blk.set (Blk.set k0))) | (with_reducible replace k0 := Blk.later hb (Blk.set k0))); clear a0 b0; obtain ⟨a0, b0⟩ := k0.read; have zl := k0.lt)); (try (have zk := k1.lt; (first | ((with_reducible refine Blk.keepG hb k1 (fun h => ?_) ?_); (focus ((repeat' (first | (with_reducible assumption) | ((with_reducible refine Blk.new ?_); first | rfl | (simp; done)) | (with_reducible refine Blk.later (by assumption) ?_) | (with_reducible refine Blk.alloc ?_) | (with_reducible refine Blk.drewN ?_) | (with_reducible refine Blk.drew ?_) | (with_reducible refine Blk.other ?_ (by first | omega | (simp; done) | (simp; omega))))); done)); clear k1; intro k1) | (with_reducible replace k1 := Blk.later hb (Blk.set (Blk.set k1))) | (with_reducible replace k1 := Blk.later hb (Blk.set k1))); clear a1 b1; obtain ⟨a1, b1⟩ := k1.read; have zl := k1.lt)); (try (have zk := k2.lt; (first | ((with_reducible refine Blk.keepG hb k2 (fun h => ?_) ?_); (focus ((repeat' (first | (with_reducible assumption) | ((with_reducible refine Blk.new ?_); first | rfl | (simp; done)) | (with_reducible refine Blk.later (by assumption) ?_) | (with_reducible refine Blk.alloc ?_) | (with_reducible refine Blk.drewN ?_) | (with_reducible refine Blk.drew ?_) | (with_reducible refine Blk.other ?_ (by first | omega | (simp; done) | (simp; omega))))); done)); clear k2; intro k2) | (with_reducible replace k2 := Blk.later hb (Blk.set (Blk.set k2))) | (with_reducible replace k2 := Blk.later hb (Blk.set k2))); clear a2 b2; obtain ⟨a2, b2⟩ := k2.read; have zl := k2.lt))))
  have HX2 := Lib.hid (New.mono (B' := w.heap.size) (by first | omega | (simp; omega)) hNx)
  have HBw : Hid (Below w.heap.size w w2) := by show Below _ _ _; (repeat' (first | (with_reducible exact Below.refl _ _) | (with_reducible assumption) | (with_reducible refine belowThru ?_ (by assumption)) | (with_reducible refine belowAlloc ?_) | (with_reducible refine Below.setCell ?_ (by first | omega | (simp; done) | (simp; omega)) _) | (with_reducible refine Below.drew ?_) | (with_reducible refine below_drewN ?_ _)))
  clear hb hNx HX
  go_wp2_with fail
  have hBw := HBw.out
  exact bodyPost_ret (v := .tuple #[.agg #[.int .i64 W2, .int .i64 H2, .slice ax nx cx], .int .i64 E2]) (by simp only [results, Try.results24]; go_simp) rfl ⟨ax, nx, cx, rfl, New.set3 HX2.out k2 (by decide) _ _ _, by (repeat' (first | (with_reducible exact Below.refl _ _) | (with_reducible assumption) | (with_reducible refine belowThru ?_ (by assumption)) | (with_reducible refine belowAlloc ?_) | (with_reducible refine Below.setCell ?_ (by first | omega | (simp; done) | (simp; omega)) _) | (with_reducible refine Below.drew ?_) | (with_reducible refine below_drewN ?_ _)))⟩
end Go.Proofs.Ytghmjdmiaajbnaa
/-
  Layer 2: dilated and eroded images as greatest and least values: the plain mathematics.
-/
namespace Go.Proofs.Ytghmjdmiaajbnaa
open Go.RowKit
set_option linter.unusedVariables false
set_option linter.unusedSimpArgs false

theorem place_of {W H x y : Int} (hW : okS W) (hH : okS H) (h : inP W H x y) : ∃ p : Nat, (p : Int) < W * H ∧ (p : Int) % W = x ∧ (p : Int) / W = y ∧ y * W + x = (p : Int) := by
  obtain ⟨p, e, hlt, -, -⟩ := inP_at hW hH h
  obtain ⟨⟨x0, x1⟩, -, -⟩ := h
  refine ⟨p, hlt, ?_, ?_, e⟩
  · rw [← e, Int.add_comm, Int.add_mul_emod_self_right]; exact Int.emod_eq_of_lt x0 x1
  · rw [← e, Int.add_comm, Int.add_mul_ediv_right _ _ (by omega), Int.ediv_eq_zero_of_lt x0 x1, Int.zero_add]
theorem px_of {W H x y : Int} {zs : List Int} {p : Nat} (e : y * W + x = (p : Int)) : pixAt W zs x y = zs[p]?.getD 0 := by
  unfold pixAt; rw [e]; rfl
/-- What holds of all places holds of all pixels, and the other way round. -/
theorem all_places {W H : Int} {n : Nat} (hW : okS W) (hH : okS H) (hN : W * H = (n : Int)) (P : Int → Int → Prop) : (∀ k : Nat, k < n → P ((k : Int) % W) ((k : Int) / W)) ↔ ∀ x y, inP W H x y → P x y := by
  constructor
  · intro h x y hp
    obtain ⟨p, hlt, e1, e2, -⟩ := place_of hW hH hp
    have := h p (by omega)
    rwa [e1, e2] at this
  · intro h k hk
    exact h _ _ (place_in hW hH hN hk)
theorem exD_le {W H : Int} {zs : List Int} {SW SH : Int} {bs : List Bool} {x y : Int} {v : Int} (m : Nat) :
    exD W H zs SW SH bs x y m ≤ v ↔ -2147483648 ≤ v ∧ ∀ k : Nat, k < m → bs[k]?.getD false = true → inP W H (x - ((k : Int) % SW - SW / 2)) (y - ((k : Int) / SW - SH / 2)) → pixAt W zs (x - ((k : Int) % SW - SW / 2)) (y - ((k : Int) / SW - SH / 2)) ≤ v := by
  induction m with
  | zero => exact ⟨fun h => ⟨h, fun k hk => absurd hk (by omega)⟩, fun h => h.1⟩
  | succ m ih =>
    unfold exD
    have hs : (∀ k : Nat, k < m + 1 → bs[k]?.getD false = true → inP W H (x - ((k : Int) % SW - SW / 2)) (y - ((k : Int) / SW - SH / 2)) → pixAt W zs (x - ((k : Int) % SW - SW / 2)) (y - ((k : Int) / SW - SH / 2)) ≤ v) ↔ (∀ k : Nat, k < m → bs[k]?.getD false = true → inP W H (x - ((k : Int) % SW - SW / 2)) (y - ((k : Int) / SW - SH / 2)) → pixAt W zs (x - ((k : Int) % SW - SW / 2)) (y - ((k : Int) / SW - SH / 2)) ≤ v) ∧ (bs[m]?.getD false = true ∧ inP W H (x - ((m : Int) % SW - SW / 2)) (y - ((m : Int) / SW - SH / 2)) → pixAt W zs (x - ((m : Int) % SW - SW / 2)) (y - ((m : Int) / SW - SH / 2)) ≤ v) := by
      constructor
      · intro h; exact ⟨fun k hk => h k (by omega), fun ⟨a, b⟩ => h m (by omega) a b⟩
      · rintro ⟨h1, h2⟩ k hk a b
        by_cases e : k = m
        · subst e; exact h2 ⟨a, b⟩
        · exact h1 k (by omega) a b
    rw [hs, ← and_assoc, ← ih]
    clear ih hs
    generalize exD W H zs SW SH bs x y m = e
    generalize pixAt W zs (x - ((m : Int) % SW - SW / 2)) (y - ((m : Int) / SW - SH / 2)) = p
    by_cases hc : bs[m]?.getD false = true ∧ inP W H (x - ((m : Int) % SW - SW / 2)) (y - ((m : Int) / SW - SH / 2))
    · rw [if_pos hc]
      by_cases hl : e < p
      · rw [if_pos hl]; exact ⟨fun h => ⟨by omega, fun _ => h⟩, fun h => h.2 hc⟩
      · rw [if_neg hl]; exact ⟨fun h => ⟨h, fun _ => by omega⟩, fun h => h.1⟩
    · rw [if_neg hc]; exact ⟨fun h => ⟨h, fun h2 => absurd h2 hc⟩, fun h => h.1⟩
theorem le_exE {W H : Int} {zs : List Int} {SW SH : Int} {bs : List Bool} {x y : Int} {v : Int} (m : Nat) :
    v ≤ exE W H zs SW SH bs x y m ↔ v ≤ 2147483648 ∧ ∀ k : Nat, k < m → bs[k]?.getD false = true → inP W H (x + ((k : Int) % SW - SW / 2)) (y + ((k : Int) / SW - SH / 2)) → v ≤ pixAt W zs (x + ((k : Int) % SW - SW / 2)) (y + ((k : Int) / SW - SH / 2)) := by
  induction m with
  | zero => exact ⟨fun h => ⟨h, fun k hk => absurd hk (by omega)⟩, fun h => h.1⟩
  | succ m ih =>
    unfold exE
    have hs : (∀ k : Nat, k < m + 1 → bs[k]?.getD false = true → inP W H (x + ((k : Int) % SW - SW / 2)) (y + ((k : Int) / SW - SH / 2)) → v ≤ pixAt W zs (x + ((k : Int) % SW - SW / 2)) (y + ((k : Int) / SW - SH / 2))) ↔ (∀ k : Nat, k < m → bs[k]?.getD false = true → inP W H (x + ((k : Int) % SW - SW / 2)) (y + ((k : Int) / SW - SH / 2)) → v ≤ pixAt W zs (x + ((k : Int) % SW - SW / 2)) (y + ((k : Int) / SW - SH / 2))) ∧ (bs[m]?.getD false = true ∧ inP W H (x + ((m : Int) % SW - SW / 2)) (y + ((m : Int) / SW - SH / 2)) → v ≤ pixAt W zs (x + ((m : Int) % SW - SW / 2)) (y + ((m : Int) / SW - SH / 2))) := by
      constructor
      · intro h; exact ⟨fun k hk => h k (by omega), fun ⟨a, b⟩ => h m (by omega) a b⟩
      · rintro ⟨h1, h2⟩ k hk a b
        by_cases e : k = m
        · subst e; exact h2 ⟨a, b⟩
        · exact h1 k (by omega) a b
    rw [hs, ← and_assoc, ← ih]
    clear ih hs
    generalize exE W H zs SW SH bs x y m = e
    generalize pixAt W zs (x + ((m : Int) % SW - SW / 2)) (y + ((m : Int) / SW - SH / 2)) = p
    by_cases hc : bs[m]?.getD false = true ∧ inP W H (x + ((m : Int) % SW - SW / 2)) (y + ((m : Int) / SW - SH / 2))
    · rw [if_pos hc]
      by_cases hl : p < e
      · rw [if_pos hl]; exact ⟨fun h => ⟨by omega, fun _ => h⟩, fun h => h.2 hc⟩
      · rw [if_neg hl]; exact ⟨fun h => ⟨h, fun _ => by omega⟩, fun h => h.1⟩
    · rw [if_neg hc]; exact ⟨fun h => ⟨h, fun h2 => absurd h2 hc⟩, fun h => h.1⟩
/-- An image dilated, and eroded, as lists. -/
def dilL (W H SW SH : Int) (bs : List Bool) (m n : Nat) (zs : List Int) : List Int := made n fun k => exD W H zs SW SH bs ((k : Int) % W) ((k : Int) / W) m
def eroL (W H SW SH : Int) (bs : List Bool) (m n : Nat) (zs : List Int) : List Int := made n fun k => exE W H zs SW SH bs ((k : Int) % W) ((k : Int) / W) m
theorem made_get {n : Nat} {V : Nat → Int} {k : Nat} (hk : k < n) : (made n V)[k]? = some (V k) := by
  unfold made; rw [List.getElem?_map, List.getElem?_range hk]; rfl
theorem okI_made {W H : Int} {n : Nat} {zs : List Int} (hI : okI W H zs) (hn : zs.length = n) (V : Nat → Int) (hV : ∀ k, k < n → okV (V k)) : okI W H (made n V) := by
  refine ⟨hI.1, by rw [made_length, ← hn]; exact hI.2.1, fun z hz => ?_⟩
  obtain ⟨k, hk, rfl⟩ := List.mem_map.1 hz
  exact hV k (List.mem_range.1 hk)
theorem dilL_ok {W H SW SH : Int} {bs : List Bool} {m n : Nat} {zs : List Int} (hI : okI W H zs) (hn : zs.length = n) : okI W H (dilL W H SW SH bs m n zs) := okI_made hI hn _ fun k _ => exD_ok hI SW SH bs _ _ m
theorem eroL_ok {W H SW SH : Int} {bs : List Bool} {m n : Nat} {zs : List Int} (hI : okI W H zs) (hn : zs.length = n) : okI W H (eroL W H SW SH bs m n zs) := okI_made hI hn _ fun k _ => exE_ok hI SW SH bs _ _ m
theorem pix_dilL {W H SW SH : Int} {bs : List Bool} {m n : Nat} {zs : List Int} (hI : okI W H zs) (hn : zs.length = n) {x y : Int} (hp : inP W H x y) : pixAt W (dilL W H SW SH bs m n zs) x y = exD W H zs SW SH bs x y m := by
  obtain ⟨p, hlt, e1, e2, e3⟩ := place_of hI.1.1 hI.1.2 hp
  have hL := hI.2.1
  rw [px_of (H := H) e3]; unfold dilL; rw [made_get (by omega), Option.getD_some, e1, e2]
theorem pix_eroL {W H SW SH : Int} {bs : List Bool} {m n : Nat} {zs : List Int} (hI : okI W H zs) (hn : zs.length = n) {x y : Int} (hp : inP W H x y) : pixAt W (eroL W H SW SH bs m n zs) x y = exE W H zs SW SH bs x y m := by
  obtain ⟨p, hlt, e1, e2, e3⟩ := place_of hI.1.1 hI.1.2 hp
  have hL := hI.2.1
  rw [px_of (H := H) e3]; unfold eroL; rw [made_get (by omega), Option.getD_some, e1, e2]
/-- The order of images, by places. -/
def leP (W H : Int) (xs ys : List Int) : Prop := ∀ x y, inP W H x y → pixAt W xs x y ≤ pixAt W ys x y
theorem leP.refl (W H : Int) (xs : List Int) : leP W H xs xs := fun _ _ _ => Int.le_refl _
theorem leP.trans {W H : Int} {xs ys zs : List Int} (h : leP W H xs ys) (k : leP W H ys zs) : leP W H xs zs := fun x y hp => Int.le_trans (h x y hp) (k x y hp)
theorem leP_of {W H : Int} {n : Nat} {xs ys : List Int} (hI : okI W H xs) (hn : xs.length = n) : (∀ j : Nat, j < n → xs[j]?.getD 0 ≤ ys[j]?.getD 0) ↔ leP W H xs ys := by
  have hN : W * H = (n : Int) := by rw [← hn]; exact hI.2.1.symm
  unfold leP
  rw [← all_places hI.1.1 hI.1.2 hN (fun x y => pixAt W xs x y ≤ pixAt W ys x y)]
  have e : ∀ (zs : List Int) (k : Nat), pixAt W zs ((k : Int) % W) ((k : Int) / W) = zs[k]?.getD 0 := fun zs k => px_of (H := H) (by have := Int.mul_ediv_add_emod (k : Int) W; rw [Int.mul_comm]; omega)
  exact ⟨fun h k hk => by rw [e, e]; exact h k hk, fun h k hk => by have := h k hk; rwa [e, e] at this⟩
theorem leP_anti {W H : Int} {n : Nat} {xs ys : List Int} (hI : okI W H xs) (hJ : okI W H ys) (hn : xs.length = n) (h : leP W H xs ys) (k : leP W H ys xs) : xs = ys := by
  have hn2 : ys.length = n := by have := hI.2.1; have := hJ.2.1; omega
  have h1 := (leP_of hI hn).2 h
  have h2 := (leP_of hJ hn2).2 k
  apply List.ext_getElem (by omega)
  intro i i1 i2
  have a := h1 i (by omega)
  have b := h2 i (by omega)
  rw [List.getElem?_eq_getElem i1, List.getElem?_eq_getElem i2] at a b
  exact Int.le_antisymm a b
/-- Dilating and eroding are adjoint. -/
theorem adjointP {W H SW SH : Int} {bs : List Bool} {m n : Nat} {xs ys : List Int} (hI : okI W H xs) (hJ : okI W H ys) (hn : xs.length = n) :
    leP W H (dilL W H SW SH bs m n xs) ys ↔ leP W H xs (eroL W H SW SH bs m n ys) := by
  have hn2 : ys.length = n := by have := hI.2.1; have := hJ.2.1; omega
  unfold leP
  constructor
  · intro h x y hp
    rw [pix_eroL hJ hn2 hp, le_exE]
    refine ⟨(pixAt_ok hI x y).2, fun k hk hb hq => ?_⟩
    have h2 := h _ _ hq
    rw [pix_dilL hI hn hq, exD_le] at h2
    have e1 : x + ((k : Int) % SW - SW / 2) - ((k : Int) % SW - SW / 2) = x := by omega
    have e2 : y + ((k : Int) / SW - SH / 2) - ((k : Int) / SW - SH / 2) = y := by omega
    have h3 := h2.2 k hk hb
    rw [e1, e2] at h3
    exact h3 hp
  · intro h x y hp
    rw [pix_dilL hI hn hp, exD_le]
    refine ⟨(pixAt_ok hJ x y).1, fun k hk hb hq => ?_⟩
    have h2 := h _ _ hq
    rw [pix_eroL hJ hn2 hq, le_exE] at h2
    have e1 : x - ((k : Int) % SW - SW / 2) + ((k : Int) % SW - SW / 2) = x := by omega
    have e2 : y - ((k : Int) / SW - SH / 2) + ((k : Int) / SW - SH / 2) = y := by omega
    have h3 := h2.2 k hk hb
    rw [e1, e2] at h3
    exact h3 hp
theorem dil_ero {W H SW SH : Int} {bs : List Bool} {m n : Nat} {xs : List Int} (hI : okI W H xs) (hn : xs.length = n) : leP W H (dilL W H SW SH bs m n (eroL W H SW SH bs m n xs)) xs :=
  (adjointP (eroL_ok hI hn) hI (by unfold eroL; rw [made_length])).2 (leP.refl _ _ _)
theorem ero_dil {W H SW SH : Int} {bs : List Bool} {m n : Nat} {xs : List Int} (hI : okI W H xs) (hn : xs.length = n) : leP W H xs (eroL W H SW SH bs m n (dilL W H SW SH bs m n xs)) :=
  (adjointP hI (dilL_ok hI hn) hn).1 (leP.refl _ _ _)
theorem eroL_len {W H SW SH : Int} {bs : List Bool} {m n : Nat} {xs : List Int} : (eroL W H SW SH bs m n xs).length = n := by unfold eroL; rw [made_length]
theorem dilL_len {W H SW SH : Int} {bs : List Bool} {m n : Nat} {xs : List Int} : (dilL W H SW SH bs m n xs).length = n := by unfold dilL; rw [made_length]
theorem eroL_mono {W H SW SH : Int} {bs : List Bool} {m n : Nat} {xs ys : List Int} (hI : okI W H xs) (hJ : okI W H ys) (hn : xs.length = n) (h : leP W H xs ys) : leP W H (eroL W H SW SH bs m n xs) (eroL W H SW SH bs m n ys) :=
  (adjointP (eroL_ok hI hn) hJ eroL_len).1 ((dil_ero hI hn).trans h)
theorem dilL_mono {W H SW SH : Int} {bs : List Bool} {m n : Nat} {xs ys : List Int} (hI : okI W H xs) (hJ : okI W H ys) (hn : xs.length = n) (h : leP W H xs ys) : leP W H (dilL W H SW SH bs m n xs) (dilL W H SW SH bs m n ys) := by
  have hn2 : ys.length = n := by have := hI.2.1; have := hJ.2.1; omega
  exact (adjointP hI (dilL_ok hJ hn2) hn).2 (h.trans (ero_dil hJ hn2))
theorem ero_thrice {W H SW SH : Int} {bs : List Bool} {m n : Nat} {xs : List Int} (hI : okI W H xs) (hn : xs.length = n) : eroL W H SW SH bs m n (dilL W H SW SH bs m n (eroL W H SW SH bs m n xs)) = eroL W H SW SH bs m n xs :=
  have h1 := eroL_ok (SW := SW) (SH := SH) (bs := bs) (m := m) hI hn
  have h2 := dilL_ok (SW := SW) (SH := SH) (bs := bs) (m := m) h1 eroL_len
  leP_anti (n := n) (eroL_ok h2 dilL_len) h1 eroL_len (eroL_mono h2 hI dilL_len (dil_ero hI hn)) (ero_dil h1 eroL_len)
theorem dil_thrice {W H SW SH : Int} {bs : List Bool} {m n : Nat} {xs : List Int} (hI : okI W H xs) (hn : xs.length = n) : dilL W H SW SH bs m n (eroL W H SW SH bs m n (dilL W H SW SH bs m n xs)) = dilL W H SW SH bs m n xs :=
  have h1 := dilL_ok (SW := SW) (SH := SH) (bs := bs) (m := m) hI hn
  have h2 := eroL_ok (SW := SW) (SH := SH) (bs := bs) (m := m) h1 dilL_len
  leP_anti (n := n) (dilL_ok h2 eroL_len) h1 dilL_len (dil_ero h1 dilL_len) (dilL_mono hI h2 hn (ero_dil hI hn))
end Go.Proofs.Ytghmjdmiaajbnaa
/-
  A region that draws its order, by what holds whichever operations have come up: one step an operation, whatever the orders.
-/
namespace Go.Proofs.Ytghmjdmiaajbnaa
open Go.RowKit

variable {P : Program} {ops : Array Oper} {Q : Exit → Act → World → Prop}

theorem inv_mem {L : Array Bool} {i : Nat} (h : i ∈ Region.ready .any ops L) : i < ops.size ∧ L.getD i true = false ∧ ∃ o, ops[i]? = some o ∧ ∀ e ∈ o.after, Region.binds .any e = true → L.getD e.on false = true := by
  unfold Region.ready at h
  rw [List.mem_filter, List.mem_range, Bool.and_eq_true] at h
  obtain ⟨h1, h2, h3⟩ := h
  refine ⟨h1, by simpa using h2, ops[i], by simp [h1], fun e he hb => ?_⟩
  rw [Array.getElem?_eq_getElem h1] at h3
  simp only [Option.map_some, Option.getD_some, Array.all_eq_true_iff_forall_mem] at h3
  have := h3 e he
  rw [hb] at this
  simpa using this
theorem inv_ready {L : Array Bool} {i : Nat} {o : Oper} (h1 : L.getD i true = false) (h2 : ops[i]? = some o) (h3 : ∀ e ∈ o.after, Region.binds .any e = true → L.getD e.on false = true) : i ∈ Region.ready .any ops L := by
  unfold Region.ready
  have hi : i < ops.size := by
    rcases Nat.lt_or_ge i ops.size with h | h
    · exact h
    · rw [Array.getElem?_eq_none h] at h2; cases h2
  rw [List.mem_filter, List.mem_range, Bool.and_eq_true]
  refine ⟨hi, by simp [h1], ?_⟩
  rw [h2]
  simp only [Option.map_some, Option.getD_some, Array.all_eq_true_iff_forall_mem]
  intro e he
  cases hb : Region.binds .any e
  · rfl
  · simp [h3 e he hb]

/-- What an operation waits for has come up. -/
theorem inv_dep {L : Array Bool} {i : Nat} {o : Oper} (ho : ops[i]? = some o) (hall : ∀ e ∈ o.after, Region.binds .any e = true → L.getD e.on false = true) (j : Nat)
    (hd : ((ops[i]?).map (·.after.any fun e => Region.binds .any e && e.on == j)).getD false = true) : L.getD j false = true := by
  rw [ho] at hd
  simp only [Option.map_some, Option.getD_some, Array.any_eq_true'] at hd
  obtain ⟨e, he, hb⟩ := hd
  rw [Bool.and_eq_true] at hb
  have := hall e he hb.1
  rwa [show e.on = j by simpa using hb.2] at this
/-- Every operation waits for earlier ones only. -/
def Upward (ops : Array Oper) : Bool := (List.range ops.size).all fun i => ((ops[i]?).map (·.after.all fun e => !Region.binds .any e || decide (e.on < i))).getD false
theorem inv_all (hup : Upward ops = true) {L : Array Bool} (hs : L.size = ops.size) (hr : Region.ready .any ops L = []) : L = Array.replicate ops.size true := by
  have key : ∀ i, i < ops.size → L.getD i true = true := by
    intro i
    induction i using Nat.strongRecOn with
    | _ i ih =>
      intro hi
      cases hL : L.getD i true
      · exfalso
        have hm : i ∈ Region.ready .any ops L := by
          refine inv_ready hL (o := ops[i]) (by simp [hi]) fun e he hbd => ?_
          have hu := List.all_eq_true.1 hup i (List.mem_range.2 hi)
          rw [Array.getElem?_eq_getElem hi] at hu
          simp only [Option.map_some, Option.getD_some, Array.all_eq_true_iff_forall_mem] at hu
          have hlt : e.on < i := by have := hu e he; rw [hbd] at this; simpa using this
          have h1 := ih e.on hlt (by omega)
          have h2 : e.on < L.size := by omega
          simpa [Array.getD, h2] using h1
        rw [hr] at hm; cases hm
      · rfl
  apply Array.ext
  · simp [hs]
  · intro i h1 h2
    have := key i (by omega)
    simpa [Array.getD, h1] using this

theorem wpAny_inv (I : Array Bool → Act → World → Prop) (hup : Upward ops = true) (hsz : ∀ L a w, I L a w → L.size = ops.size)
    (step : ∀ L a w, I L a w → ∀ i, i ∈ Region.ready .any ops L → wpOp P ops Q i (fun a' w' => I (L.setIfInBounds i true) a' w') a w)
    (fin : ∀ a w, I (Array.replicate ops.size true) a w → Q .normal a w) :
    ∀ (fuel : Nat) (L : Array Bool) (a : Act) (w : World), I L a w → L.toList.count false ≤ fuel → wpAny P .any ops Q fuel L a w := by
  have done : ∀ L a w, I L a w → Region.ready .any ops L = [] → Q .normal a w := fun L a w h hr => fin a w (by rw [← inv_all hup (hsz L a w h) hr]; exact h)
  intro fuel
  induction fuel with
  | zero =>
    intro L a w h hc
    have hr : Region.ready .any ops L = [] := by
      apply List.eq_nil_iff_forall_not_mem.2
      intro i hi
      obtain ⟨h1, h2, -⟩ := inv_mem hi
      have hl : i < L.size := by rw [hsz L a w h]; exact h1
      have : L[i] = false := by simpa [Array.getD, hl] using h2
      have hm : false ∈ L.toList := by rw [← this]; simp
      have := List.count_pos_iff.2 hm
      omega
    exact ⟨hr, done L a w h hr⟩
  | succ fuel ih =>
    intro L a w h hc
    refine ⟨fun hr => done L a w h hr, fun i hi => ?_⟩
    obtain ⟨h1, h2, -⟩ := inv_mem hi
    have hl : i < L.size := by rw [hsz L a w h]; exact h1
    have hf : L[i] = false := by simpa [Array.getD, hl] using h2
    refine wpOp_mono (fun a' w' h' => ih _ a' w' h' ?_) (step L a w h i hi)
    have e : (L.setIfInBounds i true).toList = L.toList.set i true := by simp
    rw [e, List.count_set (by simpa using hl)]
    have hf' : L.toList[i]'(by simpa using hl) = false := by simpa using hf
    have hm : false ∈ L.toList := by rw [← hf']; exact List.getElem_mem _
    have := List.count_pos_iff.2 hm
    rw [hf']
    show L.toList.count false - 1 + 0 ≤ fuel
    omega

theorem inv_op {i : Nat} {o : Oper} {K0 : Act → World → Prop} {a : Act} {w : World} (ho : ops[i]? = some o) (hw : Region.wanted o (yielded ops a.tmps) = true)
    (h : ∀ K, Hid (∀ a' w', K0 a' w' → K a' w') → o.wp P a w K Q) : wpOp P ops Q i K0 a w := by
  unfold wpOp
  rw [ho]
  simp only [hw, if_true]
  exact .inl (h K0 (Lib.hid fun _ _ h => h))
end Go.Proofs.Ytghmjdmiaajbnaa
/-
  Within a round of a loop over an iterator: a region that draws its order, by what holds whichever operations have come up.
-/
namespace Go.Proofs.Ytghmjdmiaajbnaa
open Go.RowKit
set_option linter.unusedVariables false
set_option linter.unusedSimpArgs false

theorem wp_region_inv_in {P : Program} {ops : Array Oper} {Q : Exit → Act → World → Prop} {n l id : Nat} {a0 : Act} {w : World} (I : Act → Array Bool → Act → World → Prop) (hm : P.follows .mixedOrders = true) (hup : Upward ops = true) (hnd : noDefer ops = true) (hout : ¬ LetsOut Q)
    (hsz : ∀ L a w, I a0 L a w → L.size = ops.size)
    (start : I a0 (Array.replicate ops.size false) a0 w.drew)
    (step : ∀ L a w, I a0 L a w → ∀ i, i ∈ Region.ready .any ops L → wpOp P ops Q i (fun a' w' => I a0 (L.setIfInBounds i true) a' w') a w)
    (fin : ∀ a w, I a0 (Array.replicate ops.size true) a w → Q .normal a w) : (Code.region id ops true).wpIn (Fence.wide.inRound l) n P Q a0 w :=
  wpIn_region_any hm (wpAny_in hnd hout _ _ _ _ (wpAny_inv (I a0) hup hsz step fin _ _ _ _ start (by simp)))
/-- What lay behind a number, and is no cells, is as it was. -/
theorem KeepsFrom.call {B : Nat} {X Y Z : World} (h : KeepsFrom B X Y) (hb : Below Y.heap.size Y Z) : KeepsFrom B X Z := h.trans (KeepsFrom.of_below hb)
theorem KeepsFrom.set {B : Nat} {X Y : World} (h : KeepsFrom B X Y) (a : Addr) (v : Value) : KeepsFrom B X (Y.setCell a v) := h.trans ((KeepsOthers.setCell _ _ _).from _)
theorem PixG.set {Bm b off len c : Nat} {Wd Hd : Int} {R : Nat → Int → Prop} {W : World} {g i : Nat} {v : Value} (h : PixG Bm b off len c Wd Hd R W) (h1 : Bm ≠ g) (h2 : b ≠ g) : PixG Bm b off len c Wd Hd R (W.setCell ⟨g, i, none⟩ v) := by
  obtain ⟨g0, g1, g2, g3⟩ := h
  have key : ∀ (k o : Nat), k ≠ g → (W.setCell ⟨g, i, none⟩ v).cell? ⟨k, o, none⟩ = W.cell? ⟨k, o, none⟩ := fun k o hk => World.cell?_of_block (w := W) (Below.heap_setCell W ⟨g, i, none⟩ v k (fun e => hk e))
  exact ⟨(key _ _ h1).trans g0, (key _ _ h1).trans g1, (key _ _ h1).trans g2, fun j hj => by obtain ⟨z, hz, cz⟩ := g3 j hj; exact ⟨z, hz, (key _ _ h2).trans cz⟩⟩
end Go.Proofs.Ytghmjdmiaajbnaa
/-
  Sums of numbers: over rows, columns, rectangles; plain numbers.
-/
namespace Go.Proofs.Ytghmjdmiaajbnaa

/-- The sum of the first n numbers. -/
def sumN (f : Nat → Int) : Nat → Int
  | 0 => 0
  | n + 1 => sumN f n + f n
theorem sumN_congr {f g : Nat → Int} {n : Nat} (h : ∀ i, i < n → f i = g i) : sumN f n = sumN g n := by
  induction n with
  | zero => rfl
  | succ n ih => rw [sumN, sumN, ih (fun i hi => h i (by omega)), h n (by omega)]
theorem sumN_zero {f : Nat → Int} {n : Nat} (h : ∀ i, i < n → f i = 0) : sumN f n = 0 := by
  induction n with
  | zero => rfl
  | succ n ih => rw [sumN, ih (fun i hi => h i (by omega)), h n (by omega)]; rfl
/-- The sum of the numbers from a on, below b. -/
def sumR (f : Nat → Int) (a b : Nat) : Int := sumN (fun i => f (a + i)) (b - a)
theorem sumR_self (f : Nat → Int) (a : Nat) : sumR f a a = 0 := by unfold sumR; rw [Nat.sub_self]; rfl
theorem sumR_succ (f : Nat → Int) {a b : Nat} (h : a ≤ b) : sumR f a (b + 1) = sumR f a b + f b := by
  unfold sumR
  rw [show b + 1 - a = (b - a) + 1 by omega, sumN, show a + (b - a) = b by omega]
theorem sumR_zero (f : Nat → Int) (b : Nat) : sumR f 0 b = sumN f b := by
  unfold sumR; rw [Nat.sub_zero]; exact sumN_congr fun i _ => by rw [Nat.zero_add]
/-- The pixel of a place. -/
def pxN (W : Nat) (zs : List Int) (x y : Nat) : Int := zs[y * W + x]?.getD 0
/-- The sum of a rectangle. -/
def boxN (W : Nat) (zs : List Int) (x0 y0 x1 y1 : Nat) : Int := sumR (fun y => sumR (fun x => pxN W zs x y) x0 x1) y0 y1
theorem divmod_place {W x y : Nat} (h : x < W) : (y * W + x) % W = x ∧ (y * W + x) / W = y := by
  constructor
  · rw [Nat.mul_comm, Nat.mul_add_mod, Nat.mod_eq_of_lt h]
  · rw [Nat.mul_comm, Nat.mul_add_div (by omega), Nat.div_eq_of_lt h, Nat.add_zero]
theorem box_step (W : Nat) (zs : List Int) (x y : Nat) : boxN W zs 0 0 (x + 1) (y + 1) = pxN W zs x y + boxN W zs 0 0 x (y + 1) + boxN W zs 0 0 (x + 1) y - boxN W zs 0 0 x y := by
  unfold boxN
  rw [sumR_succ _ (Nat.zero_le y), sumR_succ _ (Nat.zero_le y), sumR_succ _ (Nat.zero_le x)]
  omega
theorem box_x0 (W : Nat) (zs : List Int) (y : Nat) : boxN W zs 0 0 0 y = 0 := by
  unfold boxN; rw [sumR_zero]; exact sumN_zero fun i _ => sumR_self _ _
theorem box_y0 (W : Nat) (zs : List Int) (x : Nat) : boxN W zs 0 0 x 0 = 0 := by unfold boxN; exact sumR_self _ _
end Go.Proofs.Ytghmjdmiaajbnaa
/-
  Layer 2: sums of rows and of columns, by the code.
-/
namespace Go.Proofs.Ytghmjdmiaajbnaa
open Go.RowKit Go.Shelf
set_option linter.unusedVariables false
set_option linter.unusedSimpArgs false

attribute [local go_sem] Oper.semAt_some

/-- What the iterator hands on of an image: its values. -/
def ValR (zs : List Int) (j : Nat) (z : Int) : Prop := zs[j]? = some z ∧ okV z
/-- The sum of the values of some pixels that belong to a number. -/
def addP {N : Nat} {zs : List Int} (ix : Nat → Nat) (pre : List (Pel N (ValR zs))) (j : Nat) : Int := (pre.map fun x => if ix x.1.1 = j then x.1.2 else 0).foldl (· + ·) 0
theorem addP_snoc {N : Nat} {zs : List Int} (ix : Nat → Nat) (pre : List (Pel N (ValR zs))) (x : Pel N (ValR zs)) (j : Nat) : addP ix (pre ++ [x]) j = addP ix pre j + if ix x.1.1 = j then x.1.2 else 0 := by
  unfold addP; rw [List.map_append, List.foldl_append]; rfl
theorem fold_range (f : Nat → Int) (n : Nat) : ((List.range n).map f).foldl (· + ·) 0 = sumN f n := by
  induction n with
  | zero => rfl
  | succ n ih => rw [List.range_succ, List.map_append, List.foldl_append, ih]; rfl
theorem addP_all {N : Nat} {zs : List Int} (ix : Nat → Nat) {xs : List (Pel N (ValR zs))} (h : PixAll N xs) (j : Nat) : addP ix xs j = sumN (fun i => if ix i = j then zs[i]?.getD 0 else 0) N := by
  rw [← fold_range, ← (show xs.map (fun x => x.1.1) = List.range N from h), List.map_map]
  unfold addP
  congr 1
  refine List.map_congr_left fun x _ => ?_
  show _ = if ix x.1.1 = j then zs[x.1.1]?.getD 0 else 0
  rw [x.2.2.1]; rfl
def SumsP {N : Nat} {zs : List Int} (ix : Nat → Nat) (cnt : Nat) (pre : List (Pel N (ValR zs))) (ls : List Int) : Prop := ls.length = cnt ∧ ∀ j, j < cnt → ls[j]? = some (addP ix pre j)
theorem SumsP.snoc {N : Nat} {zs : List Int} {ix : Nat → Nat} {cnt : Nat} {pre : List (Pel N (ValR zs))} {ls : List Int} (h : SumsP ix cnt pre ls) (x : Pel N (ValR zs)) (hx : ix x.1.1 < cnt) : SumsP ix cnt (pre ++ [x]) (ls.set (ix x.1.1) (addP ix pre (ix x.1.1) + x.1.2)) := by
  refine ⟨by rw [List.length_set]; exact h.1, fun j hj => ?_⟩
  rw [addP_snoc]
  by_cases e : ix x.1.1 = j
  · rw [if_pos e, ← e, List.getElem?_set_self (by rw [h.1]; exact hx)]
  · rw [if_neg e, Int.add_zero, List.getElem?_set_ne e, h.2 j hj]
theorem SumsP.all {N : Nat} {zs : List Int} {ix : Nat → Nat} {cnt : Nat} {xs : List (Pel N (ValR zs))} {ls : List Int} (h : SumsP ix cnt xs ls) (ha : PixAll N xs) : ls = (List.range cnt).map fun j => sumN (fun i => if ix i = j then zs[i]?.getD 0 else 0) N := by
  apply List.ext_getElem?
  intro j
  by_cases hj : j < cnt
  · rw [h.2 j hj, addP_all ix ha, List.getElem?_map, List.getElem?_range hj]; rfl
  · rw [List.getElem?_eq_none (by rw [h.1]; omega), List.getElem?_eq_none (by simp; omega)]
theorem SumsP.start {N : Nat} {zs : List Int} (ix : Nat → Nat) (cnt : Nat) : SumsP ix cnt ([] : List (Pel N (ValR zs))) (List.replicate cnt 0) :=
  ⟨List.length_replicate, fun j hj => by rw [List.getElem?_replicate, if_pos hj]; rfl⟩

end Go.Proofs.Ytghmjdmiaajbnaa
