/-
  The texts that the laws of this seat share, merged: part 22.
-/
import Derived.BigQuiet
import Derived.ChangeSame
import Derived.Deep.CutRange
import Derived.Deep.DeepCutAuto
import Derived.Deep.DeepHandedRow
import Derived.Deep.Draws
import Derived.Deep.OwnRows
import Derived.Deep.QuietTactic
import Derived.Deep.RegionHeld3
import Derived.LaidSub
import Derived.Laws.AppendOwn
import Derived.Laws.EntriesVeiled
import Derived.Lay
import Derived.Lib.Hide
import Derived.Lib.SmallJoins
import Derived.LoopIn
import Derived.LoopNIn
import Derived.MapKept
import Derived.Maps.AppendAt
import Derived.OneCell
import Derived.OpenShut
import Derived.Orders
import Derived.OwnWalkIn
import Derived.ProofKit
import Derived.RangeFuncBound
import Derived.RangeFuncCalls
import Derived.RangeFuncLeaves
import Derived.RangeFuncNested
import Derived.Shelf.Abstract
import Derived.Shelf.AbstractIn
import Derived.Shelf.RegionOpen
import Derived.StillTailTactics
import Derived.TacticsInMore
import Derived.Test.YtghmjdmiaajbnaaProg
import Derived.Test.YtghmjdmiaajbnaaRows
import Derived.WalkKit
import Derived.WalkSmall
import Derived.WalkSpells
import Derived.Test.YtghmjdmiaajbnaaM1
import Derived.Test.YtghmjdmiaajbnaaM5
import Derived.Test.YtghmjdmiaajbnaaM12
import Derived.Test.YtghmjdmiaajbnaaM14
import Derived.Test.YtghmjdmiaajbnaaM16
import Derived.Test.YtghmjdmiaajbnaaM17
/-
  A kernel among the arguments.
-/
namespace Go.Proofs.Ytghmjdmiaajbnaa
open Go.ChangeShapes Go.WideShapes Go.ChangeAt Go.RowKit
set_option linter.unusedVariables false
set_option linter.unusedSimpArgs false
variable {H : Type} {enc : TypeId × Value → H}

set_option maxRecDepth 100000 in
/-- A kernel that came in. -/
theorem open_kernel {W : World} {b0 : Nat} {r : Reach} {v : Value} {d : DataW H} {p : List MemPlace} (hval : Value.okWide Try.prog W r b0 36 v) (h : DataW.Trod enc Try.prog W 0 (fun _ => true) true 36 v d p) :
    ∃ (w h : Int) (a : Option Addr) (n c : Nat) (zs : List Int), v = .agg #[.int .i64 w, .int .i64 h, .slice a n c] ∧ (Lit.int .i64 w).wf = true ∧ (Lit.int .i64 h).wf = true ∧ n ≤ c ∧ c ≤ maxLen ∧ Row W a n (iv zs) ∧ ((d.weights Try.prog 36).all (· ≤ reachBytes) = true → n * 8 ≤ 140737488351232) := by
  obtain ⟨v0, v1, v2, y0, y1, y2, n, rfl, rfl, rfl, h0, h1, h2⟩ := Joins.open_agg3 Try.underlying36 (by kernel_rfl) (by kernel_rfl) hval h
  obtain ⟨w, e0, hy0, w0⟩ := DataW.trod_int Try.underlying3 h0
  obtain ⟨g, e1, hy1, w1⟩ := DataW.trod_int Try.underlying3 h1
  obtain ⟨a, m, c, zs, rfl, q1, q2, q3, q4⟩ := open_row h2
  simp only [List.cons.injEq, and_true] at e0 e1
  subst e0 e1
  refine ⟨w, g, a, m, c, zs, rfl, w0, w1, q1, q2, q3, fun hw => q4 ?_⟩
  simp only [DataW.weights, Try.underlying36, DataW.weightsEach, List.map_cons, List.map_nil, List.append_nil, List.all_append, Bool.and_eq_true] at hw
  exact hw.2.2

end Go.Proofs.Ytghmjdmiaajbnaa
/-
  Layer 2: the statements' own comparisons of two images.
-/
namespace Go.Proofs.Ytghmjdmiaajbnaa
open Go.RowKit
set_option linter.unusedVariables false
set_option linter.unusedSimpArgs false

/-- The first numbers are nowhere greater than those of another list. -/
def leN (xs ys : List Int) (k : Nat) : Prop := ∀ j : Nat, j < k → xs[j]?.getD 0 ≤ ys[j]?.getD 0
instance (xs ys : List Int) (k : Nat) : Decidable (leN xs ys k) := inferInstanceAs (Decidable (∀ j : Nat, j < k → _))
theorem leN.snoc {xs ys : List Int} {k : Nat} {u v : Int} (h : leN xs ys k) (hu : xs[k]? = some u) (hv : ys[k]? = some v) (hle : u ≤ v) : leN xs ys (k + 1) := by
  intro j hj
  by_cases e : j = k
  · subst e; rw [hu, hv]; exact hle
  · exact h j (by omega)
set_option maxRecDepth 100000 in
set_option maxHeartbeats 2000000 in
theorem sized_yes (W H : Int) (a b : Option Addr) (n m c d : Nat) (xs ys : List Int) (hI : okI W H xs) (hJ : okI W H ys) (hn : n ≤ maxLen) (hm : m ≤ maxLen) (w : World) (hR : Row w a n (iv xs)) (hS : Row w b m (iv ys)) :
    Calls Try.prog 40 #[.agg #[.int .i64 W, .int .i64 H, .slice a n c], .agg #[.int .i64 W, .int .i64 H, .slice b m d]] w fun e w' => e = .returned (.bool true) ∧ Below w.heap.size w w' := by
  have H1 := Lib.hid hR; have H2 := Lib.hid hS; have HI := Lib.hid hI; have HJ := Lib.hid hJ
  have HV1 : Hid (∀ w, Row w a n (iv xs) → Calls Try.prog 43 #[.agg #[.int .i64 W, .int .i64 H, .slice a n c]] w fun e w' => e = .returned (.bool true) ∧ Below w.heap.size w w') := fun w h => rvalid_ok hI a n c hn w h
  have HV2 : Hid (∀ w, Row w b m (iv ys) → Calls Try.prog 43 #[.agg #[.int .i64 W, .int .i64 H, .slice b m d]] w fun e w' => e = .returned (.bool true) ∧ Below w.heap.size w w') := fun w h => rvalid_ok hJ b m d hm w h
  clear hR hS hn hm hI hJ
  go_enter Try.func40, Try.ntmps40
  go_wp2_with fail
  refine (HV1.out _ (H1.out.later (by (repeat' (first | (with_reducible exact Below.refl _ _) | (with_reducible assumption) | (with_reducible refine belowThru ?_ (by assumption)) | (with_reducible refine belowAlloc ?_) | (with_reducible refine Below.setCell ?_ (by first | omega | (simp; done) | (simp; omega)) _) | (with_reducible refine Below.drew ?_) | (with_reducible refine below_drewN ?_ _)))))).mono ?_
  rintro e w1 ⟨rfl, hb⟩; (first | ((with_reducible have k0 := Blk.later hb (Blk.alloc (Blk.new rfl))); (with_reducible have k1 := Blk.later hb (Blk.new rfl)); simp only [World.size_alloc] at k1; obtain ⟨a0, b0⟩ := k0.read; have zl := k0.lt; obtain ⟨a1, b1⟩ := k1.read; have zl := k1.lt) | ((try (have zk := k0.lt; (first | ((with_reducible refine Blk.keepG hb k0 (fun h => ?_) ?_); (focus ((repeat' (first | (with_reducible assumption) | ((with_reducible refine Blk.new ?_); first | rfl | (simp; done)) | (with_reducible refine Blk.later (by assumption) ?_) | (with_reducible refine Blk.alloc ?_) | (with_reducible refine Blk.drewN ?_) | (with_reducible refine Blk.drew ?_) | (with_reducible refine Blk.other ?_ (by first | omega | (simp; done) | (simp; omega))))); done)); clear k0; intro k0) | (with_reducible replace k0 := Blk.later hb (Blk.set (Blk.set k0))) | (with_reducible replace k0 := Blk.later hb (Blk.set k0))); clear a0 b0; obtain ⟨a0, b0⟩ := k0.read; have zl := k0.lt)); (try (have zk := k1.lt; (first | ((with_reducible refine Blk.keepG hb k1 (fun h => ?_) ?_); (focus ((repeat' (first | (with_reducible assumption) | ((with_reducible refine Blk.new ?_); first | rfl | (simp; done)) | (with_reducible refine Blk.later (by assumption) ?_) | (with_reducible refine Blk.alloc ?_) | (with_reducible refine Blk.drewN ?_) | (with_reducible refine Blk.drew ?_) | (with_reducible refine Blk.other ?_ (by first | omega | (simp; done) | (simp; omega))))); done)); clear k1; intro k1) | (with_reducible replace k1 := Blk.later hb (Blk.set (Blk.set k1))) | (with_reducible replace k1 := Blk.later hb (Blk.set k1))); clear a1 b1; obtain ⟨a1, b1⟩ := k1.read; have zl := k1.lt))))
  have hB1 : Below w.heap.size w w1 := by (repeat' (first | (with_reducible exact Below.refl _ _) | (with_reducible assumption) | (with_reducible refine belowThru ?_ (by assumption)) | (with_reducible refine belowAlloc ?_) | (with_reducible refine Below.setCell ?_ (by first | omega | (simp; done) | (simp; omega)) _) | (with_reducible refine Below.drew ?_) | (with_reducible refine below_drewN ?_ _)))
  clear hb
  go_wp2_with fail
  refine (HV2.out _ (H2.out.later (by (repeat' (first | (with_reducible exact Below.refl _ _) | (with_reducible assumption) | (with_reducible refine belowThru ?_ (by assumption)) | (with_reducible refine belowAlloc ?_) | (with_reducible refine Below.setCell ?_ (by first | omega | (simp; done) | (simp; omega)) _) | (with_reducible refine Below.drew ?_) | (with_reducible refine below_drewN ?_ _)))))).mono ?_
  rintro e w2 ⟨rfl, hb⟩
  (try (have zk := k0.lt; (first | ((with_reducible refine Blk.keepG hb k0 (fun h => ?_) ?_); (focus ((repeat' (first | (with_reducible assumption) | ((with_reducible refine Blk.new ?_); first | rfl | (simp; done)) | (with_reducible refine Blk.later (by assumption) ?_) | (with_reducible refine Blk.alloc ?_) | (with_reducible refine Blk.drewN ?_) | (with_reducible refine Blk.drew ?_) | (with_reducible refine Blk.other ?_ (by first | omega | (simp; done) | (simp; omega))))); done)); clear k0; intro k0) | (with_reducible replace k0 := Blk.later hb (Blk.set (Blk.set k0))) | (with_reducible replace k0 := Blk.later hb (Blk.set k0))); clear a0 b0; obtain ⟨a0, b0⟩ := k0.read; have zl := k0.lt)); (try (have zk := k1.lt; (first | ((with_reducible refine Blk.keepG hb k1 (fun h => ?_) ?_); (focus ((repeat' (first | (with_reducible assumption) | ((with_reducible refine Blk.new ?_); first | rfl | (simp; done)) | (with_reducible refine Blk.later (by assumption) ?_) | (with_reducible refine Blk.alloc ?_) | (with_reducible refine Blk.drewN ?_) | (with_reducible refine Blk.drew ?_) | (with_reducible refine Blk.other ?_ (by first | omega | (simp; done) | (simp; omega))))); done)); clear k1; intro k1) | (with_reducible replace k1 := Blk.later hb (Blk.set (Blk.set k1))) | (with_reducible replace k1 := Blk.later hb (Blk.set k1))); clear a1 b1; obtain ⟨a1, b1⟩ := k1.read; have zl := k1.lt))
  go_wp2_with fail
  go_ret
  exact ⟨rfl, by (repeat' (first | (with_reducible exact Below.refl _ _) | (with_reducible assumption) | (with_reducible refine belowThru ?_ (by assumption)) | (with_reducible refine belowAlloc ?_) | (with_reducible refine Below.setCell ?_ (by first | omega | (simp; done) | (simp; omega)) _) | (with_reducible refine Below.drew ?_) | (with_reducible refine below_drewN ?_ _)))⟩
theorem okI_sides {W H W' H' : Int} {xs ys : List Int} (h : ¬ (okI W H xs ∧ okI W' H' ys ∧ W = W' ∧ H = H')) (h1 : okI W H xs) (h2 : okI W' H' ys) : ¬ W = W' ∨ (W = W' ∧ ¬ H = H') := by
  by_cases e : W = W'
  · exact .inr ⟨e, fun e2 => h ⟨h1, h2, e, e2⟩⟩
  · exact .inl e
set_option maxRecDepth 100000 in
set_option maxHeartbeats 2000000 in
theorem sized_no (W H W' H' : Int) (a b : Option Addr) (n m c d : Nat) (xs ys : List Int) (hx : ¬ (okI W H xs ∧ okI W' H' ys ∧ W = W' ∧ H = H')) (hn : n ≤ maxLen) (hm : m ≤ maxLen) (w : World) (hR : Row w a n (iv xs)) (hS : Row w b m (iv ys)) :
    Calls Try.prog 40 #[.agg #[.int .i64 W, .int .i64 H, .slice a n c], .agg #[.int .i64 W', .int .i64 H', .slice b m d]] w fun e w' => e = .returned (.bool false) ∧ Below w.heap.size w w' := by
  have H1 := Lib.hid hR; have H2 := Lib.hid hS
  by_cases hI : okI W H xs
  · have HV1 : Hid (∀ w, Row w a n (iv xs) → Calls Try.prog 43 #[.agg #[.int .i64 W, .int .i64 H, .slice a n c]] w fun e w' => e = .returned (.bool true) ∧ Below w.heap.size w w') := fun w h => rvalid_ok hI a n c hn w h
    by_cases hJ : okI W' H' ys
    · have HV2 : Hid (∀ w, Row w b m (iv ys) → Calls Try.prog 43 #[.agg #[.int .i64 W', .int .i64 H', .slice b m d]] w fun e w' => e = .returned (.bool true) ∧ Below w.heap.size w w') := fun w h => rvalid_ok hJ b m d hm w h
      have hs := okI_sides hx hI hJ
      clear hR hS hn hm hI hJ hx
      rcases hs with hs | ⟨rfl, hs⟩
      all_goals
        have hsb := beq_eq_false_iff_ne.2 hs
        go_enter Try.func40, Try.ntmps40
        go_wp2_with fail
        refine (HV1.out _ (H1.out.later (by (repeat' (first | (with_reducible exact Below.refl _ _) | (with_reducible assumption) | (with_reducible refine belowThru ?_ (by assumption)) | (with_reducible refine belowAlloc ?_) | (with_reducible refine Below.setCell ?_ (by first | omega | (simp; done) | (simp; omega)) _) | (with_reducible refine Below.drew ?_) | (with_reducible refine below_drewN ?_ _)))))).mono ?_
        rintro e w1 ⟨rfl, hb⟩; (first | ((with_reducible have k0 := Blk.later hb (Blk.alloc (Blk.new rfl))); (with_reducible have k1 := Blk.later hb (Blk.new rfl)); simp only [World.size_alloc] at k1; obtain ⟨a0, b0⟩ := k0.read; have zl := k0.lt; obtain ⟨a1, b1⟩ := k1.read; have zl := k1.lt) | ((try (have zk := k0.lt; (first | ((with_reducible refine Blk.keepG hb k0 (fun h => ?_) ?_); (focus ((repeat' (first | (with_reducible assumption) | ((with_reducible refine Blk.new ?_); first | rfl | (simp; done)) | (with_reducible refine Blk.later (by assumption) ?_) | (with_reducible refine Blk.alloc ?_) | (with_reducible refine Blk.drewN ?_) | (with_reducible refine Blk.drew ?_) | (with_reducible refine Blk.other ?_ (by first | omega | (simp; done) | (simp; omega))))); done)); clear k0; intro k0) | (with_reducible replace k0 := Blk.later hb (Blk.set (Blk.set k0))) | (with_reducible replace k0 := Blk.later hb (Blk.set k0))); clear a0 b0; obtain ⟨a0, b0⟩ := k0.read; have zl := k0.lt)); (try (have zk := k1.lt; (first | ((with_reducible refine Blk.keepG hb k1 (fun h => ?_) ?_); (focus ((repeat' (first | (with_reducible assumption) | ((with_reducible refine Blk.new ?_); first | rfl | (simp; done)) | (with_reducible refine Blk.later (by assumption) ?_) | (with_reducible refine Blk.alloc ?_) | (with_reducible refine Blk.drewN ?_) | (with_reducible refine Blk.drew ?_) | (with_reducible refine Blk.other ?_ (by first | omega | (simp; done) | (simp; omega))))); done)); clear k1; intro k1) | (with_reducible replace k1 := Blk.later hb (Blk.set (Blk.set k1))) | (with_reducible replace k1 := Blk.later hb (Blk.set k1))); clear a1 b1; obtain ⟨a1, b1⟩ := k1.read; have zl := k1.lt))))
        have hB1 : Below w.heap.size w w1 := by (repeat' (first | (with_reducible exact Below.refl _ _) | (with_reducible assumption) | (with_reducible refine belowThru ?_ (by assumption)) | (with_reducible refine belowAlloc ?_) | (with_reducible refine Below.setCell ?_ (by first | omega | (simp; done) | (simp; omega)) _) | (with_reducible refine Below.drew ?_) | (with_reducible refine below_drewN ?_ _)))
        clear hb
        go_wp2_with fail
        refine (HV2.out _ (H2.out.later (by (repeat' (first | (with_reducible exact Below.refl _ _) | (with_reducible assumption) | (with_reducible refine belowThru ?_ (by assumption)) | (with_reducible refine belowAlloc ?_) | (with_reducible refine Below.setCell ?_ (by first | omega | (simp; done) | (simp; omega)) _) | (with_reducible refine Below.drew ?_) | (with_reducible refine below_drewN ?_ _)))))).mono ?_
        rintro e w2 ⟨rfl, hb⟩
        (try (have zk := k0.lt; (first | ((with_reducible refine Blk.keepG hb k0 (fun h => ?_) ?_); (focus ((repeat' (first | (with_reducible assumption) | ((with_reducible refine Blk.new ?_); first | rfl | (simp; done)) | (with_reducible refine Blk.later (by assumption) ?_) | (with_reducible refine Blk.alloc ?_) | (with_reducible refine Blk.drewN ?_) | (with_reducible refine Blk.drew ?_) | (with_reducible refine Blk.other ?_ (by first | omega | (simp; done) | (simp; omega))))); done)); clear k0; intro k0) | (with_reducible replace k0 := Blk.later hb (Blk.set (Blk.set k0))) | (with_reducible replace k0 := Blk.later hb (Blk.set k0))); clear a0 b0; obtain ⟨a0, b0⟩ := k0.read; have zl := k0.lt)); (try (have zk := k1.lt; (first | ((with_reducible refine Blk.keepG hb k1 (fun h => ?_) ?_); (focus ((repeat' (first | (with_reducible assumption) | ((with_reducible refine Blk.new ?_); first | rfl | (simp; done)) | (with_reducible refine Blk.later (by assumption) ?_) | (with_reducible refine Blk.alloc ?_) | (with_reducible refine Blk.drewN ?_) | (with_reducible refine Blk.drew ?_) | (with_reducible refine Blk.other ?_ (by first | omega | (simp; done) | (simp; omega))))); done)); clear k1; intro k1) | (with_reducible replace k1 := Blk.later hb (Blk.set (Blk.set k1))) | (with_reducible replace k1 := Blk.later hb (Blk.set k1))); clear a1 b1; obtain ⟨a1, b1⟩ := k1.read; have zl := k1.lt))
        go_wp2_with fail
        go_ret
        exact ⟨rfl, by (repeat' (first | (with_reducible exact Below.refl _ _) | (with_reducible assumption) | (with_reducible refine belowThru ?_ (by assumption)) | (with_reducible refine belowAlloc ?_) | (with_reducible refine Below.setCell ?_ (by first | omega | (simp; done) | (simp; omega)) _) | (with_reducible refine Below.drew ?_) | (with_reducible refine below_drewN ?_ _)))⟩
    · have HV2 : Hid (∀ w, Row w b m (iv ys) → Calls Try.prog 43 #[.agg #[.int .i64 W', .int .i64 H', .slice b m d]] w fun e w' => e = .returned (.bool false) ∧ Below w.heap.size w w') := fun w h => rvalid_no hJ b m d hm w h
      clear hR hS hn hm hI hJ hx
      go_enter Try.func40, Try.ntmps40
      go_wp2_with fail
      refine (HV1.out _ (H1.out.later (by (repeat' (first | (with_reducible exact Below.refl _ _) | (with_reducible assumption) | (with_reducible refine belowThru ?_ (by assumption)) | (with_reducible refine belowAlloc ?_) | (with_reducible refine Below.setCell ?_ (by first | omega | (simp; done) | (simp; omega)) _) | (with_reducible refine Below.drew ?_) | (with_reducible refine below_drewN ?_ _)))))).mono ?_
      rintro e w1 ⟨rfl, hb⟩; (first | ((with_reducible have k0 := Blk.later hb (Blk.alloc (Blk.new rfl))); (with_reducible have k1 := Blk.later hb (Blk.new rfl)); simp only [World.size_alloc] at k1; obtain ⟨a0, b0⟩ := k0.read; have zl := k0.lt; obtain ⟨a1, b1⟩ := k1.read; have zl := k1.lt) | ((try (have zk := k0.lt; (first | ((with_reducible refine Blk.keepG hb k0 (fun h => ?_) ?_); (focus ((repeat' (first | (with_reducible assumption) | ((with_reducible refine Blk.new ?_); first | rfl | (simp; done)) | (with_reducible refine Blk.later (by assumption) ?_) | (with_reducible refine Blk.alloc ?_) | (with_reducible refine Blk.drewN ?_) | (with_reducible refine Blk.drew ?_) | (with_reducible refine Blk.other ?_ (by first | omega | (simp; done) | (simp; omega))))); done)); clear k0; intro k0) | (with_reducible replace k0 := Blk.later hb (Blk.set (Blk.set k0))) | (with_reducible replace k0 := Blk.later hb (Blk.set k0))); clear a0 b0; obtain ⟨a0, b0⟩ := k0.read; have zl := k0.lt)); (try (have zk := k1.lt; (first | ((with_reducible refine Blk.keepG hb k1 (fun h => ?_) ?_); (focus ((repeat' (first | (with_reducible assumption) | ((with_reducible refine Blk.new ?_); first | rfl | (simp; done)) | (with_reducible refine Blk.later (by assumption) ?_) | (with_reducible refine Blk.alloc ?_) | (with_reducible refine Blk.drewN ?_) | (with_reducible refine Blk.drew ?_) | (with_reducible refine Blk.other ?_ (by first | omega | (simp; done) | (simp; omega))))); done)); clear k1; intro k1) | (with_reducible replace k1 := Blk.later hb (Blk.set (Blk.set k1))) | (with_reducible replace k1 := Blk.later hb (Blk.set k1))); clear a1 b1; obtain ⟨a1, b1⟩ := k1.read; have zl := k1.lt))))
      have hB1 : Below w.heap.size w w1 := by (repeat' (first | (with_reducible exact Below.refl _ _) | (with_reducible assumption) | (with_reducible refine belowThru ?_ (by assumption)) | (with_reducible refine belowAlloc ?_) | (with_reducible refine Below.setCell ?_ (by first | omega | (simp; done) | (simp; omega)) _) | (with_reducible refine Below.drew ?_) | (with_reducible refine below_drewN ?_ _)))
      clear hb
      go_wp2_with fail
      refine (HV2.out _ (H2.out.later (by (repeat' (first | (with_reducible exact Below.refl _ _) | (with_reducible assumption) | (with_reducible refine belowThru ?_ (by assumption)) | (with_reducible refine belowAlloc ?_) | (with_reducible refine Below.setCell ?_ (by first | omega | (simp; done) | (simp; omega)) _) | (with_reducible refine Below.drew ?_) | (with_reducible refine below_drewN ?_ _)))))).mono ?_
      rintro e w2 ⟨rfl, hb⟩
      (try (have zk := k0.lt; (first | ((with_reducible refine Blk.keepG hb k0 (fun h => ?_) ?_); (focus ((repeat' (first | (with_reducible assumption) | ((with_reducible refine Blk.new ?_); first | rfl | (simp; done)) | (with_reducible refine Blk.later (by assumption) ?_) | (with_reducible refine Blk.alloc ?_) | (with_reducible refine Blk.drewN ?_) | (with_reducible refine Blk.drew ?_) | (with_reducible refine Blk.other ?_ (by first | omega | (simp; done) | (simp; omega))))); done)); clear k0; intro k0) | (with_reducible replace k0 := Blk.later hb (Blk.set (Blk.set k0))) | (with_reducible replace k0 := Blk.later hb (Blk.set k0))); clear a0 b0; obtain ⟨a0, b0⟩ := k0.read; have zl := k0.lt)); (try (have zk := k1.lt; (first | ((with_reducible refine Blk.keepG hb k1 (fun h => ?_) ?_); (focus ((repeat' (first | (with_reducible assumption) | ((with_reducible refine Blk.new ?_); first | rfl | (simp; done)) | (with_reducible refine Blk.later (by assumption) ?_) | (with_reducible refine Blk.alloc ?_) | (with_reducible refine Blk.drewN ?_) | (with_reducible refine Blk.drew ?_) | (with_reducible refine Blk.other ?_ (by first | omega | (simp; done) | (simp; omega))))); done)); clear k1; intro k1) | (with_reducible replace k1 := Blk.later hb (Blk.set (Blk.set k1))) | (with_reducible replace k1 := Blk.later hb (Blk.set k1))); clear a1 b1; obtain ⟨a1, b1⟩ := k1.read; have zl := k1.lt))
      go_wp2_with fail
      go_ret
      exact ⟨rfl, by (repeat' (first | (with_reducible exact Below.refl _ _) | (with_reducible assumption) | (with_reducible refine belowThru ?_ (by assumption)) | (with_reducible refine belowAlloc ?_) | (with_reducible refine Below.setCell ?_ (by first | omega | (simp; done) | (simp; omega)) _) | (with_reducible refine Below.drew ?_) | (with_reducible refine below_drewN ?_ _)))⟩
  · have HV1 : Hid (∀ w, Row w a n (iv xs) → Calls Try.prog 43 #[.agg #[.int .i64 W, .int .i64 H, .slice a n c]] w fun e w' => e = .returned (.bool false) ∧ Below w.heap.size w w') := fun w h => rvalid_no hI a n c hn w h
    clear hR hS hn hm hI hx
    go_enter Try.func40, Try.ntmps40
    go_wp2_with fail
    refine (HV1.out _ (H1.out.later (by (repeat' (first | (with_reducible exact Below.refl _ _) | (with_reducible assumption) | (with_reducible refine belowThru ?_ (by assumption)) | (with_reducible refine belowAlloc ?_) | (with_reducible refine Below.setCell ?_ (by first | omega | (simp; done) | (simp; omega)) _) | (with_reducible refine Below.drew ?_) | (with_reducible refine below_drewN ?_ _)))))).mono ?_
    rintro e w1 ⟨rfl, hb⟩; (first | ((with_reducible have k0 := Blk.later hb (Blk.alloc (Blk.new rfl))); (with_reducible have k1 := Blk.later hb (Blk.new rfl)); simp only [World.size_alloc] at k1; obtain ⟨a0, b0⟩ := k0.read; have zl := k0.lt; obtain ⟨a1, b1⟩ := k1.read; have zl := k1.lt) | ((try (have zk := k0.lt; (first | ((with_reducible refine Blk.keepG hb k0 (fun h => ?_) ?_); (focus ((repeat' (first | (with_reducible assumption) | ((with_reducible refine Blk.new ?_); first | rfl | (simp; done)) | (with_reducible refine Blk.later (by assumption) ?_) | (with_reducible refine Blk.alloc ?_) | (with_reducible refine Blk.drewN ?_) | (with_reducible refine Blk.drew ?_) | (with_reducible refine Blk.other ?_ (by first | omega | (simp; done) | (simp; omega))))); done)); clear k0; intro k0) | (with_reducible replace k0 := Blk.later hb (Blk.set (Blk.set k0))) | (with_reducible replace k0 := Blk.later hb (Blk.set k0))); clear a0 b0; obtain ⟨a0, b0⟩ := k0.read; have zl := k0.lt)); (try (have zk := k1.lt; (first | ((with_reducible refine Blk.keepG hb k1 (fun h => ?_) ?_); (focus ((repeat' (first | (with_reducible assumption) | ((with_reducible refine Blk.new ?_); first | rfl | (simp; done)) | (with_reducible refine Blk.later (by assumption) ?_) | (with_reducible refine Blk.alloc ?_) | (with_reducible refine Blk.drewN ?_) | (with_reducible refine Blk.drew ?_) | (with_reducible refine Blk.other ?_ (by first | omega | (simp; done) | (simp; omega))))); done)); clear k1; intro k1) | (with_reducible replace k1 := Blk.later hb (Blk.set (Blk.set k1))) | (with_reducible replace k1 := Blk.later hb (Blk.set k1))); clear a1 b1; obtain ⟨a1, b1⟩ := k1.read; have zl := k1.lt))))
    have hB1 : Below w.heap.size w w1 := by (repeat' (first | (with_reducible exact Below.refl _ _) | (with_reducible assumption) | (with_reducible refine belowThru ?_ (by assumption)) | (with_reducible refine belowAlloc ?_) | (with_reducible refine Below.setCell ?_ (by first | omega | (simp; done) | (simp; omega)) _) | (with_reducible refine Below.drew ?_) | (with_reducible refine below_drewN ?_ _)))
    clear hb
    go_wp2_with fail
    go_ret
    exact ⟨rfl, by (repeat' (first | (with_reducible exact Below.refl _ _) | (with_reducible assumption) | (with_reducible refine belowThru ?_ (by assumption)) | (with_reducible refine belowAlloc ?_) | (with_reducible refine Below.setCell ?_ (by first | omega | (simp; done) | (simp; omega)) _) | (with_reducible refine Below.drew ?_) | (with_reducible refine below_drewN ?_ _)))⟩
end Go.Proofs.Ytghmjdmiaajbnaa
/-
  Layer 2: whether all values of an image, or all factors of a kernel, are small.
-/
namespace Go.Proofs.Ytghmjdmiaajbnaa
open Go.RowKit
set_option linter.unusedVariables false
set_option linter.unusedSimpArgs false

/-- The first numbers are from -M to M. -/
def modN (zs : List Int) (M : Int) (k : Nat) : Prop := ∀ j : Nat, j < k → -M ≤ zs[j]?.getD 0 ∧ zs[j]?.getD 0 ≤ M
instance (zs : List Int) (M : Int) (k : Nat) : Decidable (modN zs M k) := inferInstanceAs (Decidable (∀ j : Nat, j < k → _))
theorem modN.snoc {zs : List Int} {M : Int} {k : Nat} {u : Int} (h : modN zs M k) (hu : zs[k]? = some u) (h1 : -M ≤ u) (h2 : u ≤ M) : modN zs M (k + 1) := by
  intro j hj
  by_cases e : j = k
  · subst e; rw [hu]; exact ⟨h1, h2⟩
  · exact h j (by omega)
set_option maxRecDepth 100000 in
set_option maxHeartbeats 4000000 in
theorem modest_any (W H M : Int) (hM0 : 0 ≤ M) (hM1 : M ≤ 1000000) (a : Option Addr) (n c : Nat) (zs : List Int) (hn : n ≤ maxLen) (w : World) (hR : Row w a n (iv zs)) :
    Calls Try.prog 45 #[.agg #[.int .i64 W, .int .i64 H, .slice a n c], .int .i64 M] w fun e w' => e = .returned (.bool (decide (modN zs M n))) ∧ Below w.heap.size w w' := by
  unfold maxLen at hn
  have HR := Lib.hid hR
  clear hR
  go_enter Try.func45, Try.ntmps45
  go_wp2
  have kA : Blk (w.alloc (.cells #[.int .i64 W, .int .i64 H, .slice a n c] 24)) w.heap.size #[.int .i64 W, .int .i64 H, .slice a n c] 24 := by (repeat' (first | (with_reducible assumption) | ((with_reducible refine Blk.new ?_); first | rfl | (simp; done)) | (with_reducible refine Blk.later (by assumption) ?_) | (with_reducible refine Blk.alloc ?_) | (with_reducible refine Blk.drewN ?_) | (with_reducible refine Blk.drew ?_) | (with_reducible refine Blk.other ?_ (by first | omega | (simp; done) | (simp; omega)))))
  go_loopw [5] (fun i wr => ∃ k : Nat, k ≤ n ∧ i = .int .i64 k ∧ Hid (modN zs M k) ∧ Blk wr w.heap.size #[.int .i64 W, .int .i64 H, .slice a n c] 24 ∧ Below w.heap.size w wr) (fun i _ => n - (intOf i).toNat)
  case atStart => exact ⟨0, Nat.zero_le _, rfl, (show modN zs M 0 from fun j h => absurd h (by omega)), kA, by (repeat' (first | (with_reducible exact Below.refl _ _) | (with_reducible assumption) | (with_reducible refine belowThru ?_ (by assumption)) | (with_reducible refine belowAlloc ?_) | (with_reducible refine Below.setCell ?_ (by first | omega | (simp; done) | (simp; omega)) _) | (with_reducible refine Below.drew ?_) | (with_reducible refine below_drewN ?_ _)))⟩
  case round =>
    clear kA
    obtain ⟨k, hk, rfl, ht, kA, hB⟩ := hrel
    obtain ⟨aA, bA⟩ := kA.read
    by_cases hlt : k < n
    · obtain ⟨b1, o1, z1, rfl, l1, h1, c1⟩ := HR.out.int hlt
      have c1 := cell_later hB c1
      have p0 : (0 : Int) ≤ (k : Int) := by omega
      have p1 : (k : Int) < (n : Int) := by omega
      by_cases he : z1 < -M
      · have HZ : Hid (decide (modN zs M n) = false) := decide_eq_false (fun h => by have := (h k hlt).1; rw [h1] at this; dsimp only [Option.getD_some] at this; omega)
        clear h1 ht
        go_wp2
        go_ret
        exact ⟨by first | rfl | (rw [HZ.out]; first | rfl | simp), by (repeat' (first | (with_reducible exact Below.refl _ _) | (with_reducible assumption) | (with_reducible refine belowThru ?_ (by assumption)) | (with_reducible refine belowAlloc ?_) | (with_reducible refine Below.setCell ?_ (by first | omega | (simp; done) | (simp; omega)) _) | (with_reducible refine Below.drew ?_) | (with_reducible refine below_drewN ?_ _)))⟩
      · by_cases he2 : M < z1
        · have HZ : Hid (decide (modN zs M n) = false) := decide_eq_false (fun h => by have := (h k hlt).2; rw [h1] at this; dsimp only [Option.getD_some] at this; omega)
          clear h1 ht
          go_wp2
          go_ret
          exact ⟨by first | rfl | (rw [HZ.out]; first | rfl | simp), by (repeat' (first | (with_reducible exact Below.refl _ _) | (with_reducible assumption) | (with_reducible refine belowThru ?_ (by assumption)) | (with_reducible refine belowAlloc ?_) | (with_reducible refine Below.setCell ?_ (by first | omega | (simp; done) | (simp; omega)) _) | (with_reducible refine Below.drew ?_) | (with_reducible refine below_drewN ?_ _)))⟩
        · have ht' : Hid (modN zs M (k + 1)) := ht.out.snoc h1 (by omega) (by omega)
          clear h1 ht
          go_wp2
          go_roundw
          case rel => exact ⟨k + 1, hlt, by go_num, ht', by (repeat' (first | (with_reducible assumption) | ((with_reducible refine Blk.new ?_); first | rfl | (simp; done)) | (with_reducible refine Blk.later (by assumption) ?_) | (with_reducible refine Blk.alloc ?_) | (with_reducible refine Blk.drewN ?_) | (with_reducible refine Blk.drew ?_) | (with_reducible refine Blk.other ?_ (by first | omega | (simp; done) | (simp; omega))))), by (repeat' (first | (with_reducible exact Below.refl _ _) | (with_reducible assumption) | (with_reducible refine belowThru ?_ (by assumption)) | (with_reducible refine belowAlloc ?_) | (with_reducible refine Below.setCell ?_ (by first | omega | (simp; done) | (simp; omega)) _) | (with_reducible refine Below.drew ?_) | (with_reducible refine below_drewN ?_ _)))⟩
          case measure => simp [intOf]; omega
    · have e : k = n := by omega
      subst e
      have HZ : Hid (decide (modN zs M k) = true) := decide_eq_true ht.out
      clear ht
      go_wp2
      go_ret
      exact ⟨by first | rfl | (rw [HZ.out]; first | rfl | simp), by (repeat' (first | (with_reducible exact Below.refl _ _) | (with_reducible assumption) | (with_reducible refine belowThru ?_ (by assumption)) | (with_reducible refine belowAlloc ?_) | (with_reducible refine Below.setCell ?_ (by first | omega | (simp; done) | (simp; omega)) _) | (with_reducible refine Below.drew ?_) | (with_reducible refine below_drewN ?_ _)))⟩
theorem modest_yes (W H M : Int) (hM0 : 0 ≤ M) (hM1 : M ≤ 1000000) (a : Option Addr) (n c : Nat) (zs : List Int) (hn : n ≤ maxLen) (h : modN zs M n) (w : World) (hR : Row w a n (iv zs)) :
    Calls Try.prog 45 #[.agg #[.int .i64 W, .int .i64 H, .slice a n c], .int .i64 M] w fun e w' => e = .returned (.bool true) ∧ Below w.heap.size w w' := by
  have := modest_any W H M hM0 hM1 a n c zs hn w hR; rw [decide_eq_true h] at this; exact this
theorem modest_no (W H M : Int) (hM0 : 0 ≤ M) (hM1 : M ≤ 1000000) (a : Option Addr) (n c : Nat) (zs : List Int) (hn : n ≤ maxLen) (h : ¬ modN zs M n) (w : World) (hR : Row w a n (iv zs)) :
    Calls Try.prog 45 #[.agg #[.int .i64 W, .int .i64 H, .slice a n c], .int .i64 M] w fun e w' => e = .returned (.bool false) ∧ Below w.heap.size w w' := by
  have := modest_any W H M hM0 hM1 a n c zs hn w hR; rw [decide_eq_false h] at this; exact this
set_option maxRecDepth 100000 in
set_option maxHeartbeats 4000000 in
theorem small_any (W H M : Int) (hM0 : 0 ≤ M) (hM1 : M ≤ 1000000) (a : Option Addr) (n c : Nat) (zs : List Int) (hn : n ≤ maxLen) (w : World) (hR : Row w a n (iv zs)) :
    Calls Try.prog 46 #[.agg #[.int .i64 W, .int .i64 H, .slice a n c], .int .i64 M] w fun e w' => e = .returned (.bool (decide (modN zs M n))) ∧ Below w.heap.size w w' := by
  unfold maxLen at hn
  have HR := Lib.hid hR
  clear hR
  go_enter Try.func46, Try.ntmps46
  go_wp2
  have kA : Blk (w.alloc (.cells #[.int .i64 W, .int .i64 H, .slice a n c] 36)) w.heap.size #[.int .i64 W, .int .i64 H, .slice a n c] 36 := by (repeat' (first | (with_reducible assumption) | ((with_reducible refine Blk.new ?_); first | rfl | (simp; done)) | (with_reducible refine Blk.later (by assumption) ?_) | (with_reducible refine Blk.alloc ?_) | (with_reducible refine Blk.drewN ?_) | (with_reducible refine Blk.drew ?_) | (with_reducible refine Blk.other ?_ (by first | omega | (simp; done) | (simp; omega)))))
  go_loopw [5] (fun i wr => ∃ k : Nat, k ≤ n ∧ i = .int .i64 k ∧ Hid (modN zs M k) ∧ Blk wr w.heap.size #[.int .i64 W, .int .i64 H, .slice a n c] 36 ∧ Below w.heap.size w wr) (fun i _ => n - (intOf i).toNat)
  case atStart => exact ⟨0, Nat.zero_le _, rfl, (show modN zs M 0 from fun j h => absurd h (by omega)), kA, by (repeat' (first | (with_reducible exact Below.refl _ _) | (with_reducible assumption) | (with_reducible refine belowThru ?_ (by assumption)) | (with_reducible refine belowAlloc ?_) | (with_reducible refine Below.setCell ?_ (by first | omega | (simp; done) | (simp; omega)) _) | (with_reducible refine Below.drew ?_) | (with_reducible refine below_drewN ?_ _)))⟩
  case round =>
    clear kA
    obtain ⟨k, hk, rfl, ht, kA, hB⟩ := hrel
    obtain ⟨aA, bA⟩ := kA.read
    by_cases hlt : k < n
    · obtain ⟨b1, o1, z1, rfl, l1, h1, c1⟩ := HR.out.int hlt
      have c1 := cell_later hB c1
      have p0 : (0 : Int) ≤ (k : Int) := by omega
      have p1 : (k : Int) < (n : Int) := by omega
      by_cases he : z1 < -M
      · have HZ : Hid (decide (modN zs M n) = false) := decide_eq_false (fun h => by have := (h k hlt).1; rw [h1] at this; dsimp only [Option.getD_some] at this; omega)
        clear h1 ht
        go_wp2
        go_ret
        exact ⟨by first | rfl | (rw [HZ.out]; first | rfl | simp), by (repeat' (first | (with_reducible exact Below.refl _ _) | (with_reducible assumption) | (with_reducible refine belowThru ?_ (by assumption)) | (with_reducible refine belowAlloc ?_) | (with_reducible refine Below.setCell ?_ (by first | omega | (simp; done) | (simp; omega)) _) | (with_reducible refine Below.drew ?_) | (with_reducible refine below_drewN ?_ _)))⟩
      · by_cases he2 : M < z1
        · have HZ : Hid (decide (modN zs M n) = false) := decide_eq_false (fun h => by have := (h k hlt).2; rw [h1] at this; dsimp only [Option.getD_some] at this; omega)
          clear h1 ht
          go_wp2
          go_ret
          exact ⟨by first | rfl | (rw [HZ.out]; first | rfl | simp), by (repeat' (first | (with_reducible exact Below.refl _ _) | (with_reducible assumption) | (with_reducible refine belowThru ?_ (by assumption)) | (with_reducible refine belowAlloc ?_) | (with_reducible refine Below.setCell ?_ (by first | omega | (simp; done) | (simp; omega)) _) | (with_reducible refine Below.drew ?_) | (with_reducible refine below_drewN ?_ _)))⟩
        · have ht' : Hid (modN zs M (k + 1)) := ht.out.snoc h1 (by omega) (by omega)
          clear h1 ht
          go_wp2
          go_roundw
          case rel => exact ⟨k + 1, hlt, by go_num, ht', by (repeat' (first | (with_reducible assumption) | ((with_reducible refine Blk.new ?_); first | rfl | (simp; done)) | (with_reducible refine Blk.later (by assumption) ?_) | (with_reducible refine Blk.alloc ?_) | (with_reducible refine Blk.drewN ?_) | (with_reducible refine Blk.drew ?_) | (with_reducible refine Blk.other ?_ (by first | omega | (simp; done) | (simp; omega))))), by (repeat' (first | (with_reducible exact Below.refl _ _) | (with_reducible assumption) | (with_reducible refine belowThru ?_ (by assumption)) | (with_reducible refine belowAlloc ?_) | (with_reducible refine Below.setCell ?_ (by first | omega | (simp; done) | (simp; omega)) _) | (with_reducible refine Below.drew ?_) | (with_reducible refine below_drewN ?_ _)))⟩
          case measure => simp [intOf]; omega
    · have e : k = n := by omega
      subst e
      have HZ : Hid (decide (modN zs M k) = true) := decide_eq_true ht.out
      clear ht
      go_wp2
      go_ret
      exact ⟨by first | rfl | (rw [HZ.out]; first | rfl | simp), by (repeat' (first | (with_reducible exact Below.refl _ _) | (with_reducible assumption) | (with_reducible refine belowThru ?_ (by assumption)) | (with_reducible refine belowAlloc ?_) | (with_reducible refine Below.setCell ?_ (by first | omega | (simp; done) | (simp; omega)) _) | (with_reducible refine Below.drew ?_) | (with_reducible refine below_drewN ?_ _)))⟩
theorem small_yes (W H M : Int) (hM0 : 0 ≤ M) (hM1 : M ≤ 1000000) (a : Option Addr) (n c : Nat) (zs : List Int) (hn : n ≤ maxLen) (h : modN zs M n) (w : World) (hR : Row w a n (iv zs)) :
    Calls Try.prog 46 #[.agg #[.int .i64 W, .int .i64 H, .slice a n c], .int .i64 M] w fun e w' => e = .returned (.bool true) ∧ Below w.heap.size w w' := by
  have := small_any W H M hM0 hM1 a n c zs hn w hR; rw [decide_eq_true h] at this; exact this
theorem small_no (W H M : Int) (hM0 : 0 ≤ M) (hM1 : M ≤ 1000000) (a : Option Addr) (n c : Nat) (zs : List Int) (hn : n ≤ maxLen) (h : ¬ modN zs M n) (w : World) (hR : Row w a n (iv zs)) :
    Calls Try.prog 46 #[.agg #[.int .i64 W, .int .i64 H, .slice a n c], .int .i64 M] w fun e w' => e = .returned (.bool false) ∧ Below w.heap.size w w' := by
  have := small_any W H M hM0 hM1 a n c zs hn w hR; rw [decide_eq_false h] at this; exact this
end Go.Proofs.Ytghmjdmiaajbnaa
/-
  Layer 2: dilated and eroded images as greatest and least values: the plain mathematics.
-/
namespace Go.Proofs.Ytghmjdmiaajbnaa
open Go.RowKit
set_option linter.unusedVariables false
set_option linter.unusedSimpArgs false

theorem place_of {W H x y : Int} (hW : okS W) (hH : okS H) (h : inP W H x y) : ∃ p : Nat, (p : Int) < W * H ∧ (p : Int) % W = x ∧ (p : Int) / W = y ∧ y * W + x = (p : Int) := by
  obtain ⟨p, e, hlt, -, -⟩ := inP_at hW hH h
  obtain ⟨⟨x0, x1⟩, -, -⟩ := h
  refine ⟨p, hlt, ?_, ?_, e⟩
  · rw [← e, Int.add_comm, Int.add_mul_emod_self_right]; exact Int.emod_eq_of_lt x0 x1
  · rw [← e, Int.add_comm, Int.add_mul_ediv_right _ _ (by omega), Int.ediv_eq_zero_of_lt x0 x1, Int.zero_add]
theorem px_of {W H x y : Int} {zs : List Int} {p : Nat} (e : y * W + x = (p : Int)) : pixAt W zs x y = zs[p]?.getD 0 := by
  unfold pixAt; rw [e]; rfl
/-- What holds of all places holds of all pixels, and the other way round. -/
theorem all_places {W H : Int} {n : Nat} (hW : okS W) (hH : okS H) (hN : W * H = (n : Int)) (P : Int → Int → Prop) : (∀ k : Nat, k < n → P ((k : Int) % W) ((k : Int) / W)) ↔ ∀ x y, inP W H x y → P x y := by
  constructor
  · intro h x y hp
    obtain ⟨p, hlt, e1, e2, -⟩ := place_of hW hH hp
    have := h p (by omega)
    rwa [e1, e2] at this
  · intro h k hk
    exact h _ _ (place_in hW hH hN hk)
theorem made_get {n : Nat} {V : Nat → Int} {k : Nat} (hk : k < n) : (made n V)[k]? = some (V k) := by
  unfold made; rw [List.getElem?_map, List.getElem?_range hk]; rfl
theorem okI_made {W H : Int} {n : Nat} {zs : List Int} (hI : okI W H zs) (hn : zs.length = n) (V : Nat → Int) (hV : ∀ k, k < n → okV (V k)) : okI W H (made n V) := by
  refine ⟨hI.1, by rw [made_length, ← hn]; exact hI.2.1, fun z hz => ?_⟩
  obtain ⟨k, hk, rfl⟩ := List.mem_map.1 hz
  exact hV k (List.mem_range.1 hk)
/-- The order of images, by places. -/
def leP (W H : Int) (xs ys : List Int) : Prop := ∀ x y, inP W H x y → pixAt W xs x y ≤ pixAt W ys x y
theorem leP.refl (W H : Int) (xs : List Int) : leP W H xs xs := fun _ _ _ => Int.le_refl _
theorem leP.trans {W H : Int} {xs ys zs : List Int} (h : leP W H xs ys) (k : leP W H ys zs) : leP W H xs zs := fun x y hp => Int.le_trans (h x y hp) (k x y hp)
theorem leP_of {W H : Int} {n : Nat} {xs ys : List Int} (hI : okI W H xs) (hn : xs.length = n) : (∀ j : Nat, j < n → xs[j]?.getD 0 ≤ ys[j]?.getD 0) ↔ leP W H xs ys := by
  have hN : W * H = (n : Int) := by rw [← hn]; exact hI.2.1.symm
  unfold leP
  rw [← all_places hI.1.1 hI.1.2 hN (fun x y => pixAt W xs x y ≤ pixAt W ys x y)]
  have e : ∀ (zs : List Int) (k : Nat), pixAt W zs ((k : Int) % W) ((k : Int) / W) = zs[k]?.getD 0 := fun zs k => px_of (H := H) (by have := Int.mul_ediv_add_emod (k : Int) W; rw [Int.mul_comm]; omega)
  exact ⟨fun h k hk => by rw [e, e]; exact h k hk, fun h k hk => by have := h k hk; rwa [e, e] at this⟩
theorem leP_anti {W H : Int} {n : Nat} {xs ys : List Int} (hI : okI W H xs) (hJ : okI W H ys) (hn : xs.length = n) (h : leP W H xs ys) (k : leP W H ys xs) : xs = ys := by
  have hn2 : ys.length = n := by have := hI.2.1; have := hJ.2.1; omega
  have h1 := (leP_of hI hn).2 h
  have h2 := (leP_of hJ hn2).2 k
  apply List.ext_getElem (by omega)
  intro i i1 i2
  have a := h1 i (by omega)
  have b := h2 i (by omega)
  rw [List.getElem?_eq_getElem i1, List.getElem?_eq_getElem i2] at a b
  exact Int.le_antisymm a b
end Go.Proofs.Ytghmjdmiaajbnaa
/-
  Layer 2: operations of two images: by their numbers; where they are refused.
-/
namespace Go.Proofs.Ytghmjdmiaajbnaa
open Go.RowKit
set_option linter.unusedVariables false
set_option linter.unusedSimpArgs false

theorem zip_ok (W H how : Int) (a a' : Option Addr) (n c c' : Nat) (za zb : List Int) (hI : okI W H za) (hJ : okI W H zb) (h1 : 1 ≤ how) (h2 : how ≤ 6) (hn : n ≤ maxLen) (w : World) (hR : Row w a n (iv za)) (hS : Row w a' n (iv zb)) :
    Calls Try.prog 17 #[.agg #[.int .i64 W, .int .i64 H, .slice a n c], .agg #[.int .i64 W, .int .i64 H, .slice a' n c'], .int .u8 how] w (RetI W H (zipL how n za zb) 0 w) := by
  have hc : how = 1 ∨ how = 2 ∨ how = 3 ∨ how = 4 ∨ how = 5 ∨ how = 6 := by omega
  rcases hc with rfl | rfl | rfl | rfl | rfl | rfl
  · exact zip_walk W H 1 97 a a' n c c' za zb hI hJ (by omega) (by omega) hn w hR hS (fun _ => by kernel_rfl) (enters_of Try.func97 (by kernel_rfl) rfl) (Lib.hid (fun x y hx hy w => oper1_any x y hx hy w))
  · exact zip_walk W H 2 98 a a' n c c' za zb hI hJ (by omega) (by omega) hn w hR hS (fun _ => by kernel_rfl) (enters_of Try.func98 (by kernel_rfl) rfl) (Lib.hid (fun x y hx hy w => oper2_any x y hx hy w))
  · exact zip_walk W H 3 99 a a' n c c' za zb hI hJ (by omega) (by omega) hn w hR hS (fun _ => by kernel_rfl) (enters_of Try.func99 (by kernel_rfl) rfl) (Lib.hid (fun x y hx hy w => oper3_any x y w))
  · exact zip_walk W H 4 100 a a' n c c' za zb hI hJ (by omega) (by omega) hn w hR hS (fun _ => by kernel_rfl) (enters_of Try.func100 (by kernel_rfl) rfl) (Lib.hid (fun x y hx hy w => oper4_any x y w))
  · exact zip_walk W H 5 101 a a' n c c' za zb hI hJ (by omega) (by omega) hn w hR hS (fun _ => by kernel_rfl) (enters_of Try.func101 (by kernel_rfl) rfl) (Lib.hid (fun x y hx hy w => oper5_any x y hx hy w))
  · exact zip_walk W H 6 102 a a' n c c' za zb hI hJ (by omega) (by omega) hn w hR hS (fun _ => by kernel_rfl) (enters_of Try.func102 (by kernel_rfl) rfl) (Lib.hid (fun x y hx hy w => oper6_any x y hx hy w))

end Go.Proofs.Ytghmjdmiaajbnaa
/-
  Layer 2: dilating goes through the greater one of two images, eroding through the lesser one: the plain mathematics.
-/
namespace Go.Proofs.Ytghmjdmiaajbnaa
open Go.RowKit
set_option linter.unusedVariables false
set_option linter.unusedSimpArgs false

theorem zipL_len {how : Int} {n : Nat} {xs ys : List Int} : (zipL how n xs ys).length = n := by unfold zipL; rw [made_length]
theorem zipL_ok {W H how : Int} {n : Nat} {xs ys : List Int} (hI : okI W H xs) (hn : xs.length = n) : okI W H (zipL how n xs ys) :=
  okI_made hI hn _ fun k _ => by unfold inR okV; omega
end Go.Proofs.Ytghmjdmiaajbnaa
/-
  Layer 2: convolution is linear: the plain mathematics.
-/
namespace Go.Proofs.Ytghmjdmiaajbnaa
open Go.RowKit
set_option linter.unusedVariables false
set_option linter.unusedSimpArgs false

theorem inR_in {x lo hi : Int} (h : lo ≤ hi) : lo ≤ inR x lo hi ∧ inR x lo hi ≤ hi := by unfold inR; omega
/-- A value beyond the border is 0 for every image, or that of one place for every image. -/
theorem bey_form (j : Int) {W H : Int} (hW : okS W) (hH : okS H) (x y : Int) : (∀ zs, bey j W H zs x y = 0) ∨ ∃ X Y, inP W H X Y ∧ ∀ zs, bey j W H zs x y = pixAt W zs X Y := by
  obtain ⟨w0, w1⟩ := hW; obtain ⟨h0, h1⟩ := hH
  by_cases hp : inP W H x y
  · exact .inr ⟨x, y, hp, fun zs => by unfold bey; rw [if_pos hp]⟩
  · by_cases e1 : j = 1
    · exact .inl fun zs => by unfold bey; rw [if_neg hp, if_pos e1]
    · by_cases e2 : j = 2
      · have a := inR_in (x := x) (show (0 : Int) ≤ W - 1 by omega); have b := inR_in (x := y) (show (0 : Int) ≤ H - 1 by omega)
        exact .inr ⟨_, _, ⟨⟨a.1, by omega⟩, b.1, by omega⟩, fun zs => by unfold bey; rw [if_neg hp, if_neg e1, if_pos e2]⟩
      · exact .inr ⟨x % W, y % H, ⟨⟨Int.emod_nonneg _ (by omega), Int.emod_lt_of_pos _ (by omega)⟩, Int.emod_nonneg _ (by omega), Int.emod_lt_of_pos _ (by omega)⟩, fun zs => by unfold bey; rw [if_neg hp, if_neg e1, if_neg e2]⟩
theorem modN.at {zs : List Int} {M : Int} {n : Nat} (h : modN zs M n) (hn : zs.length = n) (hM : 0 ≤ M) (k : Nat) : -M ≤ zs[k]?.getD 0 ∧ zs[k]?.getD 0 ≤ M := by
  by_cases hk : k < n
  · exact h k hk
  · rw [List.getElem?_eq_none (by omega)]; exact ⟨by show -M ≤ 0; omega, hM⟩
theorem modN.pix {zs : List Int} {M W : Int} {n : Nat} (h : modN zs M n) (hn : zs.length = n) (hM : 0 ≤ M) (x y : Int) : -M ≤ pixAt W zs x y ∧ pixAt W zs x y ≤ M := h.at hn hM _
theorem modN.bey {zs : List Int} {M : Int} {n : Nat} (h : modN zs M n) (hn : zs.length = n) (hM : 0 ≤ M) (j : Int) {W H : Int} (hW : okS W) (hH : okS H) (x y : Int) : -M ≤ bey j W H zs x y ∧ bey j W H zs x y ≤ M := by
  rcases bey_form j hW hH x y with e | ⟨X, Y, -, e⟩
  · rw [e]; omega
  · rw [e]; exact h.pix hn hM X Y
theorem mul_bd {a b A B : Int} (ha : -A ≤ a ∧ a ≤ A) (hb : -B ≤ b ∧ b ≤ B) : -(A * B) ≤ a * b ∧ a * b ≤ A * B := by
  have h0 := Int.natAbs_mul a b
  have h3 := Nat.mul_le_mul (show a.natAbs ≤ A.toNat by omega) (show b.natAbs ≤ B.toNat by omega)
  have h4 : ((A.toNat * B.toNat : Nat) : Int) = A * B := by rw [Int.natCast_mul, Int.toNat_of_nonneg (by omega), Int.toNat_of_nonneg (by omega)]
  omega
theorem cvN_mod {j W H KW KH A B : Int} {zs ks : List Int} {n m : Nat} (hW : okS W) (hH : okS H) (hz : modN zs A n) (hn : zs.length = n) (hk : modN ks B m) (hm : ks.length = m) (hA : 0 ≤ A) (hB : 0 ≤ B) (x y : Int) (k : Nat) :
    -((k : Int) * (B * A)) ≤ cvN j W H zs KW KH ks x y k ∧ cvN j W H zs KW KH ks x y k ≤ (k : Int) * (B * A) := by
  induction k with
  | zero => unfold cvN; omega
  | succ k ih =>
    have h := mul_bd (hk.at hm hB k) (hz.bey hn hA j hW hH (x - ((k : Int) % KW - KW / 2)) (y - ((k : Int) / KW - KH / 2)))
    unfold cvN cvT
    rw [Int.natCast_succ, Int.add_mul, Int.one_mul]
    omega
/-- A convolution, as a list. -/
def cvL (j W H SW SH : Int) (bs : List Int) (m n : Nat) (zs : List Int) : List Int := made n fun k => inR (cvN j W H zs SW SH bs ((k : Int) % W) ((k : Int) / W) m) (-2147483648) 2147483648
theorem cvL_len {j W H SW SH : Int} {bs : List Int} {m n : Nat} {zs : List Int} : (cvL j W H SW SH bs m n zs).length = n := by unfold cvL; rw [made_length]
theorem cvL_ok {j W H SW SH : Int} {bs : List Int} {m n : Nat} {zs : List Int} (hI : okI W H zs) (hn : zs.length = n) : okI W H (cvL j W H SW SH bs m n zs) := okI_made hI hn _ fun k _ => by unfold inR okV; omega
theorem pix_sum {W H A : Int} {xs ys : List Int} {n : Nat} (hI : okI W H xs) (hn : xs.length = n) (hn2 : ys.length = n) (hx : modN xs A n) (hy : modN ys A n) (hA : 0 ≤ A) (hA2 : A ≤ 1000000) {x y : Int} (hp : inP W H x y) : pixAt W (zipL 1 n xs ys) x y = pixAt W xs x y + pixAt W ys x y := by
  obtain ⟨p, hlt, e1, e2, e3⟩ := place_of hI.1.1 hI.1.2 hp
  have hL := hI.2.1
  rw [px_of (H := H) e3, px_of (H := H) e3, px_of (H := H) e3]
  unfold zipL
  rw [made_get (by omega), Option.getD_some]
  have a := hx.at hn hA p; have b := hy.at hn2 hA p
  rw [inR_ok]
  · rfl
  · show okV (_ + _); unfold okV; omega
theorem cvN_sum {j W H KW KH A : Int} {xs ys ks : List Int} {n : Nat} (hI : okI W H xs) (hn : xs.length = n) (hn2 : ys.length = n) (hx : modN xs A n) (hy : modN ys A n) (hA : 0 ≤ A) (hA2 : A ≤ 1000000) (x y : Int) (k : Nat) :
    cvN j W H (zipL 1 n xs ys) KW KH ks x y k = cvN j W H xs KW KH ks x y k + cvN j W H ys KW KH ks x y k := by
  induction k with
  | zero => rfl
  | succ k ih =>
    have e : bey j W H (zipL 1 n xs ys) (x - ((k : Int) % KW - KW / 2)) (y - ((k : Int) / KW - KH / 2)) = bey j W H xs (x - ((k : Int) % KW - KW / 2)) (y - ((k : Int) / KW - KH / 2)) + bey j W H ys (x - ((k : Int) % KW - KW / 2)) (y - ((k : Int) / KW - KH / 2)) := by
      rcases bey_form j hI.1.1 hI.1.2 (x - ((k : Int) % KW - KW / 2)) (y - ((k : Int) / KW - KH / 2)) with e | ⟨X, Y, hp, e⟩
      · rw [e, e, e]; rfl
      · rw [e, e, e]; exact pix_sum hI hn hn2 hx hy hA hA2 hp
    unfold cvN cvT
    rw [ih, e, Int.mul_add]; omega
theorem conv_sum {j W H SW SH : Int} {xs ys bs : List Int} {n m : Nat} (hI : okI W H xs) (hn : xs.length = n) (hn2 : ys.length = n) (hx : modN xs 1000 n) (hy : modN ys 1000 n) (hk : modN bs 1000 m) (hm : bs.length = m) (hm2 : m ≤ 25) :
    cvL j W H SW SH bs m n (zipL 1 n xs ys) = zipL 1 n (cvL j W H SW SH bs m n xs) (cvL j W H SW SH bs m n ys) := by
  unfold cvL made
  refine List.map_congr_left fun k hkk => ?_
  have hkk := List.mem_range.1 hkk
  have g1 := made_get (V := fun k => inR (cvN j W H xs SW SH bs ((k : Int) % W) ((k : Int) / W) m) (-2147483648) 2147483648) hkk
  have g2 := made_get (V := fun k => inR (cvN j W H ys SW SH bs ((k : Int) % W) ((k : Int) / W) m) (-2147483648) 2147483648) hkk
  unfold made at g1 g2
  show inR _ _ _ = inR (_ + _) _ _
  rw [g1, g2, Option.getD_some, Option.getD_some, cvN_sum hI hn hn2 hx hy (by omega) (by omega)]
  have b1 := cvN_mod (j := j) (KW := SW) (KH := SH) hI.1.1 hI.1.2 hx hn hk hm (by omega) (by omega) ((k : Int) % W) ((k : Int) / W) m
  have b2 := cvN_mod (j := j) (KW := SW) (KH := SH) hI.1.1 hI.1.2 hy hn2 hk hm (by omega) (by omega) ((k : Int) % W) ((k : Int) / W) m
  have e1 := inR_ok (v := cvN j W H xs SW SH bs ((k : Int) % W) ((k : Int) / W) m) (by unfold okV; omega)
  have e2 := inR_ok (v := cvN j W H ys SW SH bs ((k : Int) % W) ((k : Int) / W) m) (by unfold okV; omega)
  rw [e1, e2]
theorem conv_one {j W H : Int} {xs : List Int} {n : Nat} (hI : okI W H xs) (hn : xs.length = n) : cvL j W H 1 1 [1] 1 n xs = xs := by
  have hN : W * H = (n : Int) := by rw [← hn]; exact hI.2.1.symm
  refine leP_anti (cvL_ok hI hn) hI cvL_len ?_ ?_ <;> intro x y hp
  all_goals
    obtain ⟨p, hlt, e1, e2, e3⟩ := place_of hI.1.1 hI.1.2 hp
    have hv : pixAt W (cvL j W H 1 1 [1] 1 n xs) x y = pixAt W xs x y := by
      rw [px_of (H := H) e3]
      unfold cvL
      rw [made_get (by omega), Option.getD_some, e1, e2]
      have e : cvN j W H xs 1 1 [1] x y 1 = pixAt W xs x y := by
        show 0 + 1 * bey j W H xs (x - (((0 : Nat) : Int) % 1 - 1 / 2)) (y - (((0 : Nat) : Int) / 1 - 1 / 2)) = _
        rw [show x - (((0 : Nat) : Int) % 1 - 1 / 2) = x by omega, show y - (((0 : Nat) : Int) / 1 - 1 / 2) = y by omega]
        unfold bey
        rw [if_pos hp]; omega
      rw [e, inR_ok (pixAt_ok hI x y)]
    rw [hv]; exact Int.le_refl _
end Go.Proofs.Ytghmjdmiaajbnaa
