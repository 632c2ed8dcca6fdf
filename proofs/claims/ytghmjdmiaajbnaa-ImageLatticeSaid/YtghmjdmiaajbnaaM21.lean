/-
  The texts that the laws of this seat share, merged: part 21.
-/
import Derived.BigQuiet
import Derived.Deep.CutRange
import Derived.Deep.DeepCutAuto
import Derived.Deep.Draws
import Derived.Deep.OwnRows
import Derived.Deep.QuietTactic
import Derived.Deep.RegionHeld3
import Derived.Laws.AppendOwn
import Derived.Laws.EntriesVeiled
import Derived.Lib.Hide
import Derived.LoopIn
import Derived.LoopNIn
import Derived.Maps.AppendAt
import Derived.OneCell
import Derived.OwnWalkIn
import Derived.RangeFuncBound
import Derived.RangeFuncCalls
import Derived.RangeFuncLeaves
import Derived.RangeFuncNested
import Derived.Shelf.Abstract
import Derived.Shelf.AbstractIn
import Derived.Shelf.RegionOpen
import Derived.StillTailTactics
import Derived.TacticsInMore
import Derived.Test.YtghmjdmiaajbnaaProg
import Derived.WalkKit
import Derived.WalkSmall
import Derived.WalkSpells
import Derived.Test.YtghmjdmiaajbnaaM7
import Derived.Test.YtghmjdmiaajbnaaM8
import Derived.Test.YtghmjdmiaajbnaaM9
/-
  Layer 2: the statements' own comparisons of two images.
-/
namespace Go.Proofs.Ytghmjdmiaajbnaa
open Go.RowKit
set_option linter.unusedVariables false
set_option linter.unusedSimpArgs false

/-- The first numbers are nowhere greater than those of another list. -/
def leN (xs ys : List Int) (k : Nat) : Prop := ∀ j : Nat, j < k → xs[j]?.getD 0 ≤ ys[j]?.getD 0
instance (xs ys : List Int) (k : Nat) : Decidable (leN xs ys k) := inferInstanceAs (Decidable (∀ j : Nat, j < k → _))
def leB (xs ys : List Int) (n : Nat) : Bool := decide (leN xs ys n)
theorem leN.snoc {xs ys : List Int} {k : Nat} {u v : Int} (h : leN xs ys k) (hu : xs[k]? = some u) (hv : ys[k]? = some v) (hle : u ≤ v) : leN xs ys (k + 1) := by
  intro j hj
  by_cases e : j = k
  · subst e; rw [hu, hv]; exact hle
  · exact h j (by omega)
set_option maxRecDepth 100000 in
set_option maxHeartbeats 2000000 in
theorem below_any (W H : Int) (a b : Option Addr) (n c d : Nat) (xs ys : List Int) (hn : n ≤ maxLen) (w : World) (hR : Row w a n (iv xs)) (hS : Row w b n (iv ys)) :
    Calls Try.prog 42 #[.agg #[.int .i64 W, .int .i64 H, .slice a n c], .agg #[.int .i64 W, .int .i64 H, .slice b n d]] w fun e w' => e = .returned (.bool (leB xs ys n)) ∧ Below w.heap.size w w' := by
  unfold maxLen at hn
  have HR := Lib.hid hR; have HS := Lib.hid hS
  clear hR hS
  go_enter Try.func42, Try.ntmps42
  go_wp2
  have kA : Blk ((w.alloc (.cells #[.int .i64 W, .int .i64 H, .slice a n c] 24)).alloc (.cells #[.int .i64 W, .int .i64 H, .slice b n d] 24)) w.heap.size #[.int .i64 W, .int .i64 H, .slice a n c] 24 := by (repeat' (first | (with_reducible assumption) | ((with_reducible refine Blk.new ?_); first | rfl | (simp; done)) | (with_reducible refine Blk.later (by assumption) ?_) | (with_reducible refine Blk.alloc ?_) | (with_reducible refine Blk.drewN ?_) | (with_reducible refine Blk.drew ?_) | (with_reducible refine Blk.other ?_ (by first | omega | (simp; done) | (simp; omega)))))
  have kB : Blk ((w.alloc (.cells #[.int .i64 W, .int .i64 H, .slice a n c] 24)).alloc (.cells #[.int .i64 W, .int .i64 H, .slice b n d] 24)) (w.heap.size + 1) #[.int .i64 W, .int .i64 H, .slice b n d] 24 := Blk.new (by simp)
  go_loopw [5] (fun i wr => ∃ k : Nat, k ≤ n ∧ i = .int .i64 k ∧ Hid (leN xs ys k) ∧ Blk wr w.heap.size #[.int .i64 W, .int .i64 H, .slice a n c] 24 ∧ Blk wr (w.heap.size + 1) #[.int .i64 W, .int .i64 H, .slice b n d] 24 ∧ Below w.heap.size w wr) (fun i _ => n - (intOf i).toNat)
  case atStart => exact ⟨0, Nat.zero_le _, rfl, (show leN xs ys 0 from fun j h => absurd h (by omega)), kA, kB, by (repeat' (first | (with_reducible exact Below.refl _ _) | (with_reducible assumption) | (with_reducible refine belowThru ?_ (by assumption)) | (with_reducible refine belowAlloc ?_) | (with_reducible refine Below.setCell ?_ (by first | omega | (simp; done) | (simp; omega)) _) | (with_reducible refine Below.drew ?_) | (with_reducible refine below_drewN ?_ _)))⟩
  case round =>
    clear kA kB
    obtain ⟨k, hk, rfl, ht, kA, kB, hB⟩ := hrel
    obtain ⟨aA, bA⟩ := kA.read; obtain ⟨aB, bB⟩ := kB.read
    by_cases hlt : k < n
    · obtain ⟨b1, o1, z1, rfl, l1, h1, c1⟩ := HR.out.int hlt
      obtain ⟨b2, o2, z2, rfl, l2, h2, c2⟩ := HS.out.int hlt
      have c1 := cell_later hB c1
      have c2 := cell_later hB c2
      have p0 : (0 : Int) ≤ (k : Int) := by omega
      have p1 : (k : Int) < (n : Int) := by omega
      by_cases he : z1 ≤ z2
      · have ht' : Hid (leN xs ys (k + 1)) := ht.out.snoc h1 h2 he
        have hd : decide (z2 < z1) = false := decide_eq_false (by omega)
        clear h1 h2 ht he
        go_wp2_with fail
        go_quiet (fail)
        go_wp2
        go_roundw
        case rel => exact ⟨k + 1, hlt, by go_num, ht', kA, kB, by (repeat' (first | (with_reducible exact Below.refl _ _) | (with_reducible assumption) | (with_reducible refine belowThru ?_ (by assumption)) | (with_reducible refine belowAlloc ?_) | (with_reducible refine Below.setCell ?_ (by first | omega | (simp; done) | (simp; omega)) _) | (with_reducible refine Below.drew ?_) | (with_reducible refine below_drewN ?_ _)))⟩
        case measure => simp [intOf]; omega
      · have hd : decide (z2 < z1) = true := decide_eq_true (by omega)
        have HZ : Hid (leB xs ys n = false) := decide_eq_false (fun h => he (by have := h k hlt; rw [h1, h2] at this; exact this))
        clear h1 h2 he ht
        go_wp2_with fail
        go_quiet (fail)
        go_wp2
        go_ret
        exact ⟨by first | rfl | (rw [HZ.out]; first | rfl | simp), by (repeat' (first | (with_reducible exact Below.refl _ _) | (with_reducible assumption) | (with_reducible refine belowThru ?_ (by assumption)) | (with_reducible refine belowAlloc ?_) | (with_reducible refine Below.setCell ?_ (by first | omega | (simp; done) | (simp; omega)) _) | (with_reducible refine Below.drew ?_) | (with_reducible refine below_drewN ?_ _)))⟩
    · have HZ : Hid (leB xs ys n = true) := decide_eq_true (by have e : k = n := by omega
                                                               rw [← e]; exact ht.out)
      clear ht
      go_wp2
      go_ret
      exact ⟨by first | rfl | (rw [HZ.out]; first | rfl | simp), by (repeat' (first | (with_reducible exact Below.refl _ _) | (with_reducible assumption) | (with_reducible refine belowThru ?_ (by assumption)) | (with_reducible refine belowAlloc ?_) | (with_reducible refine Below.setCell ?_ (by first | omega | (simp; done) | (simp; omega)) _) | (with_reducible refine Below.drew ?_) | (with_reducible refine below_drewN ?_ _)))⟩
set_option maxRecDepth 100000 in
set_option maxHeartbeats 2000000 in
theorem sized_yes (W H : Int) (a b : Option Addr) (n m c d : Nat) (xs ys : List Int) (hI : okI W H xs) (hJ : okI W H ys) (hn : n ≤ maxLen) (hm : m ≤ maxLen) (w : World) (hR : Row w a n (iv xs)) (hS : Row w b m (iv ys)) :
    Calls Try.prog 40 #[.agg #[.int .i64 W, .int .i64 H, .slice a n c], .agg #[.int .i64 W, .int .i64 H, .slice b m d]] w fun e w' => e = .returned (.bool true) ∧ Below w.heap.size w w' := by
  have H1 := Lib.hid hR; have H2 := Lib.hid hS; have HI := Lib.hid hI; have HJ := Lib.hid hJ
  have HV1 : Hid (∀ w, Row w a n (iv xs) → Calls Try.prog 43 #[.agg #[.int .i64 W, .int .i64 H, .slice a n c]] w fun e w' => e = .returned (.bool true) ∧ Below w.heap.size w w') := fun w h => rvalid_ok hI a n c hn w h
  have HV2 : Hid (∀ w, Row w b m (iv ys) → Calls Try.prog 43 #[.agg #[.int .i64 W, .int .i64 H, .slice b m d]] w fun e w' => e = .returned (.bool true) ∧ Below w.heap.size w w') := fun w h => rvalid_ok hJ b m d hm w h
  clear hR hS hn hm hI hJ
  go_enter Try.func40, Try.ntmps40
  go_wp2_with fail
  refine (HV1.out _ (H1.out.later (by (repeat' (first | (with_reducible exact Below.refl _ _) | (with_reducible assumption) | (with_reducible refine belowThru ?_ (by assumption)) | (with_reducible refine belowAlloc ?_) | (with_reducible refine Below.setCell ?_ (by first | omega | (simp; done) | (simp; omega)) _) | (with_reducible refine Below.drew ?_) | (with_reducible refine below_drewN ?_ _)))))).mono ?_
  rintro e w1 ⟨rfl, hb⟩; (first | ((with_reducible have k0 := Blk.later hb (Blk.alloc (Blk.new rfl))); (with_reducible have k1 := Blk.later hb (Blk.new rfl)); simp only [World.size_alloc] at k1; obtain ⟨a0, b0⟩ := k0.read; have zl := k0.lt; obtain ⟨a1, b1⟩ := k1.read; have zl := k1.lt) | ((try (have zk := k0.lt; (first | ((with_reducible refine Blk.keepG hb k0 (fun h => ?_) ?_); (focus ((repeat' (first | (with_reducible assumption) | ((with_reducible refine Blk.new ?_); first | rfl | (simp; done)) | (with_reducible refine Blk.later (by assumption) ?_) | (with_reducible refine Blk.alloc ?_) | (with_reducible refine Blk.drewN ?_) | (with_reducible refine Blk.drew ?_) | (with_reducible refine Blk.other ?_ (by first | omega | (simp; done) | (simp; omega))))); done)); clear k0; intro k0) | (with_reducible replace k0 := Blk.later hb (Blk.set (Blk.set k0))) | (with_reducible replace k0 := Blk.later hb (Blk.set k0))); clear a0 b0; obtain ⟨a0, b0⟩ := k0.read; have zl := k0.lt)); (try (have zk := k1.lt; (first | ((with_reducible refine Blk.keepG hb k1 (fun h => ?_) ?_); (focus ((repeat' (first | (with_reducible assumption) | ((with_reducible refine Blk.new ?_); first | rfl | (simp; done)) | (with_reducible refine Blk.later (by assumption) ?_) | (with_reducible refine Blk.alloc ?_) | (with_reducible refine Blk.drewN ?_) | (with_reducible refine Blk.drew ?_) | (with_reducible refine Blk.other ?_ (by first | omega | (simp; done) | (simp; omega))))); done)); clear k1; intro k1) | (with_reducible replace k1 := Blk.later hb (Blk.set (Blk.set k1))) | (with_reducible replace k1 := Blk.later hb (Blk.set k1))); clear a1 b1; obtain ⟨a1, b1⟩ := k1.read; have zl := k1.lt))))
  have hB1 : Below w.heap.size w w1 := by (repeat' (first | (with_reducible exact Below.refl _ _) | (with_reducible assumption) | (with_reducible refine belowThru ?_ (by assumption)) | (with_reducible refine belowAlloc ?_) | (with_reducible refine Below.setCell ?_ (by first | omega | (simp; done) | (simp; omega)) _) | (with_reducible refine Below.drew ?_) | (with_reducible refine below_drewN ?_ _)))
  clear hb
  go_wp2_with fail
  refine (HV2.out _ (H2.out.later (by (repeat' (first | (with_reducible exact Below.refl _ _) | (with_reducible assumption) | (with_reducible refine belowThru ?_ (by assumption)) | (with_reducible refine belowAlloc ?_) | (with_reducible refine Below.setCell ?_ (by first | omega | (simp; done) | (simp; omega)) _) | (with_reducible refine Below.drew ?_) | (with_reducible refine below_drewN ?_ _)))))).mono ?_
  rintro e w2 ⟨rfl, hb⟩
  (try (have zk := k0.lt; (first | ((with_reducible refine Blk.keepG hb k0 (fun h => ?_) ?_); (focus ((repeat' (first | (with_reducible assumption) | ((with_reducible refine Blk.new ?_); first | rfl | (simp; done)) | (with_reducible refine Blk.later (by assumption) ?_) | (with_reducible refine Blk.alloc ?_) | (with_reducible refine Blk.drewN ?_) | (with_reducible refine Blk.drew ?_) | (with_reducible refine Blk.other ?_ (by first | omega | (simp; done) | (simp; omega))))); done)); clear k0; intro k0) | (with_reducible replace k0 := Blk.later hb (Blk.set (Blk.set k0))) | (with_reducible replace k0 := Blk.later hb (Blk.set k0))); clear a0 b0; obtain ⟨a0, b0⟩ := k0.read; have zl := k0.lt)); (try (have zk := k1.lt; (first | ((with_reducible refine Blk.keepG hb k1 (fun h => ?_) ?_); (focus ((repeat' (first | (with_reducible assumption) | ((with_reducible refine Blk.new ?_); first | rfl | (simp; done)) | (with_reducible refine Blk.later (by assumption) ?_) | (with_reducible refine Blk.alloc ?_) | (with_reducible refine Blk.drewN ?_) | (with_reducible refine Blk.drew ?_) | (with_reducible refine Blk.other ?_ (by first | omega | (simp; done) | (simp; omega))))); done)); clear k1; intro k1) | (with_reducible replace k1 := Blk.later hb (Blk.set (Blk.set k1))) | (with_reducible replace k1 := Blk.later hb (Blk.set k1))); clear a1 b1; obtain ⟨a1, b1⟩ := k1.read; have zl := k1.lt))
  go_wp2_with fail
  go_ret
  exact ⟨rfl, by (repeat' (first | (with_reducible exact Below.refl _ _) | (with_reducible assumption) | (with_reducible refine belowThru ?_ (by assumption)) | (with_reducible refine belowAlloc ?_) | (with_reducible refine Below.setCell ?_ (by first | omega | (simp; done) | (simp; omega)) _) | (with_reducible refine Below.drew ?_) | (with_reducible refine below_drewN ?_ _)))⟩
theorem okI_sides {W H W' H' : Int} {xs ys : List Int} (h : ¬ (okI W H xs ∧ okI W' H' ys ∧ W = W' ∧ H = H')) (h1 : okI W H xs) (h2 : okI W' H' ys) : ¬ W = W' ∨ (W = W' ∧ ¬ H = H') := by
  by_cases e : W = W'
  · exact .inr ⟨e, fun e2 => h ⟨h1, h2, e, e2⟩⟩
  · exact .inl e
set_option maxRecDepth 100000 in
set_option maxHeartbeats 2000000 in
theorem sized_no (W H W' H' : Int) (a b : Option Addr) (n m c d : Nat) (xs ys : List Int) (hx : ¬ (okI W H xs ∧ okI W' H' ys ∧ W = W' ∧ H = H')) (hn : n ≤ maxLen) (hm : m ≤ maxLen) (w : World) (hR : Row w a n (iv xs)) (hS : Row w b m (iv ys)) :
    Calls Try.prog 40 #[.agg #[.int .i64 W, .int .i64 H, .slice a n c], .agg #[.int .i64 W', .int .i64 H', .slice b m d]] w fun e w' => e = .returned (.bool false) ∧ Below w.heap.size w w' := by
  have H1 := Lib.hid hR; have H2 := Lib.hid hS
  by_cases hI : okI W H xs
  · have HV1 : Hid (∀ w, Row w a n (iv xs) → Calls Try.prog 43 #[.agg #[.int .i64 W, .int .i64 H, .slice a n c]] w fun e w' => e = .returned (.bool true) ∧ Below w.heap.size w w') := fun w h => rvalid_ok hI a n c hn w h
    by_cases hJ : okI W' H' ys
    · have HV2 : Hid (∀ w, Row w b m (iv ys) → Calls Try.prog 43 #[.agg #[.int .i64 W', .int .i64 H', .slice b m d]] w fun e w' => e = .returned (.bool true) ∧ Below w.heap.size w w') := fun w h => rvalid_ok hJ b m d hm w h
      have hs := okI_sides hx hI hJ
      clear hR hS hn hm hI hJ hx
      rcases hs with hs | ⟨rfl, hs⟩
      all_goals
        have hsb := beq_eq_false_iff_ne.2 hs
        go_enter Try.func40, Try.ntmps40
        go_wp2_with fail
        refine (HV1.out _ (H1.out.later (by (repeat' (first | (with_reducible exact Below.refl _ _) | (with_reducible assumption) | (with_reducible refine belowThru ?_ (by assumption)) | (with_reducible refine belowAlloc ?_) | (with_reducible refine Below.setCell ?_ (by first | omega | (simp; done) | (simp; omega)) _) | (with_reducible refine Below.drew ?_) | (with_reducible refine below_drewN ?_ _)))))).mono ?_
        rintro e w1 ⟨rfl, hb⟩; (first | ((with_reducible have k0 := Blk.later hb (Blk.alloc (Blk.new rfl))); (with_reducible have k1 := Blk.later hb (Blk.new rfl)); simp only [World.size_alloc] at k1; obtain ⟨a0, b0⟩ := k0.read; have zl := k0.lt; obtain ⟨a1, b1⟩ := k1.read; have zl := k1.lt) | ((try (have zk := k0.lt; (first | ((with_reducible refine Blk.keepG hb k0 (fun h => ?_) ?_); (focus ((repeat' (first | (with_reducible assumption) | ((with_reducible refine Blk.new ?_); first | rfl | (simp; done)) | (with_reducible refine Blk.later (by assumption) ?_) | (with_reducible refine Blk.alloc ?_) | (with_reducible refine Blk.drewN ?_) | (with_reducible refine Blk.drew ?_) | (with_reducible refine Blk.other ?_ (by first | omega | (simp; done) | (simp; omega))))); done)); clear k0; intro k0) | (with_reducible replace k0 := Blk.later hb (Blk.set (Blk.set k0))) | (with_reducible replace k0 := Blk.later hb (Blk.set k0))); clear a0 b0; obtain ⟨a0, b0⟩ := k0.read; have zl := k0.lt)); (try (have zk := k1.lt; (first | ((with_reducible refine Blk.keepG hb k1 (fun h => ?_) ?_); (focus ((repeat' (first | (with_reducible assumption) | ((with_reducible refine Blk.new ?_); first | rfl | (simp; done)) | (with_reducible refine Blk.later (by assumption) ?_) | (with_reducible refine Blk.alloc ?_) | (with_reducible refine Blk.drewN ?_) | (with_reducible refine Blk.drew ?_) | (with_reducible refine Blk.other ?_ (by first | omega | (simp; done) | (simp; omega))))); done)); clear k1; intro k1) | (with_reducible replace k1 := Blk.later hb (Blk.set (Blk.set k1))) | (with_reducible replace k1 := Blk.later hb (Blk.set k1))); clear a1 b1; obtain ⟨a1, b1⟩ := k1.read; have zl := k1.lt))))
        have hB1 : Below w.heap.size w w1 := by (repeat' (first | (with_reducible exact Below.refl _ _) | (with_reducible assumption) | (with_reducible refine belowThru ?_ (by assumption)) | (with_reducible refine belowAlloc ?_) | (with_reducible refine Below.setCell ?_ (by first | omega | (simp; done) | (simp; omega)) _) | (with_reducible refine Below.drew ?_) | (with_reducible refine below_drewN ?_ _)))
        clear hb
        go_wp2_with fail
        refine (HV2.out _ (H2.out.later (by (repeat' (first | (with_reducible exact Below.refl _ _) | (with_reducible assumption) | (with_reducible refine belowThru ?_ (by assumption)) | (with_reducible refine belowAlloc ?_) | (with_reducible refine Below.setCell ?_ (by first | omega | (simp; done) | (simp; omega)) _) | (with_reducible refine Below.drew ?_) | (with_reducible refine below_drewN ?_ _)))))).mono ?_
        rintro e w2 ⟨rfl, hb⟩
        (try (have zk := k0.lt; (first | ((with_reducible refine Blk.keepG hb k0 (fun h => ?_) ?_); (focus ((repeat' (first | (with_reducible assumption) | ((with_reducible refine Blk.new ?_); first | rfl | (simp; done)) | (with_reducible refine Blk.later (by assumption) ?_) | (with_reducible refine Blk.alloc ?_) | (with_reducible refine Blk.drewN ?_) | (with_reducible refine Blk.drew ?_) | (with_reducible refine Blk.other ?_ (by first | omega | (simp; done) | (simp; omega))))); done)); clear k0; intro k0) | (with_reducible replace k0 := Blk.later hb (Blk.set (Blk.set k0))) | (with_reducible replace k0 := Blk.later hb (Blk.set k0))); clear a0 b0; obtain ⟨a0, b0⟩ := k0.read; have zl := k0.lt)); (try (have zk := k1.lt; (first | ((with_reducible refine Blk.keepG hb k1 (fun h => ?_) ?_); (focus ((repeat' (first | (with_reducible assumption) | ((with_reducible refine Blk.new ?_); first | rfl | (simp; done)) | (with_reducible refine Blk.later (by assumption) ?_) | (with_reducible refine Blk.alloc ?_) | (with_reducible refine Blk.drewN ?_) | (with_reducible refine Blk.drew ?_) | (with_reducible refine Blk.other ?_ (by first | omega | (simp; done) | (simp; omega))))); done)); clear k1; intro k1) | (with_reducible replace k1 := Blk.later hb (Blk.set (Blk.set k1))) | (with_reducible replace k1 := Blk.later hb (Blk.set k1))); clear a1 b1; obtain ⟨a1, b1⟩ := k1.read; have zl := k1.lt))
        go_wp2_with fail
        go_ret
        exact ⟨rfl, by (repeat' (first | (with_reducible exact Below.refl _ _) | (with_reducible assumption) | (with_reducible refine belowThru ?_ (by assumption)) | (with_reducible refine belowAlloc ?_) | (with_reducible refine Below.setCell ?_ (by first | omega | (simp; done) | (simp; omega)) _) | (with_reducible refine Below.drew ?_) | (with_reducible refine below_drewN ?_ _)))⟩
    · have HV2 : Hid (∀ w, Row w b m (iv ys) → Calls Try.prog 43 #[.agg #[.int .i64 W', .int .i64 H', .slice b m d]] w fun e w' => e = .returned (.bool false) ∧ Below w.heap.size w w') := fun w h => rvalid_no hJ b m d hm w h
      clear hR hS hn hm hI hJ hx
      go_enter Try.func40, Try.ntmps40
      go_wp2_with fail
      refine (HV1.out _ (H1.out.later (by (repeat' (first | (with_reducible exact Below.refl _ _) | (with_reducible assumption) | (with_reducible refine belowThru ?_ (by assumption)) | (with_reducible refine belowAlloc ?_) | (with_reducible refine Below.setCell ?_ (by first | omega | (simp; done) | (simp; omega)) _) | (with_reducible refine Below.drew ?_) | (with_reducible refine below_drewN ?_ _)))))).mono ?_
      rintro e w1 ⟨rfl, hb⟩; (first | ((with_reducible have k0 := Blk.later hb (Blk.alloc (Blk.new rfl))); (with_reducible have k1 := Blk.later hb (Blk.new rfl)); simp only [World.size_alloc] at k1; obtain ⟨a0, b0⟩ := k0.read; have zl := k0.lt; obtain ⟨a1, b1⟩ := k1.read; have zl := k1.lt) | ((try (have zk := k0.lt; (first | ((with_reducible refine Blk.keepG hb k0 (fun h => ?_) ?_); (focus ((repeat' (first | (with_reducible assumption) | ((with_reducible refine Blk.new ?_); first | rfl | (simp; done)) | (with_reducible refine Blk.later (by assumption) ?_) | (with_reducible refine Blk.alloc ?_) | (with_reducible refine Blk.drewN ?_) | (with_reducible refine Blk.drew ?_) | (with_reducible refine Blk.other ?_ (by first | omega | (simp; done) | (simp; omega))))); done)); clear k0; intro k0) | (with_reducible replace k0 := Blk.later hb (Blk.set (Blk.set k0))) | (with_reducible replace k0 := Blk.later hb (Blk.set k0))); clear a0 b0; obtain ⟨a0, b0⟩ := k0.read; have zl := k0.lt)); (try (have zk := k1.lt; (first | ((with_reducible refine Blk.keepG hb k1 (fun h => ?_) ?_); (focus ((repeat' (first | (with_reducible assumption) | ((with_reducible refine Blk.new ?_); first | rfl | (simp; done)) | (with_reducible refine Blk.later (by assumption) ?_) | (with_reducible refine Blk.alloc ?_) | (with_reducible refine Blk.drewN ?_) | (with_reducible refine Blk.drew ?_) | (with_reducible refine Blk.other ?_ (by first | omega | (simp; done) | (simp; omega))))); done)); clear k1; intro k1) | (with_reducible replace k1 := Blk.later hb (Blk.set (Blk.set k1))) | (with_reducible replace k1 := Blk.later hb (Blk.set k1))); clear a1 b1; obtain ⟨a1, b1⟩ := k1.read; have zl := k1.lt))))
      have hB1 : Below w.heap.size w w1 := by (repeat' (first | (with_reducible exact Below.refl _ _) | (with_reducible assumption) | (with_reducible refine belowThru ?_ (by assumption)) | (with_reducible refine belowAlloc ?_) | (with_reducible refine Below.setCell ?_ (by first | omega | (simp; done) | (simp; omega)) _) | (with_reducible refine Below.drew ?_) | (with_reducible refine below_drewN ?_ _)))
      clear hb
      go_wp2_with fail
      refine (HV2.out _ (H2.out.later (by (repeat' (first | (with_reducible exact Below.refl _ _) | (with_reducible assumption) | (with_reducible refine belowThru ?_ (by assumption)) | (with_reducible refine belowAlloc ?_) | (with_reducible refine Below.setCell ?_ (by first | omega | (simp; done) | (simp; omega)) _) | (with_reducible refine Below.drew ?_) | (with_reducible refine below_drewN ?_ _)))))).mono ?_
      rintro e w2 ⟨rfl, hb⟩
      (try (have zk := k0.lt; (first | ((with_reducible refine Blk.keepG hb k0 (fun h => ?_) ?_); (focus ((repeat' (first | (with_reducible assumption) | ((with_reducible refine Blk.new ?_); first | rfl | (simp; done)) | (with_reducible refine Blk.later (by assumption) ?_) | (with_reducible refine Blk.alloc ?_) | (with_reducible refine Blk.drewN ?_) | (with_reducible refine Blk.drew ?_) | (with_reducible refine Blk.other ?_ (by first | omega | (simp; done) | (simp; omega))))); done)); clear k0; intro k0) | (with_reducible replace k0 := Blk.later hb (Blk.set (Blk.set k0))) | (with_reducible replace k0 := Blk.later hb (Blk.set k0))); clear a0 b0; obtain ⟨a0, b0⟩ := k0.read; have zl := k0.lt)); (try (have zk := k1.lt; (first | ((with_reducible refine Blk.keepG hb k1 (fun h => ?_) ?_); (focus ((repeat' (first | (with_reducible assumption) | ((with_reducible refine Blk.new ?_); first | rfl | (simp; done)) | (with_reducible refine Blk.later (by assumption) ?_) | (with_reducible refine Blk.alloc ?_) | (with_reducible refine Blk.drewN ?_) | (with_reducible refine Blk.drew ?_) | (with_reducible refine Blk.other ?_ (by first | omega | (simp; done) | (simp; omega))))); done)); clear k1; intro k1) | (with_reducible replace k1 := Blk.later hb (Blk.set (Blk.set k1))) | (with_reducible replace k1 := Blk.later hb (Blk.set k1))); clear a1 b1; obtain ⟨a1, b1⟩ := k1.read; have zl := k1.lt))
      go_wp2_with fail
      go_ret
      exact ⟨rfl, by (repeat' (first | (with_reducible exact Below.refl _ _) | (with_reducible assumption) | (with_reducible refine belowThru ?_ (by assumption)) | (with_reducible refine belowAlloc ?_) | (with_reducible refine Below.setCell ?_ (by first | omega | (simp; done) | (simp; omega)) _) | (with_reducible refine Below.drew ?_) | (with_reducible refine below_drewN ?_ _)))⟩
  · have HV1 : Hid (∀ w, Row w a n (iv xs) → Calls Try.prog 43 #[.agg #[.int .i64 W, .int .i64 H, .slice a n c]] w fun e w' => e = .returned (.bool false) ∧ Below w.heap.size w w') := fun w h => rvalid_no hI a n c hn w h
    clear hR hS hn hm hI hx
    go_enter Try.func40, Try.ntmps40
    go_wp2_with fail
    refine (HV1.out _ (H1.out.later (by (repeat' (first | (with_reducible exact Below.refl _ _) | (with_reducible assumption) | (with_reducible refine belowThru ?_ (by assumption)) | (with_reducible refine belowAlloc ?_) | (with_reducible refine Below.setCell ?_ (by first | omega | (simp; done) | (simp; omega)) _) | (with_reducible refine Below.drew ?_) | (with_reducible refine below_drewN ?_ _)))))).mono ?_
    rintro e w1 ⟨rfl, hb⟩; (first | ((with_reducible have k0 := Blk.later hb (Blk.alloc (Blk.new rfl))); (with_reducible have k1 := Blk.later hb (Blk.new rfl)); simp only [World.size_alloc] at k1; obtain ⟨a0, b0⟩ := k0.read; have zl := k0.lt; obtain ⟨a1, b1⟩ := k1.read; have zl := k1.lt) | ((try (have zk := k0.lt; (first | ((with_reducible refine Blk.keepG hb k0 (fun h => ?_) ?_); (focus ((repeat' (first | (with_reducible assumption) | ((with_reducible refine Blk.new ?_); first | rfl | (simp; done)) | (with_reducible refine Blk.later (by assumption) ?_) | (with_reducible refine Blk.alloc ?_) | (with_reducible refine Blk.drewN ?_) | (with_reducible refine Blk.drew ?_) | (with_reducible refine Blk.other ?_ (by first | omega | (simp; done) | (simp; omega))))); done)); clear k0; intro k0) | (with_reducible replace k0 := Blk.later hb (Blk.set (Blk.set k0))) | (with_reducible replace k0 := Blk.later hb (Blk.set k0))); clear a0 b0; obtain ⟨a0, b0⟩ := k0.read; have zl := k0.lt)); (try (have zk := k1.lt; (first | ((with_reducible refine Blk.keepG hb k1 (fun h => ?_) ?_); (focus ((repeat' (first | (with_reducible assumption) | ((with_reducible refine Blk.new ?_); first | rfl | (simp; done)) | (with_reducible refine Blk.later (by assumption) ?_) | (with_reducible refine Blk.alloc ?_) | (with_reducible refine Blk.drewN ?_) | (with_reducible refine Blk.drew ?_) | (with_reducible refine Blk.other ?_ (by first | omega | (simp; done) | (simp; omega))))); done)); clear k1; intro k1) | (with_reducible replace k1 := Blk.later hb (Blk.set (Blk.set k1))) | (with_reducible replace k1 := Blk.later hb (Blk.set k1))); clear a1 b1; obtain ⟨a1, b1⟩ := k1.read; have zl := k1.lt))))
    have hB1 : Below w.heap.size w w1 := by (repeat' (first | (with_reducible exact Below.refl _ _) | (with_reducible assumption) | (with_reducible refine belowThru ?_ (by assumption)) | (with_reducible refine belowAlloc ?_) | (with_reducible refine Below.setCell ?_ (by first | omega | (simp; done) | (simp; omega)) _) | (with_reducible refine Below.drew ?_) | (with_reducible refine below_drewN ?_ _)))
    clear hb
    go_wp2_with fail
    go_ret
    exact ⟨rfl, by (repeat' (first | (with_reducible exact Below.refl _ _) | (with_reducible assumption) | (with_reducible refine belowThru ?_ (by assumption)) | (with_reducible refine belowAlloc ?_) | (with_reducible refine Below.setCell ?_ (by first | omega | (simp; done) | (simp; omega)) _) | (with_reducible refine Below.drew ?_) | (with_reducible refine below_drewN ?_ _)))⟩
end Go.Proofs.Ytghmjdmiaajbnaa
/-
  Layer 2: operations of two images: by their numbers; where they are refused.
-/
namespace Go.Proofs.Ytghmjdmiaajbnaa
open Go.RowKit
set_option linter.unusedVariables false
set_option linter.unusedSimpArgs false

theorem zip_ok (W H how : Int) (a a' : Option Addr) (n c c' : Nat) (za zb : List Int) (hI : okI W H za) (hJ : okI W H zb) (h1 : 1 ≤ how) (h2 : how ≤ 6) (hn : n ≤ maxLen) (w : World) (hR : Row w a n (iv za)) (hS : Row w a' n (iv zb)) :
    Calls Try.prog 17 #[.agg #[.int .i64 W, .int .i64 H, .slice a n c], .agg #[.int .i64 W, .int .i64 H, .slice a' n c'], .int .u8 how] w (RetI W H (zipL how n za zb) 0 w) := by
  have hc : how = 1 ∨ how = 2 ∨ how = 3 ∨ how = 4 ∨ how = 5 ∨ how = 6 := by omega
  rcases hc with rfl | rfl | rfl | rfl | rfl | rfl
  · exact zip_walk W H 1 97 a a' n c c' za zb hI hJ (by omega) (by omega) hn w hR hS (fun _ => by kernel_rfl) (enters_of Try.func97 (by kernel_rfl) rfl) (Lib.hid (fun x y hx hy w => oper1_any x y hx hy w))
  · exact zip_walk W H 2 98 a a' n c c' za zb hI hJ (by omega) (by omega) hn w hR hS (fun _ => by kernel_rfl) (enters_of Try.func98 (by kernel_rfl) rfl) (Lib.hid (fun x y hx hy w => oper2_any x y hx hy w))
  · exact zip_walk W H 3 99 a a' n c c' za zb hI hJ (by omega) (by omega) hn w hR hS (fun _ => by kernel_rfl) (enters_of Try.func99 (by kernel_rfl) rfl) (Lib.hid (fun x y hx hy w => oper3_any x y w))
  · exact zip_walk W H 4 100 a a' n c c' za zb hI hJ (by omega) (by omega) hn w hR hS (fun _ => by kernel_rfl) (enters_of Try.func100 (by kernel_rfl) rfl) (Lib.hid (fun x y hx hy w => oper4_any x y w))
  · exact zip_walk W H 5 101 a a' n c c' za zb hI hJ (by omega) (by omega) hn w hR hS (fun _ => by kernel_rfl) (enters_of Try.func101 (by kernel_rfl) rfl) (Lib.hid (fun x y hx hy w => oper5_any x y hx hy w))
  · exact zip_walk W H 6 102 a a' n c c' za zb hI hJ (by omega) (by omega) hn w hR hS (fun _ => by kernel_rfl) (enters_of Try.func102 (by kernel_rfl) rfl) (Lib.hid (fun x y hx hy w => oper6_any x y hx hy w))

end Go.Proofs.Ytghmjdmiaajbnaa
/-
  Layer 2: dilating goes through the greater one of two images, eroding through the lesser one: the plain mathematics.
-/
namespace Go.Proofs.Ytghmjdmiaajbnaa
open Go.RowKit
set_option linter.unusedVariables false
set_option linter.unusedSimpArgs false

theorem getD_ok {W H : Int} {zs : List Int} (hI : okI W H zs) (k : Nat) : okV (zs[k]?.getD 0) := by
  cases h : zs[k]? with
  | none => exact ⟨by decide, by decide⟩
  | some z => exact hI.2.2 z (List.mem_of_getElem? h)
theorem zip_max {W H : Int} {xs ys : List Int} {n : Nat} (hI : okI W H xs) (hJ : okI W H ys) : zipL 4 n xs ys = made n fun k => max (xs[k]?.getD 0) (ys[k]?.getD 0) := by
  unfold zipL
  congr 1; funext k
  have h1 := getD_ok hI k; have h2 := getD_ok hJ k
  rw [inR_ok]
  · rfl
  · unfold okV at *; show _ ≤ max _ _ ∧ max _ _ ≤ _; omega
theorem zip_min {W H : Int} {xs ys : List Int} {n : Nat} (hI : okI W H xs) (hJ : okI W H ys) : zipL 3 n xs ys = made n fun k => min (xs[k]?.getD 0) (ys[k]?.getD 0) := by
  unfold zipL
  congr 1; funext k
  have h1 := getD_ok hI k; have h2 := getD_ok hJ k
  rw [inR_ok]
  · rfl
  · unfold okV at *; show _ ≤ min _ _ ∧ min _ _ ≤ _; omega
theorem zipL_len {how : Int} {n : Nat} {xs ys : List Int} : (zipL how n xs ys).length = n := by unfold zipL; rw [made_length]
theorem zipL_ok {W H how : Int} {n : Nat} {xs ys : List Int} (hI : okI W H xs) (hn : xs.length = n) : okI W H (zipL how n xs ys) :=
  okI_made hI hn _ fun k _ => by unfold inR okV; omega
theorem pix_max {W H : Int} {xs ys : List Int} {n : Nat} (hI : okI W H xs) (hJ : okI W H ys) (hn : xs.length = n) {x y : Int} (hp : inP W H x y) : pixAt W (zipL 4 n xs ys) x y = max (pixAt W xs x y) (pixAt W ys x y) := by
  obtain ⟨p, hlt, e1, e2, e3⟩ := place_of hI.1.1 hI.1.2 hp
  have hL := hI.2.1
  rw [zip_max hI hJ, px_of (H := H) e3, px_of (H := H) e3, px_of (H := H) e3, made_get (by omega), Option.getD_some]
theorem pix_min {W H : Int} {xs ys : List Int} {n : Nat} (hI : okI W H xs) (hJ : okI W H ys) (hn : xs.length = n) {x y : Int} (hp : inP W H x y) : pixAt W (zipL 3 n xs ys) x y = min (pixAt W xs x y) (pixAt W ys x y) := by
  obtain ⟨p, hlt, e1, e2, e3⟩ := place_of hI.1.1 hI.1.2 hp
  have hL := hI.2.1
  rw [zip_min hI hJ, px_of (H := H) e3, px_of (H := H) e3, px_of (H := H) e3, made_get (by omega), Option.getD_some]
theorem eq_of_le {a b : Int} (h : ∀ v, a ≤ v ↔ b ≤ v) : a = b := Int.le_antisymm ((h b).2 (Int.le_refl _)) ((h a).1 (Int.le_refl _))
theorem eq_of_ge {a b : Int} (h : ∀ v, v ≤ a ↔ v ≤ b) : a = b := Int.le_antisymm ((h a).1 (Int.le_refl _)) ((h b).2 (Int.le_refl _))
theorem dil_zip {W H SW SH : Int} {bs : List Bool} {m n : Nat} {xs ys : List Int} (hI : okI W H xs) (hJ : okI W H ys) (hn : xs.length = n) :
    dilL W H SW SH bs m n (zipL 4 n xs ys) = zipL 4 n (dilL W H SW SH bs m n xs) (dilL W H SW SH bs m n ys) := by
  have hn2 : ys.length = n := by have := hI.2.1; have := hJ.2.1; omega
  rw [zip_max (dilL_ok hI hn) (dilL_ok hJ hn2)]
  unfold dilL made
  refine List.map_congr_left fun k hk => ?_
  have hk := List.mem_range.1 hk
  have g1 := made_get (V := fun k => exD W H xs SW SH bs ((k : Int) % W) ((k : Int) / W) m) hk
  have g2 := made_get (V := fun k => exD W H ys SW SH bs ((k : Int) % W) ((k : Int) / W) m) hk
  unfold made at g1 g2
  show _ = max _ _
  rw [g1, g2, Option.getD_some, Option.getD_some]
  refine eq_of_le fun v => ?_
  rw [exD_le, Int.max_le, exD_le, exD_le]
  constructor
  · rintro ⟨h0, h⟩
    refine ⟨⟨h0, fun j hj hb hp => ?_⟩, h0, fun j hj hb hp => ?_⟩
    · have := h j hj hb hp; rw [pix_max hI hJ hn hp] at this; omega
    · have := h j hj hb hp; rw [pix_max hI hJ hn hp] at this; omega
  · rintro ⟨⟨h0, h1⟩, -, h2⟩
    refine ⟨h0, fun j hj hb hp => ?_⟩
    have a := h1 j hj hb hp; have b := h2 j hj hb hp
    rw [pix_max hI hJ hn hp]; omega
theorem ero_zip {W H SW SH : Int} {bs : List Bool} {m n : Nat} {xs ys : List Int} (hI : okI W H xs) (hJ : okI W H ys) (hn : xs.length = n) :
    eroL W H SW SH bs m n (zipL 3 n xs ys) = zipL 3 n (eroL W H SW SH bs m n xs) (eroL W H SW SH bs m n ys) := by
  have hn2 : ys.length = n := by have := hI.2.1; have := hJ.2.1; omega
  rw [zip_min (eroL_ok hI hn) (eroL_ok hJ hn2)]
  unfold eroL made
  refine List.map_congr_left fun k hk => ?_
  have hk := List.mem_range.1 hk
  have g1 := made_get (V := fun k => exE W H xs SW SH bs ((k : Int) % W) ((k : Int) / W) m) hk
  have g2 := made_get (V := fun k => exE W H ys SW SH bs ((k : Int) % W) ((k : Int) / W) m) hk
  unfold made at g1 g2
  show _ = min _ _
  rw [g1, g2, Option.getD_some, Option.getD_some]
  refine eq_of_ge fun v => ?_
  rw [le_exE, Int.le_min, le_exE, le_exE]
  constructor
  · rintro ⟨h0, h⟩
    refine ⟨⟨h0, fun j hj hb hp => ?_⟩, h0, fun j hj hb hp => ?_⟩
    · have := h j hj hb hp; rw [pix_min hI hJ hn hp] at this; omega
    · have := h j hj hb hp; rw [pix_min hI hJ hn hp] at this; omega
  · rintro ⟨⟨h0, h1⟩, -, h2⟩
    refine ⟨h0, fun j hj hb hp => ?_⟩
    have a := h1 j hj hb hp; have b := h2 j hj hb hp
    rw [pix_min hI hJ hn hp]; omega
end Go.Proofs.Ytghmjdmiaajbnaa
