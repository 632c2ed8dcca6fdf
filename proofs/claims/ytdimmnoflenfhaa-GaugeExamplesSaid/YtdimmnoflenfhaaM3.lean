/-
  The texts that the laws of this seat share, merged: part 3.
-/
import Derived.BigQuiet
import Derived.Deep.CutBlock
import Derived.Deep.DeepCutAuto
import Derived.Deep.Draws
import Derived.Deep.LoopGhost
import Derived.Deep.OwnRows
import Derived.Deep.QuietTactic
import Derived.Deep.RegionHeld3
import Derived.IntWalk
import Derived.Laws.AppendOwn
import Derived.Laws.Bits64b
import Derived.Lib.Hide
import Derived.Lib.ItoaNum
import Derived.LoopIn
import Derived.LoopNIn
import Derived.LoopTactic
import Derived.OneCell
import Derived.OwnWalkIn
import Derived.RangeFuncBound
import Derived.RangeFuncCalls
import Derived.RangeFuncLeaves
import Derived.RangeFuncNested
import Derived.Shelf.Abstract
import Derived.Shelf.AbstractIn
import Derived.Shelf.Bits.Mul64
import Derived.Shelf.RegionOpen
import Derived.Shelf.Small.Bits
import Derived.Shelf.Spec.BitsCarry
import Derived.Shelf.Strconv.Itoa0
import Derived.TacticsInMore
import Derived.Test.YtdimmnoflenfhaaProg
import Derived.WalkKit
import Derived.WalkLawsBesides
import Derived.WalkSmall
import Derived.WalkSpells
import Derived.Test.YtdimmnoflenfhaaM1
import Derived.Test.YtdimmnoflenfhaaM2
/-
  Layer 5: First and Last, by the code.
-/
namespace Go.Proofs.Ytdimmnoflenfhaa
open Go.RowKit Go.Shelf
set_option linter.unusedVariables false
set_option linter.unusedSimpArgs false

/-- The parts of a number, if there is one; otherwise 0. -/
def oN : Option Rat → Int
  | none => 0
  | some x => fn x
def oD : Option Rat → Int
  | none => 0
  | some x => fd x
/-- The indices of a list. -/
def inL (zs : List Int) (p : Int) : Prop := 0 ≤ p ∧ p < (zs.length : Int)
instance (zs : List Int) (p : Int) : Decidable (inL zs p) := inferInstanceAs (Decidable (_ ∧ _))
/-- What First, Last return: the place if there is one; the error. -/
def fiO (t : Int) (zs : List Int) (p : Int) : Option Rat := if okP zs ∧ okT t ∧ inL zs p then FX t zs p.toNat else none
def laO (t : Int) (zs : List Int) (p : Int) : Option Rat := if okP zs ∧ okT t ∧ inL zs p then LX t zs p.toNat else none
/-- The error of what was asked for, or of what was not found. -/
def asE (zs : List Int) (ok : Prop) [Decidable ok] (b : Bool) : Int := if ¬ okP zs then 50 else if ¬ ok then 2 else if b then 0 else 6
def fiE (t : Int) (zs : List Int) (p : Int) : Int := asE zs (okT t ∧ inL zs p) (FX t zs p.toNat).isSome
def laE (t : Int) (zs : List Int) (p : Int) : Int := asE zs (okT t ∧ inL zs p) (LX t zs p.toNat).isSome
theorem asE_no {zs : List Int} {ok : Prop} [Decidable ok] {b : Bool} (h : ¬ okP zs) : asE zs ok b = 50 := if_pos h
theorem asE_arg {zs : List Int} {ok : Prop} [Decidable ok] {b : Bool} (h : okP zs) (k : ¬ ok) : asE zs ok b = 2 := by unfold asE; rw [if_neg (fun g => g h), if_pos k]
theorem asE_ok {zs : List Int} {ok : Prop} [Decidable ok] {b : Bool} (h : okP zs) (k : ok) : asE zs ok b = if b then 0 else 6 := by unfold asE; rw [if_neg (fun g => g h), if_neg (fun g => g k)]

set_option maxRecDepth 100000 in
set_option maxHeartbeats 2000000 in
theorem near_profile (a : Option Addr) (n c : Nat) (zs : List Int) (t p s : Int) (hn : n ≤ maxLen) (h : ¬ okP zs) (w : World) (hR : Row w a n (iv zs)) :
    Calls Try.prog 41 #[.slice a n c, .int .i64 t, .int .i64 p, .int .i64 s] w fun e w' => e = .returned (.tuple #[.agg #[.int .i64 0, .int .i64 0], .int .i64 50]) ∧ Below w.heap.size w w' := by
  have HC : Hid (∀ (a : Option Addr) (c : Nat) (w : World), Row w a n (iv zs) → Calls Try.prog 26 #[.slice a n c] w fun e w' => e = .returned (.int .i64 50) ∧ Below w.heap.size w w') := fun a c w hR => by
    have := ckP_any a n c zs hn w hR
    rwa [ckP_no h] at this
  have HR := Lib.hid hR
  clear h hR
  go_enter Try.func41, Try.ntmps41
  go_wp2_with (go_at_call 26; (with_reducible refine (HC.out _ _ _ (HR.out.later (by (repeat' (first | (with_reducible exact Below.refl _ _) | (with_reducible assumption) | (with_reducible refine belowThru ?_ (by assumption)) | (with_reducible refine belowAlloc ?_) | (with_reducible refine Below.setCell ?_ (by first | omega | (simp; done) | (simp; omega)) _) | (with_reducible refine Below.drew ?_) | (with_reducible refine below_drewN ?_ _)))))).mono ?_); rintro e w1 ⟨rfl, hb⟩; (first | ((with_reducible have k0 := Blk.later hb (Blk.alloc (Blk.alloc (Blk.alloc (Blk.alloc (Blk.alloc (Blk.new rfl))))))); (with_reducible have k1 := Blk.later hb (Blk.alloc (Blk.alloc (Blk.alloc (Blk.alloc (Blk.new rfl)))))); (with_reducible have k2 := Blk.later hb (Blk.alloc (Blk.alloc (Blk.alloc (Blk.new rfl))))); (with_reducible have k3 := Blk.later hb (Blk.alloc (Blk.alloc (Blk.new rfl)))); (with_reducible have k4 := Blk.later hb (Blk.alloc (Blk.new rfl))); (with_reducible have k5 := Blk.later hb (Blk.new rfl)); simp only [World.size_alloc] at k1 k2 k3 k4 k5; obtain ⟨a0, b0⟩ := k0.read; have zl := k0.lt; obtain ⟨a1, b1⟩ := k1.read; have zl := k1.lt; obtain ⟨a2, b2⟩ := k2.read; have zl := k2.lt; obtain ⟨a3, b3⟩ := k3.read; have zl := k3.lt; obtain ⟨a4, b4⟩ := k4.read; have zl := k4.lt; obtain ⟨a5, b5⟩ := k5.read; have zl := k5.lt) | ((try (have zk := k0.lt; (first | ((with_reducible refine Blk.keepG hb k0 (fun h => ?_) ?_); (focus ((repeat' (first | (with_reducible assumption) | ((with_reducible refine Blk.new ?_); first | rfl | (simp; done)) | (with_reducible refine Blk.later (by assumption) ?_) | (with_reducible refine Blk.alloc ?_) | (with_reducible refine Blk.drewN ?_) | (with_reducible refine Blk.drew ?_) | (with_reducible refine Blk.other ?_ (by first | omega | (simp; done) | (simp; omega))))); done)); clear k0; intro k0) | (with_reducible replace k0 := Blk.later hb (Blk.set (Blk.set k0))) | (with_reducible replace k0 := Blk.later hb (Blk.set k0))); clear a0 b0; obtain ⟨a0, b0⟩ := k0.read; have zl := k0.lt)); (try (have zk := k1.lt; (first | ((with_reducible refine Blk.keepG hb k1 (fun h => ?_) ?_); (focus ((repeat' (first | (with_reducible assumption) | ((with_reducible refine Blk.new ?_); first | rfl | (simp; done)) | (with_reducible refine Blk.later (by assumption) ?_) | (with_reducible refine Blk.alloc ?_) | (with_reducible refine Blk.drewN ?_) | (with_reducible refine Blk.drew ?_) | (with_reducible refine Blk.other ?_ (by first | omega | (simp; done) | (simp; omega))))); done)); clear k1; intro k1) | (with_reducible replace k1 := Blk.later hb (Blk.set (Blk.set k1))) | (with_reducible replace k1 := Blk.later hb (Blk.set k1))); clear a1 b1; obtain ⟨a1, b1⟩ := k1.read; have zl := k1.lt)); (try (have zk := k2.lt; (first | ((with_reducible refine Blk.keepG hb k2 (fun h => ?_) ?_); (focus ((repeat' (first | (with_reducible assumption) | ((with_reducible refine Blk.new ?_); first | rfl | (simp; done)) | (with_reducible refine Blk.later (by assumption) ?_) | (with_reducible refine Blk.alloc ?_) | (with_reducible refine Blk.drewN ?_) | (with_reducible refine Blk.drew ?_) | (with_reducible refine Blk.other ?_ (by first | omega | (simp; done) | (simp; omega))))); done)); clear k2; intro k2) | (with_reducible replace k2 := Blk.later hb (Blk.set (Blk.set k2))) | (with_reducible replace k2 := Blk.later hb (Blk.set k2))); clear a2 b2; obtain ⟨a2, b2⟩ := k2.read; have zl := k2.lt)); (try (have zk := k3.lt; (first | ((with_reducible refine Blk.keepG hb k3 (fun h => ?_) ?_); (focus ((repeat' (first | (with_reducible assumption) | ((with_reducible refine Blk.new ?_); first | rfl | (simp; done)) | (with_reducible refine Blk.later (by assumption) ?_) | (with_reducible refine Blk.alloc ?_) | (with_reducible refine Blk.drewN ?_) | (with_reducible refine Blk.drew ?_) | (with_reducible refine Blk.other ?_ (by first | omega | (simp; done) | (simp; omega))))); done)); clear k3; intro k3) | (with_reducible replace k3 := Blk.later hb (Blk.set (Blk.set k3))) | (with_reducible replace k3 := Blk.later hb (Blk.set k3))); clear a3 b3; obtain ⟨a3, b3⟩ := k3.read; have zl := k3.lt)); (try (have zk := k4.lt; (first | ((with_reducible refine Blk.keepG hb k4 (fun h => ?_) ?_); (focus ((repeat' (first | (with_reducible assumption) | ((with_reducible refine Blk.new ?_); first | rfl | (simp; done)) | (with_reducible refine Blk.later (by assumption) ?_) | (with_reducible refine Blk.alloc ?_) | (with_reducible refine Blk.drewN ?_) | (with_reducible refine Blk.drew ?_) | (with_reducible refine Blk.other ?_ (by first | omega | (simp; done) | (simp; omega))))); done)); clear k4; intro k4) | (with_reducible replace k4 := Blk.later hb (Blk.set (Blk.set k4))) | (with_reducible replace k4 := Blk.later hb (Blk.set k4))); clear a4 b4; obtain ⟨a4, b4⟩ := k4.read; have zl := k4.lt)); (try (have zk := k5.lt; (first | ((with_reducible refine Blk.keepG hb k5 (fun h => ?_) ?_); (focus ((repeat' (first | (with_reducible assumption) | ((with_reducible refine Blk.new ?_); first | rfl | (simp; done)) | (with_reducible refine Blk.later (by assumption) ?_) | (with_reducible refine Blk.alloc ?_) | (with_reducible refine Blk.drewN ?_) | (with_reducible refine Blk.drew ?_) | (with_reducible refine Blk.other ?_ (by first | omega | (simp; done) | (simp; omega))))); done)); clear k5; intro k5) | (with_reducible replace k5 := Blk.later hb (Blk.set (Blk.set k5))) | (with_reducible replace k5 := Blk.later hb (Blk.set k5))); clear a5 b5; obtain ⟨a5, b5⟩ := k5.read; have zl := k5.lt)))))
  exact bodyPost_ret (v := .tuple #[.agg #[.int .i64 0, .int .i64 0], .int .i64 50]) (by simp only [results, Try.results41]; go_simp) rfl ⟨rfl, by (repeat' (first | (with_reducible exact Below.refl _ _) | (with_reducible assumption) | (with_reducible refine belowThru ?_ (by assumption)) | (with_reducible refine belowAlloc ?_) | (with_reducible refine Below.setCell ?_ (by first | omega | (simp; done) | (simp; omega)) _) | (with_reducible refine Below.drew ?_) | (with_reducible refine below_drewN ?_ _)))⟩
set_option maxRecDepth 100000 in
set_option maxHeartbeats 2000000 in
theorem near_arg (a : Option Addr) (n c : Nat) (zs : List Int) (t p s : Int) (hn : n ≤ maxLen) (hl : zs.length = n) (hz : okP zs) (h : ¬ (okT t ∧ inL zs p)) (w : World) (hR : Row w a n (iv zs)) :
    Calls Try.prog 41 #[.slice a n c, .int .i64 t, .int .i64 p, .int .i64 s] w fun e w' => e = .returned (.tuple #[.agg #[.int .i64 0, .int .i64 0], .int .i64 2]) ∧ Below w.heap.size w w' := by
  have HC : Hid (∀ (a : Option Addr) (c : Nat) (w : World), Row w a n (iv zs) → Calls Try.prog 26 #[.slice a n c] w fun e w' => e = .returned (.int .i64 0) ∧ Below w.heap.size w w') := fun a c w hR => by
    have := ckP_any a n c zs hn w hR
    rwa [ckP_ok hz] at this
  have HR := Lib.hid hR
  have hn2 : 2 ≤ n ∧ n ≤ 64 := by rw [← hl]; exact hz.1
  have hw1 : IntKind.i64.wrap ((n : Int) - 1) = (n : Int) - 1 := IntWalk.i64_in _ (by omega)
  clear hR
  by_cases ht : okT t
  · have HT : Hid (∀ w, Calls Try.prog 69 #[.int .i64 t] w fun e w' => e = .returned (.bool true) ∧ w = w') := fun w => by
      have := isThr_any t w
      rwa [decide_eq_true ht] at this
    have HI := Lib.hid (gwithin_no p 0 ((n : Int) - 1) (fun k => h ⟨ht, k.1, by rw [hl]; omega⟩))
    clear h hz ht hl
    go_enter Try.func41, Try.ntmps41
    go_wp2_with (first
      | (go_at_call 26; (with_reducible refine (HC.out _ _ _ (HR.out.later (by (repeat' (first | (with_reducible exact Below.refl _ _) | (with_reducible assumption) | (with_reducible refine belowThru ?_ (by assumption)) | (with_reducible refine belowAlloc ?_) | (with_reducible refine Below.setCell ?_ (by first | omega | (simp; done) | (simp; omega)) _) | (with_reducible refine Below.drew ?_) | (with_reducible refine below_drewN ?_ _)))))).mono ?_); rintro e w1 ⟨rfl, hb⟩; (first | ((with_reducible have k0 := Blk.later hb (Blk.alloc (Blk.alloc (Blk.alloc (Blk.alloc (Blk.alloc (Blk.new rfl))))))); (with_reducible have k1 := Blk.later hb (Blk.alloc (Blk.alloc (Blk.alloc (Blk.alloc (Blk.new rfl)))))); (with_reducible have k2 := Blk.later hb (Blk.alloc (Blk.alloc (Blk.alloc (Blk.new rfl))))); (with_reducible have k3 := Blk.later hb (Blk.alloc (Blk.alloc (Blk.new rfl)))); (with_reducible have k4 := Blk.later hb (Blk.alloc (Blk.new rfl))); (with_reducible have k5 := Blk.later hb (Blk.new rfl)); simp only [World.size_alloc] at k1 k2 k3 k4 k5; obtain ⟨a0, b0⟩ := k0.read; have zl := k0.lt; obtain ⟨a1, b1⟩ := k1.read; have zl := k1.lt; obtain ⟨a2, b2⟩ := k2.read; have zl := k2.lt; obtain ⟨a3, b3⟩ := k3.read; have zl := k3.lt; obtain ⟨a4, b4⟩ := k4.read; have zl := k4.lt; obtain ⟨a5, b5⟩ := k5.read; have zl := k5.lt) | ((try (have zk := k0.lt; (first | ((with_reducible refine Blk.keepG hb k0 (fun h => ?_) ?_); (focus ((repeat' (first | (with_reducible assumption) | ((with_reducible refine Blk.new ?_); first | rfl | (simp; done)) | (with_reducible refine Blk.later (by assumption) ?_) | (with_reducible refine Blk.alloc ?_) | (with_reducible refine Blk.drewN ?_) | (with_reducible refine Blk.drew ?_) | (with_reducible refine Blk.other ?_ (by first | omega | (simp; done) | (simp; omega))))); done)); clear k0; intro k0) | (with_reducible replace k0 := Blk.later hb (Blk.set (Blk.set k0))) | (with_reducible replace k0 := Blk.later hb (Blk.set k0))); clear a0 b0; obtain ⟨a0, b0⟩ := k0.read; have zl := k0.lt)); (try (have zk := k1.lt; (first | ((with_reducible refine Blk.keepG hb k1 (fun h => ?_) ?_); (focus ((repeat' (first | (with_reducible assumption) | ((with_reducible refine Blk.new ?_); first | rfl | (simp; done)) | (with_reducible refine Blk.later (by assumption) ?_) | (with_reducible refine Blk.alloc ?_) | (with_reducible refine Blk.drewN ?_) | (with_reducible refine Blk.drew ?_) | (with_reducible refine Blk.other ?_ (by first | omega | (simp; done) | (simp; omega))))); done)); clear k1; intro k1) | (with_reducible replace k1 := Blk.later hb (Blk.set (Blk.set k1))) | (with_reducible replace k1 := Blk.later hb (Blk.set k1))); clear a1 b1; obtain ⟨a1, b1⟩ := k1.read; have zl := k1.lt)); (try (have zk := k2.lt; (first | ((with_reducible refine Blk.keepG hb k2 (fun h => ?_) ?_); (focus ((repeat' (first | (with_reducible assumption) | ((with_reducible refine Blk.new ?_); first | rfl | (simp; done)) | (with_reducible refine Blk.later (by assumption) ?_) | (with_reducible refine Blk.alloc ?_) | (with_reducible refine Blk.drewN ?_) | (with_reducible refine Blk.drew ?_) | (with_reducible refine Blk.other ?_ (by first | omega | (simp; done) | (simp; omega))))); done)); clear k2; intro k2) | (with_reducible replace k2 := Blk.later hb (Blk.set (Blk.set k2))) | (with_reducible replace k2 := Blk.later hb (Blk.set k2))); clear a2 b2; obtain ⟨a2, b2⟩ := k2.read; have zl := k2.lt)); (try (have zk := k3.lt; (first | ((with_reducible refine Blk.keepG hb k3 (fun h => ?_) ?_); (focus ((repeat' (first | (with_reducible assumption) | ((with_reducible refine Blk.new ?_); first | rfl | (simp; done)) | (with_reducible refine Blk.later (by assumption) ?_) | (with_reducible refine Blk.alloc ?_) | (with_reducible refine Blk.drewN ?_) | (with_reducible refine Blk.drew ?_) | (with_reducible refine Blk.other ?_ (by first | omega | (simp; done) | (simp; omega))))); done)); clear k3; intro k3) | (with_reducible replace k3 := Blk.later hb (Blk.set (Blk.set k3))) | (with_reducible replace k3 := Blk.later hb (Blk.set k3))); clear a3 b3; obtain ⟨a3, b3⟩ := k3.read; have zl := k3.lt)); (try (have zk := k4.lt; (first | ((with_reducible refine Blk.keepG hb k4 (fun h => ?_) ?_); (focus ((repeat' (first | (with_reducible assumption) | ((with_reducible refine Blk.new ?_); first | rfl | (simp; done)) | (with_reducible refine Blk.later (by assumption) ?_) | (with_reducible refine Blk.alloc ?_) | (with_reducible refine Blk.drewN ?_) | (with_reducible refine Blk.drew ?_) | (with_reducible refine Blk.other ?_ (by first | omega | (simp; done) | (simp; omega))))); done)); clear k4; intro k4) | (with_reducible replace k4 := Blk.later hb (Blk.set (Blk.set k4))) | (with_reducible replace k4 := Blk.later hb (Blk.set k4))); clear a4 b4; obtain ⟨a4, b4⟩ := k4.read; have zl := k4.lt)); (try (have zk := k5.lt; (first | ((with_reducible refine Blk.keepG hb k5 (fun h => ?_) ?_); (focus ((repeat' (first | (with_reducible assumption) | ((with_reducible refine Blk.new ?_); first | rfl | (simp; done)) | (with_reducible refine Blk.later (by assumption) ?_) | (with_reducible refine Blk.alloc ?_) | (with_reducible refine Blk.drewN ?_) | (with_reducible refine Blk.drew ?_) | (with_reducible refine Blk.other ?_ (by first | omega | (simp; done) | (simp; omega))))); done)); clear k5; intro k5) | (with_reducible replace k5 := Blk.later hb (Blk.set (Blk.set k5))) | (with_reducible replace k5 := Blk.later hb (Blk.set k5))); clear a5 b5; obtain ⟨a5, b5⟩ := k5.read; have zl := k5.lt)))))
      | (go_at_call 69; (with_reducible refine (HT.out _).mono ?_); rintro e w1 ⟨rfl, rfl⟩)
      | (go_at_call 59; (with_reducible refine (HI.out _).mono ?_); rintro e w1 ⟨rfl, rfl⟩))
    exact bodyPost_ret (v := .tuple #[.agg #[.int .i64 0, .int .i64 0], .int .i64 2]) (by simp only [results, Try.results41]; go_simp) rfl ⟨rfl, by (repeat' (first | (with_reducible exact Below.refl _ _) | (with_reducible assumption) | (with_reducible refine belowThru ?_ (by assumption)) | (with_reducible refine belowAlloc ?_) | (with_reducible refine Below.setCell ?_ (by first | omega | (simp; done) | (simp; omega)) _) | (with_reducible refine Below.drew ?_) | (with_reducible refine below_drewN ?_ _)))⟩
  · have HT : Hid (∀ w, Calls Try.prog 69 #[.int .i64 t] w fun e w' => e = .returned (.bool false) ∧ w = w') := fun w => by
      have := isThr_any t w
      rwa [decide_eq_false ht] at this
    clear h hz ht hl
    go_enter Try.func41, Try.ntmps41
    go_wp2_with (first
      | (go_at_call 26; (with_reducible refine (HC.out _ _ _ (HR.out.later (by (repeat' (first | (with_reducible exact Below.refl _ _) | (with_reducible assumption) | (with_reducible refine belowThru ?_ (by assumption)) | (with_reducible refine belowAlloc ?_) | (with_reducible refine Below.setCell ?_ (by first | omega | (simp; done) | (simp; omega)) _) | (with_reducible refine Below.drew ?_) | (with_reducible refine below_drewN ?_ _)))))).mono ?_); rintro e w1 ⟨rfl, hb⟩; (first | ((with_reducible have k0 := Blk.later hb (Blk.alloc (Blk.alloc (Blk.alloc (Blk.alloc (Blk.alloc (Blk.new rfl))))))); (with_reducible have k1 := Blk.later hb (Blk.alloc (Blk.alloc (Blk.alloc (Blk.alloc (Blk.new rfl)))))); (with_reducible have k2 := Blk.later hb (Blk.alloc (Blk.alloc (Blk.alloc (Blk.new rfl))))); (with_reducible have k3 := Blk.later hb (Blk.alloc (Blk.alloc (Blk.new rfl)))); (with_reducible have k4 := Blk.later hb (Blk.alloc (Blk.new rfl))); (with_reducible have k5 := Blk.later hb (Blk.new rfl)); simp only [World.size_alloc] at k1 k2 k3 k4 k5; obtain ⟨a0, b0⟩ := k0.read; have zl := k0.lt; obtain ⟨a1, b1⟩ := k1.read; have zl := k1.lt; obtain ⟨a2, b2⟩ := k2.read; have zl := k2.lt; obtain ⟨a3, b3⟩ := k3.read; have zl := k3.lt; obtain ⟨a4, b4⟩ := k4.read; have zl := k4.lt; obtain ⟨a5, b5⟩ := k5.read; have zl := k5.lt) | ((try (have zk := k0.lt; (first | ((with_reducible refine Blk.keepG hb k0 (fun h => ?_) ?_); (focus ((repeat' (first | (with_reducible assumption) | ((with_reducible refine Blk.new ?_); first | rfl | (simp; done)) | (with_reducible refine Blk.later (by assumption) ?_) | (with_reducible refine Blk.alloc ?_) | (with_reducible refine Blk.drewN ?_) | (with_reducible refine Blk.drew ?_) | (with_reducible refine Blk.other ?_ (by first | omega | (simp; done) | (simp; omega))))); done)); clear k0; intro k0) | (with_reducible replace k0 := Blk.later hb (Blk.set (Blk.set k0))) | (with_reducible replace k0 := Blk.later hb (Blk.set k0))); clear a0 b0; obtain ⟨a0, b0⟩ := k0.read; have zl := k0.lt)); (try (have zk := k1.lt; (first | ((with_reducible refine Blk.keepG hb k1 (fun h => ?_) ?_); (focus ((repeat' (first | (with_reducible assumption) | ((with_reducible refine Blk.new ?_); first | rfl | (simp; done)) | (with_reducible refine Blk.later (by assumption) ?_) | (with_reducible refine Blk.alloc ?_) | (with_reducible refine Blk.drewN ?_) | (with_reducible refine Blk.drew ?_) | (with_reducible refine Blk.other ?_ (by first | omega | (simp; done) | (simp; omega))))); done)); clear k1; intro k1) | (with_reducible replace k1 := Blk.later hb (Blk.set (Blk.set k1))) | (with_reducible replace k1 := Blk.later hb (Blk.set k1))); clear a1 b1; obtain ⟨a1, b1⟩ := k1.read; have zl := k1.lt)); (try (have zk := k2.lt; (first | ((with_reducible refine Blk.keepG hb k2 (fun h => ?_) ?_); (focus ((repeat' (first | (with_reducible assumption) | ((with_reducible refine Blk.new ?_); first | rfl | (simp; done)) | (with_reducible refine Blk.later (by assumption) ?_) | (with_reducible refine Blk.alloc ?_) | (with_reducible refine Blk.drewN ?_) | (with_reducible refine Blk.drew ?_) | (with_reducible refine Blk.other ?_ (by first | omega | (simp; done) | (simp; omega))))); done)); clear k2; intro k2) | (with_reducible replace k2 := Blk.later hb (Blk.set (Blk.set k2))) | (with_reducible replace k2 := Blk.later hb (Blk.set k2))); clear a2 b2; obtain ⟨a2, b2⟩ := k2.read; have zl := k2.lt)); (try (have zk := k3.lt; (first | ((with_reducible refine Blk.keepG hb k3 (fun h => ?_) ?_); (focus ((repeat' (first | (with_reducible assumption) | ((with_reducible refine Blk.new ?_); first | rfl | (simp; done)) | (with_reducible refine Blk.later (by assumption) ?_) | (with_reducible refine Blk.alloc ?_) | (with_reducible refine Blk.drewN ?_) | (with_reducible refine Blk.drew ?_) | (with_reducible refine Blk.other ?_ (by first | omega | (simp; done) | (simp; omega))))); done)); clear k3; intro k3) | (with_reducible replace k3 := Blk.later hb (Blk.set (Blk.set k3))) | (with_reducible replace k3 := Blk.later hb (Blk.set k3))); clear a3 b3; obtain ⟨a3, b3⟩ := k3.read; have zl := k3.lt)); (try (have zk := k4.lt; (first | ((with_reducible refine Blk.keepG hb k4 (fun h => ?_) ?_); (focus ((repeat' (first | (with_reducible assumption) | ((with_reducible refine Blk.new ?_); first | rfl | (simp; done)) | (with_reducible refine Blk.later (by assumption) ?_) | (with_reducible refine Blk.alloc ?_) | (with_reducible refine Blk.drewN ?_) | (with_reducible refine Blk.drew ?_) | (with_reducible refine Blk.other ?_ (by first | omega | (simp; done) | (simp; omega))))); done)); clear k4; intro k4) | (with_reducible replace k4 := Blk.later hb (Blk.set (Blk.set k4))) | (with_reducible replace k4 := Blk.later hb (Blk.set k4))); clear a4 b4; obtain ⟨a4, b4⟩ := k4.read; have zl := k4.lt)); (try (have zk := k5.lt; (first | ((with_reducible refine Blk.keepG hb k5 (fun h => ?_) ?_); (focus ((repeat' (first | (with_reducible assumption) | ((with_reducible refine Blk.new ?_); first | rfl | (simp; done)) | (with_reducible refine Blk.later (by assumption) ?_) | (with_reducible refine Blk.alloc ?_) | (with_reducible refine Blk.drewN ?_) | (with_reducible refine Blk.drew ?_) | (with_reducible refine Blk.other ?_ (by first | omega | (simp; done) | (simp; omega))))); done)); clear k5; intro k5) | (with_reducible replace k5 := Blk.later hb (Blk.set (Blk.set k5))) | (with_reducible replace k5 := Blk.later hb (Blk.set k5))); clear a5 b5; obtain ⟨a5, b5⟩ := k5.read; have zl := k5.lt)))))
      | (go_at_call 69; (with_reducible refine (HT.out _).mono ?_); rintro e w1 ⟨rfl, rfl⟩))
    exact bodyPost_ret (v := .tuple #[.agg #[.int .i64 0, .int .i64 0], .int .i64 2]) (by simp only [results, Try.results41]; go_simp) rfl ⟨rfl, by (repeat' (first | (with_reducible exact Below.refl _ _) | (with_reducible assumption) | (with_reducible refine belowThru ?_ (by assumption)) | (with_reducible refine belowAlloc ?_) | (with_reducible refine Below.setCell ?_ (by first | omega | (simp; done) | (simp; omega)) _) | (with_reducible refine Below.drew ?_) | (with_reducible refine below_drewN ?_ _)))⟩

theorem mkR_of (x : Rat) (N D : Int) (hD : 1 ≤ D) (h : x * (D : Rat) = (N : Rat)) : x = mkR N D := by
  rw [mkR_div]
  have := int_pos (show 0 < D by omega)
  grind
/-- The number that the code asks Make for is the place. -/
theorem nArg_place {p s t : Int} {q : List Int} {k : Nat} (hq : V8 q) (hs : s = 1 ∨ s = -1) (hp : 0 ≤ p ∧ p < 64) (hl : q.length ≤ 64) (h : fb t q = some k) :
    ((p : Rat) + (s : Rat) * pl t q k = mkR (nArg p s t q k).1 (nArg p s t q k).2) ∧ 1 ≤ (nArg p s t q k).2 ∧ (nArg p s t q k).2 ≤ 255 ∧ -40000 ≤ (nArg p s t q k).1 ∧ (nArg p s t q k).1 ≤ 40000 := by
  cases k with
  | zero =>
    have e : nArg p s t q 0 = (p, 1) := if_pos rfl
    rw [e, pl_zero]
    refine ⟨mkR_of _ _ _ (show (1 : Int) ≤ 1 by omega) ?_, show (1 : Int) ≤ 1 by omega, show (1 : Int) ≤ 255 by omega, by show -40000 ≤ p; omega, by show p ≤ 40000; omega⟩
    rw [Rat.mul_zero, Rat.add_zero]; exact Rat.mul_one _
  | succ k =>
    obtain ⟨v, u, hv, hu, h1, h2⟩ := fb_step h
    have b1 := hq v (List.mem_of_getElem? hv)
    have b2 := hq u (List.mem_of_getElem? hu)
    have hlt := fb_lt h
    have e : nArg p s t q (k + 1) = ((p + s * ((k + 1 : Nat) : Int)) * (v - u) - s * (v - t), v - u) := by
      unfold nArg
      rw [if_neg (by omega), Nat.add_sub_cancel, hv, hu]; rfl
    rw [e, pl_succ t q k hv hu]
    have hj : -64 ≤ p + s * ((k + 1 : Nat) : Int) ∧ p + s * ((k + 1 : Nat) : Int) ≤ 128 := by rcases hs with rfl | rfl <;> push_cast <;> omega
    have m1 := mul_bound (p + s * ((k + 1 : Nat) : Int)) (v - u) 128 255 (by omega) (by omega) (by omega) (by omega)
    have m2 := mul_bound s (v - t) 1 255 (by omega) (by omega) (by omega) (by omega)
    refine ⟨mkR_of _ _ _ (show 1 ≤ v - u by omega) ?_, show 1 ≤ v - u by omega, show v - u ≤ 255 by omega, ?_, ?_⟩
    · have hr := int_pos (show 0 < v - u by omega)
      show ((p : Rat) + (s : Rat) * ((((k : Int) : Rat) + 1) - ((v - t : Int) : Rat) / ((v - u : Int) : Rat))) * ((v - u : Int) : Rat) = (((p + s * ((k + 1 : Nat) : Int)) * (v - u) - s * (v - t) : Int) : Rat)
      have e2 : (((p + s * ((k + 1 : Nat) : Int)) * (v - u) - s * (v - t) : Int) : Rat) = ((p : Rat) + (s : Rat) * (((k : Int) : Rat) + 1)) * ((v - u : Int) : Rat) - (s : Rat) * ((v - t : Int) : Rat) := by
        rw [Rat.intCast_sub, Rat.intCast_mul, Rat.intCast_add, Rat.intCast_mul, Rat.intCast_mul, Int.natCast_add, Rat.intCast_add]; rfl
      rw [e2]
      generalize ((v - u : Int) : Rat) = r at *
      generalize ((v - t : Int) : Rat) = z at *
      have : z / r * r = z := by grind
      grind
    · show -40000 ≤ (p + s * ((k + 1 : Nat) : Int)) * (v - u) - s * (v - t); omega
    · show (p + s * ((k + 1 : Nat) : Int)) * (v - u) - s * (v - t) ≤ 40000; omega
theorem mAB_of {n d : Int} (hd : 1 ≤ d) (hd2 : d ≤ 255) (h1 : -40000 ≤ n) (h2 : n ≤ 40000) : mA n d = fn (mkR n d) ∧ mB n d = fd (mkR n d) ∧ mE n d = 0 := by
  have hf := mkR_fits' n d (by omega) (by omega) (by omega) (by omega) (by omega)
  unfold mA mB mE rn rd re
  have h0 : ¬ d = 0 := by omega
  simp only [if_neg h0, if_pos hf]
  exact ⟨trivial, trivial, trivial⟩
end Go.Proofs.Ytdimmnoflenfhaa
/-
  Layer 5: First and Last for any arguments.
-/
namespace Go.Proofs.Ytdimmnoflenfhaa
open Go.RowKit Go.Shelf
set_option linter.unusedVariables false
set_option linter.unusedSimpArgs false

theorem near_ok (t : Int) (p : Nat) (s : Int) (a : Option Addr) (n c : Nat) (zs q : List Int) (hz : okP zs) (hl : zs.length = n) (ht : okT t) (hs : s = 1 ∨ s = -1) (hp : p < n) (hw : IsWay zs n p s q) (hq : V8 q) (o : Option Rat) (ho : o = (br t q).map fun d => ((p : Int) : Rat) + (s : Rat) * d) (w : World) (hR : Row w a n (iv zs)) :
    Calls Try.prog 41 #[.slice a n c, .int .i64 t, .int .i64 p, .int .i64 s] w fun e w' => e = .returned (.tuple #[.agg #[.int .i64 (oN o), .int .i64 (oD o)], .int .i64 (if o.isSome then 0 else 6)]) ∧ Below w.heap.size w w' := by
  have h := (callsIn_wide (n := 9)).1 (near_in 9 (by omega) t p s a n c zs q hz hl ht hs hp hw w hR)
  subst ho
  unfold br
  cases hf : fb t q with
  | none => rw [hf] at h; exact h
  | some k =>
    rw [hf] at h
    obtain ⟨e, d1, d2, n1, n2⟩ := nArg_place (p := p) (s := s) hq hs ⟨by omega, by have := hz.1.2; omega⟩ hw.2.2 hf
    obtain ⟨e1, e2, e3⟩ := mAB_of d1 d2 n1 n2
    have f1 : nA p s t q (some k) = fn (mkR (nArg p s t q k).1 (nArg p s t q k).2) := e1
    have f2 : nB p s t q (some k) = fd (mkR (nArg p s t q k).1 (nArg p s t q k).2) := e2
    have f3 : nE p s t q (some k) = 0 := e3
    rw [f1, f2, f3, ← e] at h
    exact h
theorem FX_way (t : Int) (zs : List Int) (p : Nat) : FX t zs p = (br t (zs.drop p)).map fun d => ((p : Int) : Rat) + ((1 : Int) : Rat) * d := by
  unfold FX
  congr 1
  funext d
  rw [show ((1 : Int) : Rat) = 1 from rfl, Rat.one_mul]
theorem LX_way (t : Int) (zs : List Int) (p : Nat) : LX t zs p = (br t (zs.take (p + 1)).reverse).map fun d => ((p : Int) : Rat) + ((-1 : Int) : Rat) * d := by
  unfold LX
  congr 1
  funext d
  rw [show ((-1 : Int) : Rat) = -1 from rfl]
  grind
theorem near_first (a : Option Addr) (n c : Nat) (zs : List Int) (t p : Int) (hn : n ≤ maxLen) (w : World) (hR : Row w a n (iv zs)) :
    Calls Try.prog 41 #[.slice a n c, .int .i64 t, .int .i64 p, .int .i64 1] w fun e w' => e = .returned (.tuple #[.agg #[.int .i64 (oN (fiO t zs p)), .int .i64 (oD (fiO t zs p))], .int .i64 (fiE t zs p)]) ∧ Below w.heap.size w w' := by
  have hl : zs.length = n := by have := hR.1; rwa [iv_length] at this
  unfold fiO fiE
  by_cases hz : okP zs
  · by_cases h : okT t ∧ inL zs p
    · rw [if_pos ⟨hz, h⟩, asE_ok hz h]
      obtain ⟨P, rfl⟩ := Int.eq_ofNat_of_zero_le h.2.1
      have hp : P < zs.length := by have := h.2.2; omega
      rw [Int.toNat_natCast]
      exact near_ok t P 1 a n c zs (zs.drop P) hz hl h.1 (.inl rfl) (by omega) (by rw [← hl]; exact isWay_first zs P hz.1.2) (hz.2.drop P) _ (FX_way t zs P) w hR
    · rw [if_neg (fun k => h k.2), asE_arg hz h]
      exact near_arg a n c zs t p 1 hn hl hz h w hR
  · rw [if_neg (fun k => hz k.1), asE_no hz]
    exact near_profile a n c zs t p 1 hn hz w hR
theorem near_last (a : Option Addr) (n c : Nat) (zs : List Int) (t p : Int) (hn : n ≤ maxLen) (w : World) (hR : Row w a n (iv zs)) :
    Calls Try.prog 41 #[.slice a n c, .int .i64 t, .int .i64 p, .int .i64 (-1)] w fun e w' => e = .returned (.tuple #[.agg #[.int .i64 (oN (laO t zs p)), .int .i64 (oD (laO t zs p))], .int .i64 (laE t zs p)]) ∧ Below w.heap.size w w' := by
  have hl : zs.length = n := by have := hR.1; rwa [iv_length] at this
  unfold laO laE
  by_cases hz : okP zs
  · by_cases h : okT t ∧ inL zs p
    · rw [if_pos ⟨hz, h⟩, asE_ok hz h]
      obtain ⟨P, rfl⟩ := Int.eq_ofNat_of_zero_le h.2.1
      have hp : P < zs.length := by have := h.2.2; omega
      rw [Int.toNat_natCast]
      exact near_ok t P (-1) a n c zs _ hz hl h.1 (.inr rfl) (by omega) (by rw [← hl]; exact isWay_last zs P hp hz.1.2) (hz.2.back (P + 1)) _ (LX_way t zs P) w hR
    · rw [if_neg (fun k => h k.2), asE_arg hz h]
      exact near_arg a n c zs t p (-1) hn hl hz h w hR
  · rw [if_neg (fun k => hz k.1), asE_no hz]
    exact near_profile a n c zs t p (-1) hn hz w hR
set_option maxHeartbeats 1000000 in
theorem first_any (a : Option Addr) (n c : Nat) (zs : List Int) (t p : Int) (hn : n ≤ maxLen) (w : World) (hR : Row w a n (iv zs)) :
    Calls Try.prog 9 #[.slice a n c, .int .i64 t, .int .i64 p] w fun e w' => e = .returned (.tuple #[.agg #[.int .i64 (oN (fiO t zs p)), .int .i64 (oD (fiO t zs p))], .int .i64 (fiE t zs p)]) ∧ Below w.heap.size w w' := by
  have HN := Lib.hid (fun w => near_first a n c zs t p hn w)
  have HR := Lib.hid hR
  obtain ⟨A, hA⟩ : ∃ A, oN (fiO t zs p) = A := ⟨_, rfl⟩
  obtain ⟨B, hB⟩ : ∃ B, oD (fiO t zs p) = B := ⟨_, rfl⟩
  obtain ⟨E, hE⟩ : ∃ E, fiE t zs p = E := ⟨_, rfl⟩
  rw [hA, hB, hE] at HN ⊢
  clear hA hB hE hR
  go_enter Try.func9, Try.ntmps9
  go_wp2_with (go_at_call 41; (with_reducible refine (HN.out _ (HR.out.later (by (repeat' (first | (with_reducible exact Below.refl _ _) | (with_reducible assumption) | (with_reducible refine belowThru ?_ (by assumption)) | (with_reducible refine belowAlloc ?_) | (with_reducible refine Below.setCell ?_ (by first | omega | (simp; done) | (simp; omega)) _) | (with_reducible refine Below.drew ?_) | (with_reducible refine below_drewN ?_ _)))))).mono ?_); rintro e w1 ⟨rfl, hb⟩; (first | ((with_reducible have k0 := Blk.later hb (Blk.new rfl)); skip; obtain ⟨a0, b0⟩ := k0.read; have zl := k0.lt) | ((try (have zk := k0.lt; (first | ((with_reducible refine Blk.keepG hb k0 (fun h => ?_) ?_); (focus ((repeat' (first | (with_reducible assumption) | ((with_reducible refine Blk.new ?_); first | rfl | (simp; done)) | (with_reducible refine Blk.later (by assumption) ?_) | (with_reducible refine Blk.alloc ?_) | (with_reducible refine Blk.drewN ?_) | (with_reducible refine Blk.drew ?_) | (with_reducible refine Blk.other ?_ (by first | omega | (simp; done) | (simp; omega))))); done)); clear k0; intro k0) | (with_reducible replace k0 := Blk.later hb (Blk.set (Blk.set k0))) | (with_reducible replace k0 := Blk.later hb (Blk.set k0))); clear a0 b0; obtain ⟨a0, b0⟩ := k0.read; have zl := k0.lt)))))
  exact bodyPost_ret (v := .tuple #[.agg #[.int .i64 A, .int .i64 B], .int .i64 E]) (by simp only [results, Try.results9]; go_simp) rfl ⟨rfl, by (repeat' (first | (with_reducible exact Below.refl _ _) | (with_reducible assumption) | (with_reducible refine belowThru ?_ (by assumption)) | (with_reducible refine belowAlloc ?_) | (with_reducible refine Below.setCell ?_ (by first | omega | (simp; done) | (simp; omega)) _) | (with_reducible refine Below.drew ?_) | (with_reducible refine below_drewN ?_ _)))⟩
set_option maxHeartbeats 1000000 in
theorem last_any (a : Option Addr) (n c : Nat) (zs : List Int) (t p : Int) (hn : n ≤ maxLen) (w : World) (hR : Row w a n (iv zs)) :
    Calls Try.prog 11 #[.slice a n c, .int .i64 t, .int .i64 p] w fun e w' => e = .returned (.tuple #[.agg #[.int .i64 (oN (laO t zs p)), .int .i64 (oD (laO t zs p))], .int .i64 (laE t zs p)]) ∧ Below w.heap.size w w' := by
  have HN := Lib.hid (fun w => near_last a n c zs t p hn w)
  have HR := Lib.hid hR
  obtain ⟨A, hA⟩ : ∃ A, oN (laO t zs p) = A := ⟨_, rfl⟩
  obtain ⟨B, hB⟩ : ∃ B, oD (laO t zs p) = B := ⟨_, rfl⟩
  obtain ⟨E, hE⟩ : ∃ E, laE t zs p = E := ⟨_, rfl⟩
  rw [hA, hB, hE] at HN ⊢
  clear hA hB hE hR
  go_enter Try.func11, Try.ntmps11
  go_wp2_with (go_at_call 41; (with_reducible refine (HN.out _ (HR.out.later (by (repeat' (first | (with_reducible exact Below.refl _ _) | (with_reducible assumption) | (with_reducible refine belowThru ?_ (by assumption)) | (with_reducible refine belowAlloc ?_) | (with_reducible refine Below.setCell ?_ (by first | omega | (simp; done) | (simp; omega)) _) | (with_reducible refine Below.drew ?_) | (with_reducible refine below_drewN ?_ _)))))).mono ?_); rintro e w1 ⟨rfl, hb⟩; (first | ((with_reducible have k0 := Blk.later hb (Blk.new rfl)); skip; obtain ⟨a0, b0⟩ := k0.read; have zl := k0.lt) | ((try (have zk := k0.lt; (first | ((with_reducible refine Blk.keepG hb k0 (fun h => ?_) ?_); (focus ((repeat' (first | (with_reducible assumption) | ((with_reducible refine Blk.new ?_); first | rfl | (simp; done)) | (with_reducible refine Blk.later (by assumption) ?_) | (with_reducible refine Blk.alloc ?_) | (with_reducible refine Blk.drewN ?_) | (with_reducible refine Blk.drew ?_) | (with_reducible refine Blk.other ?_ (by first | omega | (simp; done) | (simp; omega))))); done)); clear k0; intro k0) | (with_reducible replace k0 := Blk.later hb (Blk.set (Blk.set k0))) | (with_reducible replace k0 := Blk.later hb (Blk.set k0))); clear a0 b0; obtain ⟨a0, b0⟩ := k0.read; have zl := k0.lt)))))
  exact bodyPost_ret (v := .tuple #[.agg #[.int .i64 A, .int .i64 B], .int .i64 E]) (by simp only [results, Try.results11]; go_simp) rfl ⟨rfl, by (repeat' (first | (with_reducible exact Below.refl _ _) | (with_reducible assumption) | (with_reducible refine belowThru ?_ (by assumption)) | (with_reducible refine belowAlloc ?_) | (with_reducible refine Below.setCell ?_ (by first | omega | (simp; done) | (simp; omega)) _) | (with_reducible refine Below.drew ?_) | (with_reducible refine below_drewN ?_ _)))⟩
end Go.Proofs.Ytdimmnoflenfhaa
/-
  Layer 5: the upper and the lower profile, by the code.
-/
namespace Go.Proofs.Ytdimmnoflenfhaa
open Go.RowKit Go.Shelf
set_option linter.unusedVariables false
set_option linter.unusedSimpArgs false

theorem made_ints (N : Nat) : madeCells #[.int .i64 0] N = ints (List.replicate N 0) := by
  unfold madeCells ints
  apply Array.ext
  · simp
  · intro i h1 h2
    simp [Nat.mod_one]
theorem run_make_ints (N : Nat) (h : N ≤ 1099511627776) (w : World) : (Instr.makeSlice 27 (.int .i64 (N : Int)) (.int .i64 (N : Int))).run Try.prog w = .ok (.slice (some ⟨w.heap.size, 0, none⟩) N N) (w.alloc (.cells (ints (List.replicate N 0)) 3)) := by
  rw [← made_ints]
  exact run_make_row' 27 3 (.int .i64 0) 8 Try.underlying27 (by kernel_rfl) rfl .i64 .i64 N (by omega) (by omega) w
theorem ints_set (zs : List Int) (p : Nat) (v : Int) : (ints zs).setIfInBounds p (.int .i64 v) = ints (zs.set p v) := by
  unfold ints
  apply Array.ext'
  simp [List.map_set]
/-- So many values are written, the others are 0. -/
def partL (ys : List Int) (n k : Nat) : List Int := ys.take k ++ List.replicate (n - k) 0
theorem partL_zero (ys : List Int) (n : Nat) : partL ys n 0 = List.replicate n 0 := by simp [partL]
theorem partL_all (ys : List Int) (n : Nat) (h : ys.length = n) : partL ys n n = ys := by simp [partL, ← h]
theorem partL_length (ys : List Int) (n k : Nat) (h : ys.length = n) (hk : k ≤ n) : (partL ys n k).length = n := by
  unfold partL; rw [List.length_append, List.length_take, List.length_replicate]; omega
theorem partL_set (ys : List Int) (n k : Nat) (h : ys.length = n) (hk : k < n) {v : Int} (hv : ys[k]? = some v) : (partL ys n k).set k v = partL ys n (k + 1) := by
  apply List.ext_getElem?
  intro i
  have hl := partL_length ys n k h (by omega)
  by_cases e : k = i
  · subst e
    rw [List.getElem?_set_self (by omega)]
    unfold partL
    rw [List.getElem?_append_left (by rw [List.length_take]; omega), List.getElem?_take, if_pos (by omega), hv]
  · rw [List.getElem?_set_ne e]
    unfold partL
    by_cases h1 : i < k
    · rw [List.getElem?_append_left (by rw [List.length_take]; omega), List.getElem?_append_left (by rw [List.length_take]; omega), List.getElem?_take, List.getElem?_take, if_pos h1, if_pos (by omega)]
    · rw [List.getElem?_append_right (by rw [List.length_take]; omega), List.getElem?_append_right (by rw [List.length_take]; omega), List.length_take, List.length_take, List.getElem?_replicate, List.getElem?_replicate]
      by_cases h2 : i < n
      · rw [if_pos (by omega), if_pos (by omega)]
      · rw [if_neg (by omega), if_neg (by omega)]

set_option maxRecDepth 100000 in
set_option maxHeartbeats 4000000 in
theorem env_ok (a : Option Addr) (n c : Nat) (zs : List Int) (nz : Int) (f : FuncId) (cap : Array Value) (V : Int → Int) (ef : ∀ args w, (callFunc f args).run Try.prog w = .ok (.enter f args) w)
    (hz : okP zs) (hN : okN nz) (w : World) (hR : Row w a n (iv zs))
    (HV : Hid (∀ (v : Int) (W1 : World), v ∈ zs → Below w.heap.size w W1 → Calls Try.prog f (#[.int .i64 v] ++ cap) W1 fun e W2 => e = .returned (.int .i64 (V v)) ∧ Below W1.heap.size W1 W2)) :
    Calls Try.prog 55 #[.slice a n c, .int .i64 nz, .func (.func f) #[] cap] w fun e w' => ∃ b, e = .returned (.tuple #[.slice (some ⟨b, 0, none⟩) n n, .int .i64 0]) ∧ w.heap.size ≤ b ∧ Blk w' b (ints (zs.map V)) 3 ∧ Below w.heap.size w w' := by
  have hl : zs.length = n := by have := hR.1; rwa [iv_length] at this
  have hn64 : n ≤ 64 := by rw [← hl]; exact hz.1.2
  have HC : Hid (∀ (w : World), Row w a n (iv zs) → Calls Try.prog 26 #[.slice a n c] w fun e w' => e = .returned (.int .i64 0) ∧ Below w.heap.size w w') := fun w hR => by
    have := ckP_any a n c zs (by unfold maxLen; omega) w hR
    rwa [ckP_ok hz] at this
  have HI : Hid (∀ w, Calls Try.prog 70 #[.int .i64 nz] w fun e w' => e = .returned (.bool true) ∧ w = w') := fun w => by
    have := isNoise_any nz w
    rwa [decide_eq_true hN] at this
  have hmk := run_make_ints n (by omega)
  have HR := Lib.hid hR
  obtain ⟨ys, hys⟩ : ∃ ys, zs.map V = ys := ⟨_, rfl⟩
  have HY : Hid (∀ (k : Nat) (v : Int), zs[k]? = some v → ys[k]? = some (V v)) := fun k v h => by rw [← hys, List.getElem?_map, h]; rfl
  have HL : Hid (ys.length = n) := by show ys.length = n; rw [← hys, List.length_map, hl]
  rw [hys]
  clear hys hR hz hN hl
  go_enter Try.func55, Try.ntmps55
  go_wp2_with (first
    | (go_at_call 26; (with_reducible refine (HC.out _ (HR.out.later (by (repeat' (first | (with_reducible exact Below.refl _ _) | (with_reducible assumption) | (with_reducible refine belowThru ?_ (by assumption)) | (with_reducible refine belowAlloc ?_) | (with_reducible refine Below.setCell ?_ (by first | omega | (simp; done) | (simp; omega)) _) | (with_reducible refine Below.drew ?_) | (with_reducible refine below_drewN ?_ _)))))).mono ?_); rintro e wC ⟨rfl, hBC⟩)
    | (go_at_call 70; (with_reducible refine (HI.out _).mono ?_); rintro e w1 ⟨rfl, rfl⟩))
  obtain ⟨W0, hW0⟩ : ∃ W0, wC.alloc (.cells (ints (List.replicate n 0)) 3) = W0 := ⟨_, rfl⟩
  have k0 : Blk W0 wC.heap.size (ints (List.replicate n 0)) 3 := by rw [← hW0]; exact Blk.new rfl
  have hB0 : Below w.heap.size w W0 := by rw [← hW0]; (repeat' (first | (with_reducible exact Below.refl _ _) | (with_reducible assumption) | (with_reducible refine belowThru ?_ (by assumption)) | (with_reducible refine belowAlloc ?_) | (with_reducible refine Below.setCell ?_ (by first | omega | (simp; done) | (simp; omega)) _) | (with_reducible refine Below.drew ?_) | (with_reducible refine below_drewN ?_ _)))
  obtain ⟨b, hb⟩ : ∃ b, wC.heap.size = b := ⟨_, rfl⟩
  have hbw : w.heap.size ≤ b := by rw [← hb]; exact hBC.size
  rw [hW0]
  rw [hb] at k0 ⊢
  clear hW0 hb hmk hBC
  rw [← partL_zero ys n] at k0
  go_loopw [25] (fun i wr => ∃ k : Nat, k ≤ n ∧ i = .int .i64 k ∧ Blk wr b (ints (partL ys n k)) 3 ∧ Below w.heap.size w wr) (fun i _ => n - (intOf i).toNat)
  case atStart => exact ⟨0, Nat.zero_le _, rfl, k0, hB0⟩
  case round =>
    clear k0 hB0
    obtain ⟨k, hk, rfl, k0, hB⟩ := hrel
    by_cases hlt : k < n
    · obtain ⟨bb, oo, v, rfl, hbb, hv, cv⟩ := HR.out.int hlt
      have cv := cell_later hB cv
      have p0 : (0 : Int) ≤ (k : Int) := by omega
      have p1 : (k : Int) < (n : Int) := by omega
      have HV1 := Lib.hid (fun W1 => HV.out v W1 (List.mem_of_getElem? hv))
      have hs := Lib.hid (partL_set ys n k HL.out hlt (HY.out k v hv))
      obtain ⟨z0, hz0⟩ : ∃ z0, (ints (partL ys n k))[k]? = some (.int .i64 z0) := ⟨(partL ys n k)[k]'(by rw [partL_length _ _ _ HL.out hk]; exact hlt), by rw [ints_get, List.getElem?_eq_getElem (by rw [partL_length _ _ _ HL.out hk]; exact hlt)]; rfl⟩
      clear hv
      go_wp2_with (go_at_fn f; (with_reducible refine (HV1.out _ hB).mono ?_); rintro e wA ⟨rfl, hA⟩; have k1 := Blk.later hA k0; obtain ⟨a1, b1⟩ := k1.read; have hBA := belowThru hB hA)
      go_roundw
      case rel =>
        refine ⟨k + 1, hlt, by go_num, ?_, ?_⟩
        · rw [← hs.out, ← ints_set]; exact Blk.set k1
        · exact hBA.setCell (p := ⟨b, k, none⟩) hbw _
      case measure => simp [intOf]; omega
    · obtain rfl : k = n := by omega
      rw [partL_all ys k HL.out] at k0
      go_wp2
      exact bodyPost_ret (v := .tuple #[.slice (some ⟨b, 0, none⟩) k k, .int .i64 0]) (by simp only [results, Try.results55]; go_simp) rfl ⟨b, rfl, hbw, k0, hB⟩

def upV (n v : Int) : Int := if 255 ≤ v + n then 255 else v + n
def lwV (n v : Int) : Int := if v - n ≤ 0 then 0 else v - n
set_option maxHeartbeats 1000000 in
theorem up1_any (n v : Int) (B : Nat) (h0 : 0 ≤ v) (h1 : v ≤ 255) (n0 : 0 ≤ n) (n1 : n ≤ 64) (w : World) (hc : w.cell? ⟨B, 0, none⟩ = some (.int .i64 n)) :
    Calls Try.prog 56 #[.int .i64 v, .pointer (some ⟨B, 0, none⟩)] w fun e w' => e = .returned (.int .i64 (upV n v)) ∧ Below w.heap.size w w' := by
  have e1 : IntKind.i64.wrap (v + n) = v + n := IntWalk.i64_in _ (by omega)
  have e2 : min 255 (v + n) = upV n v := by unfold upV; omega
  rw [← e2]
  clear e2
  go_enter Try.func56, Try.ntmps56
  go_wp2
  go_ret
  exact ⟨rfl, Below.refl _ _⟩
set_option maxHeartbeats 1000000 in
theorem lw1_any (n v : Int) (B : Nat) (h0 : 0 ≤ v) (h1 : v ≤ 255) (n0 : 0 ≤ n) (n1 : n ≤ 64) (w : World) (hc : w.cell? ⟨B, 0, none⟩ = some (.int .i64 n)) :
    Calls Try.prog 58 #[.int .i64 v, .pointer (some ⟨B, 0, none⟩)] w fun e w' => e = .returned (.int .i64 (lwV n v)) ∧ Below w.heap.size w w' := by
  have e1 : IntKind.i64.wrap (v - n) = v - n := IntWalk.i64_in _ (by omega)
  have e2 : max 0 (v - n) = lwV n v := by unfold lwV; omega
  rw [← e2]
  clear e2
  go_enter Try.func58, Try.ntmps58
  go_wp2
  go_ret
  exact ⟨rfl, Below.refl _ _⟩
set_option maxHeartbeats 2000000 in
theorem up_ok (a : Option Addr) (n c : Nat) (zs : List Int) (nz : Int) (hz : okP zs) (hN : okN nz) (w : World) (hR : Row w a n (iv zs)) :
    Calls Try.prog 22 #[.slice a n c, .int .i64 nz] w fun e w' => ∃ b, e = .returned (.tuple #[.slice (some ⟨b, 0, none⟩) n n, .int .i64 0]) ∧ w.heap.size ≤ b ∧ Blk w' b (ints (upL nz zs)) 3 ∧ Below w.heap.size w w' := by
  have HR := Lib.hid hR
  have HE : Hid (∀ (B : Nat) (w : World), B < w.heap.size → w.cell? ⟨B, 0, none⟩ = some (.int .i64 nz) → Row w a n (iv zs) → Calls Try.prog 55 #[.slice a n c, .int .i64 nz, .func (.func 56) #[] #[.pointer (some ⟨B, 0, none⟩)]] w fun e w' => ∃ b, e = .returned (.tuple #[.slice (some ⟨b, 0, none⟩) n n, .int .i64 0]) ∧ w.heap.size ≤ b ∧ Blk w' b (ints (upL nz zs)) 3 ∧ Below w.heap.size w w') := fun B w hB hc hR =>
    env_ok a n c zs nz 56 #[.pointer (some ⟨B, 0, none⟩)] (upV nz) (enters_of Try.func56 (by kernel_rfl) rfl) hz hN w hR (fun v W1 hv hb => up1_any nz v B (hz.2 v hv).1 (hz.2 v hv).2 hN.1 hN.2 W1 (cell_later hb hc))
  clear hR hz hN
  go_enter Try.func22, Try.ntmps22
  go_wp2_with (go_at_call 55; (with_reducible refine (HE.out _ _ (by simp) (by simp [go_sem]) (HR.out.later (by (repeat' (first | (with_reducible exact Below.refl _ _) | (with_reducible assumption) | (with_reducible refine belowThru ?_ (by assumption)) | (with_reducible refine belowAlloc ?_) | (with_reducible refine Below.setCell ?_ (by first | omega | (simp; done) | (simp; omega)) _) | (with_reducible refine Below.drew ?_) | (with_reducible refine below_drewN ?_ _)))))).mono ?_); rintro e w1 ⟨b, rfl, hbw, kb, hb⟩)
  exact bodyPost_ret (v := .tuple #[.slice (some ⟨b, 0, none⟩) n n, .int .i64 0]) (by simp only [results, Try.results22]; go_simp) rfl ⟨b, rfl, by simp at hbw; omega, kb, by (repeat' (first | (with_reducible exact Below.refl _ _) | (with_reducible assumption) | (with_reducible refine belowThru ?_ (by assumption)) | (with_reducible refine belowAlloc ?_) | (with_reducible refine Below.setCell ?_ (by first | omega | (simp; done) | (simp; omega)) _) | (with_reducible refine Below.drew ?_) | (with_reducible refine below_drewN ?_ _)))⟩
set_option maxHeartbeats 2000000 in
theorem lw_ok (a : Option Addr) (n c : Nat) (zs : List Int) (nz : Int) (hz : okP zs) (hN : okN nz) (w : World) (hR : Row w a n (iv zs)) :
    Calls Try.prog 24 #[.slice a n c, .int .i64 nz] w fun e w' => ∃ b, e = .returned (.tuple #[.slice (some ⟨b, 0, none⟩) n n, .int .i64 0]) ∧ w.heap.size ≤ b ∧ Blk w' b (ints (lwL nz zs)) 3 ∧ Below w.heap.size w w' := by
  have HR := Lib.hid hR
  have HE : Hid (∀ (B : Nat) (w : World), B < w.heap.size → w.cell? ⟨B, 0, none⟩ = some (.int .i64 nz) → Row w a n (iv zs) → Calls Try.prog 55 #[.slice a n c, .int .i64 nz, .func (.func 58) #[] #[.pointer (some ⟨B, 0, none⟩)]] w fun e w' => ∃ b, e = .returned (.tuple #[.slice (some ⟨b, 0, none⟩) n n, .int .i64 0]) ∧ w.heap.size ≤ b ∧ Blk w' b (ints (lwL nz zs)) 3 ∧ Below w.heap.size w w') := fun B w hB hc hR =>
    env_ok a n c zs nz 58 #[.pointer (some ⟨B, 0, none⟩)] (lwV nz) (enters_of Try.func58 (by kernel_rfl) rfl) hz hN w hR (fun v W1 hv hb => lw1_any nz v B (hz.2 v hv).1 (hz.2 v hv).2 hN.1 hN.2 W1 (cell_later hb hc))
  clear hR hz hN
  go_enter Try.func24, Try.ntmps24
  go_wp2_with (go_at_call 55; (with_reducible refine (HE.out _ _ (by simp) (by simp [go_sem]) (HR.out.later (by (repeat' (first | (with_reducible exact Below.refl _ _) | (with_reducible assumption) | (with_reducible refine belowThru ?_ (by assumption)) | (with_reducible refine belowAlloc ?_) | (with_reducible refine Below.setCell ?_ (by first | omega | (simp; done) | (simp; omega)) _) | (with_reducible refine Below.drew ?_) | (with_reducible refine below_drewN ?_ _)))))).mono ?_); rintro e w1 ⟨b, rfl, hbw, kb, hb⟩)
  exact bodyPost_ret (v := .tuple #[.slice (some ⟨b, 0, none⟩) n n, .int .i64 0]) (by simp only [results, Try.results24]; go_simp) rfl ⟨b, rfl, by simp at hbw; omega, kb, by (repeat' (first | (with_reducible exact Below.refl _ _) | (with_reducible assumption) | (with_reducible refine belowThru ?_ (by assumption)) | (with_reducible refine belowAlloc ?_) | (with_reducible refine Below.setCell ?_ (by first | omega | (simp; done) | (simp; omega)) _) | (with_reducible refine Below.drew ?_) | (with_reducible refine below_drewN ?_ _)))⟩
set_option maxHeartbeats 2000000 in
theorem env_no (a : Option Addr) (n c : Nat) (zs : List Int) (nz : Int) (f : FuncId) (cap : Array Value) (hn : n ≤ maxLen) (h : ¬ (okP zs ∧ okN nz)) (w : World) (hR : Row w a n (iv zs)) :
    Calls Try.prog 55 #[.slice a n c, .int .i64 nz, .func (.func f) #[] cap] w fun e w' => e = .returned (.tuple #[.slice none 0 0, .int .i64 (if okP zs then 2 else 50)]) ∧ Below w.heap.size w w' := by
  have HC : Hid (∀ (w : World), Row w a n (iv zs) → Calls Try.prog 26 #[.slice a n c] w fun e w' => e = .returned (.int .i64 (ckP zs)) ∧ Below w.heap.size w w') := fun w hR => ckP_any a n c zs hn w hR
  have HR := Lib.hid hR
  clear hR
  by_cases hz : okP zs
  · have HI : Hid (∀ w, Calls Try.prog 70 #[.int .i64 nz] w fun e w' => e = .returned (.bool false) ∧ w = w') := fun w => by
      have := isNoise_any nz w
      rwa [decide_eq_false (fun k => h ⟨hz, k⟩)] at this
    rw [ckP_ok hz] at HC
    rw [if_pos hz]
    clear h hz
    go_enter Try.func55, Try.ntmps55
    go_wp2_with (first
      | (go_at_call 26; (with_reducible refine (HC.out _ (HR.out.later (by (repeat' (first | (with_reducible exact Below.refl _ _) | (with_reducible assumption) | (with_reducible refine belowThru ?_ (by assumption)) | (with_reducible refine belowAlloc ?_) | (with_reducible refine Below.setCell ?_ (by first | omega | (simp; done) | (simp; omega)) _) | (with_reducible refine Below.drew ?_) | (with_reducible refine below_drewN ?_ _)))))).mono ?_); rintro e wC ⟨rfl, hBC⟩)
      | (go_at_call 70; (with_reducible refine (HI.out _).mono ?_); rintro e w1 ⟨rfl, rfl⟩))
    exact bodyPost_ret (v := .tuple #[.slice none 0 0, .int .i64 2]) (by simp only [results, Try.results55]; go_simp) rfl ⟨rfl, by (repeat' (first | (with_reducible exact Below.refl _ _) | (with_reducible assumption) | (with_reducible refine belowThru ?_ (by assumption)) | (with_reducible refine belowAlloc ?_) | (with_reducible refine Below.setCell ?_ (by first | omega | (simp; done) | (simp; omega)) _) | (with_reducible refine Below.drew ?_) | (with_reducible refine below_drewN ?_ _)))⟩
  · rw [ckP_no hz] at HC
    rw [if_neg hz]
    clear h hz
    go_enter Try.func55, Try.ntmps55
    go_wp2_with (go_at_call 26; (with_reducible refine (HC.out _ (HR.out.later (by (repeat' (first | (with_reducible exact Below.refl _ _) | (with_reducible assumption) | (with_reducible refine belowThru ?_ (by assumption)) | (with_reducible refine belowAlloc ?_) | (with_reducible refine Below.setCell ?_ (by first | omega | (simp; done) | (simp; omega)) _) | (with_reducible refine Below.drew ?_) | (with_reducible refine below_drewN ?_ _)))))).mono ?_); rintro e wC ⟨rfl, hBC⟩)
    exact bodyPost_ret (v := .tuple #[.slice none 0 0, .int .i64 50]) (by simp only [results, Try.results55]; go_simp) rfl ⟨rfl, by (repeat' (first | (with_reducible exact Below.refl _ _) | (with_reducible assumption) | (with_reducible refine belowThru ?_ (by assumption)) | (with_reducible refine belowAlloc ?_) | (with_reducible refine Below.setCell ?_ (by first | omega | (simp; done) | (simp; omega)) _) | (with_reducible refine Below.drew ?_) | (with_reducible refine below_drewN ?_ _)))⟩
set_option maxHeartbeats 2000000 in
theorem up_no (a : Option Addr) (n c : Nat) (zs : List Int) (nz : Int) (hn : n ≤ maxLen) (h : ¬ (okP zs ∧ okN nz)) (w : World) (hR : Row w a n (iv zs)) :
    Calls Try.prog 22 #[.slice a n c, .int .i64 nz] w fun e w' => e = .returned (.tuple #[.slice none 0 0, .int .i64 (if okP zs then 2 else 50)]) ∧ Below w.heap.size w w' := by
  have HR := Lib.hid hR
  have HE := Lib.hid (fun f cap w => env_no a n c zs nz f cap hn h w)
  obtain ⟨E, hE⟩ : ∃ E : Int, (if okP zs then 2 else 50) = E := ⟨_, rfl⟩
  rw [hE] at HE ⊢
  clear hR h hE
  go_enter Try.func22, Try.ntmps22
  go_wp2_with (go_at_call 55; (with_reducible refine (HE.out _ _ _ (HR.out.later (by (repeat' (first | (with_reducible exact Below.refl _ _) | (with_reducible assumption) | (with_reducible refine belowThru ?_ (by assumption)) | (with_reducible refine belowAlloc ?_) | (with_reducible refine Below.setCell ?_ (by first | omega | (simp; done) | (simp; omega)) _) | (with_reducible refine Below.drew ?_) | (with_reducible refine below_drewN ?_ _)))))).mono ?_); rintro e w1 ⟨rfl, hb⟩)
  exact bodyPost_ret (v := .tuple #[.slice none 0 0, .int .i64 E]) (by simp only [results, Try.results22]; go_simp) rfl ⟨rfl, by (repeat' (first | (with_reducible exact Below.refl _ _) | (with_reducible assumption) | (with_reducible refine belowThru ?_ (by assumption)) | (with_reducible refine belowAlloc ?_) | (with_reducible refine Below.setCell ?_ (by first | omega | (simp; done) | (simp; omega)) _) | (with_reducible refine Below.drew ?_) | (with_reducible refine below_drewN ?_ _)))⟩
end Go.Proofs.Ytdimmnoflenfhaa
/-
  Layer 1: the enclosure of some fractions.
-/
namespace Go.Proofs.Ytdimmnoflenfhaa
open Go.RowKit

/-- The least, the greatest of a number and some others. -/
def loQ (m : Rat) (xs : List Rat) : Rat := xs.foldl (fun m x => if x < m then x else m) m
def hiQ (m : Rat) (xs : List Rat) : Rat := xs.foldl (fun m x => if m < x then x else m) m
theorem loQ_snoc (m : Rat) (xs : List Rat) (x : Rat) : loQ m (xs ++ [x]) = if x < loQ m xs then x else loQ m xs := by unfold loQ; rw [List.foldl_append]; rfl
theorem hiQ_snoc (m : Rat) (xs : List Rat) (x : Rat) : hiQ m (xs ++ [x]) = if hiQ m xs < x then x else hiQ m xs := by unfold hiQ; rw [List.foldl_append]; rfl
theorem loQ_fits (m : Rat) (hm : fits m) : ∀ xs : List Rat, (∀ x ∈ xs, fits x) → fits (loQ m xs) := by
  intro xs
  induction xs generalizing m with
  | nil => intro _; exact hm
  | cons x xs ih =>
    intro h
    have hx := h x (List.mem_cons_self ..)
    show fits (loQ (if x < m then x else m) xs)
    refine ih _ ?_ (fun y hy => h y (List.mem_cons_of_mem _ hy))
    split <;> assumption
theorem hiQ_fits (m : Rat) (hm : fits m) : ∀ xs : List Rat, (∀ x ∈ xs, fits x) → fits (hiQ m xs) := by
  intro xs
  induction xs generalizing m with
  | nil => intro _; exact hm
  | cons x xs ih =>
    intro h
    have hx := h x (List.mem_cons_self ..)
    show fits (hiQ (if m < x then x else m) xs)
    refine ih _ ?_ (fun y hy => h y (List.mem_cons_of_mem _ hy))
    split <;> assumption

set_option maxRecDepth 100000 in
set_option maxHeartbeats 2000000 in
theorem hull_any (m : Rat) (xs : List Rat) (hm : fits m) (hx : ∀ x ∈ xs, fits x) (B off n c : Nat) (hn : n = xs.length) (hn1 : n ≤ 100) (_ho : off ≤ 100) (w : World)
    (hc : ∀ i, i < n → w.cell? ⟨B, off + i * 2, none⟩ = some (.int .i64 (fn (xs.getD i 0))) ∧ w.cell? ⟨B, off + i * 2 + 1, none⟩ = some (.int .i64 (fd (xs.getD i 0)))) :
    Calls Try.prog 93 #[.agg #[.int .i64 (fn m), .int .i64 (fd m)], .slice (some ⟨B, off, none⟩) n c] w fun e w' => e = .returned (.agg #[.int .i64 (fn (loQ m xs)), .int .i64 (fd (loQ m xs)), .int .i64 (fn (hiQ m xs)), .int .i64 (fd (hiQ m xs))]) ∧ Below w.heap.size w w' := by
  have HC := Lib.hid hc; clear hc
  have HX := Lib.hid hx; clear hx
  have HM := Lib.hid hm; clear hm
  have HN := Lib.hid hn; clear hn
  go_enter Try.func93, Try.ntmps93
  go_wp2
  go_loopw [13] (fun i wr => ∃ k : Nat, k ≤ n ∧ i = .int .i64 k ∧ Blk wr (w.heap.size + 1 + 1) #[.int .i64 (fn (loQ m (xs.take k))), .int .i64 (fd (loQ m (xs.take k))), .int .i64 (fn (hiQ m (xs.take k))), .int .i64 (fd (hiQ m (xs.take k)))] 30 ∧ Blk wr (w.heap.size + 1) #[.int .i64 0, .int .i64 0, .int .i64 0, .int .i64 0] 30 ∧ Below w.heap.size w wr) (fun i _ => n - (intOf i).toNat)
  case atStart => exact ⟨0, Nat.zero_le _, rfl, Blk.new (by simp), by (repeat' (first | (with_reducible assumption) | ((with_reducible refine Blk.new ?_); first | rfl | (simp; done)) | (with_reducible refine Blk.later (by assumption) ?_) | (with_reducible refine Blk.alloc ?_) | (with_reducible refine Blk.drewN ?_) | (with_reducible refine Blk.drew ?_) | (with_reducible refine Blk.other ?_ (by first | omega | (simp; done) | (simp; omega))))), by (repeat' (first | (with_reducible exact Below.refl _ _) | (with_reducible assumption) | (with_reducible refine belowThru ?_ (by assumption)) | (with_reducible refine belowAlloc ?_) | (with_reducible refine Below.setCell ?_ (by first | omega | (simp; done) | (simp; omega)) _) | (with_reducible refine Below.drew ?_) | (with_reducible refine below_drewN ?_ _)))⟩
  case round =>
    obtain ⟨k, hk, rfl, k2, k1, hB⟩ := hrel
    obtain ⟨a2, b2⟩ := k2.read; obtain ⟨a1, b1⟩ := k1.read
    have z1 := k1.lt; have z2 := k2.lt
    by_cases hlt : k < n
    · obtain ⟨x, hxe⟩ : ∃ x, x = xs.getD k 0 := ⟨_, rfl⟩
      have HL := HN.out
      have hxk : xs[k]? = some x := by rw [hxe, List.getD_eq_getElem?_getD, List.getElem?_eq_getElem (by omega)]; rfl
      have fx : fits x := HX.out x (List.mem_of_getElem? hxk)
      have HT : Hid (xs.take (k + 1) = xs.take k ++ [x]) := by
        show _ = _; rw [List.take_add_one, hxk]; rfl
      have flo : fits (loQ m (xs.take k)) := loQ_fits m HM.out _ (fun y hy => HX.out y (List.mem_of_mem_take hy))
      have fhi : fits (hiQ m (xs.take k)) := hiQ_fits m HM.out _ (fun y hy => HX.out y (List.mem_of_mem_take hy))
      obtain ⟨g0, g1⟩ := HC.out k hlt
      rw [← hxe] at g0 g1
      have g0 := cell_later (hB.mono (Nat.le_refl _)) g0
      have g1 := cell_later (hB.mono (Nat.le_refl _)) g1
      have H1 := Lib.hid (order_q x _ fx flo)
      have H2 := Lib.hid (order_q x _ fx fhi)
      clear hxe HL hxk fx flo fhi
      by_cases h1 : ordQ x (loQ m (xs.take k)) < 0 <;> by_cases h2 : 0 < ordQ x (hiQ m (xs.take k))
      · have e1 : Hid (loQ m (xs.take (k + 1)) = x) := by show _ = _; rw [HT.out, loQ_snoc, if_pos (ordQ_lt.1 h1)]
        have e2 : Hid (hiQ m (xs.take (k + 1)) = x) := by show _ = _; rw [HT.out, hiQ_snoc, if_pos (ordQ_gt.1 h2)]
        go_wp2_with (first
          | (go_at_call 81; (with_reducible refine (H1.out _).mono ?_); rintro e w1 ⟨rfl, hb⟩; (try (have zk := k1.lt; (first | ((with_reducible refine Blk.keepG hb k1 (fun h => ?_) ?_); (focus ((repeat' (first | (with_reducible assumption) | ((with_reducible refine Blk.new ?_); first | rfl | (simp; done)) | (with_reducible refine Blk.later (by assumption) ?_) | (with_reducible refine Blk.alloc ?_) | (with_reducible refine Blk.drewN ?_) | (with_reducible refine Blk.drew ?_) | (with_reducible refine Blk.other ?_ (by first | omega | (simp; done) | (simp; omega))))); done)); clear k1; intro k1) | (with_reducible replace k1 := Blk.later hb (Blk.set (Blk.set k1))) | (with_reducible replace k1 := Blk.later hb (Blk.set k1))); clear a1 b1; obtain ⟨a1, b1⟩ := k1.read; have zl := k1.lt)); (try (have zk := k2.lt; (first | ((with_reducible refine Blk.keepG hb k2 (fun h => ?_) ?_); (focus ((repeat' (first | (with_reducible assumption) | ((with_reducible refine Blk.new ?_); first | rfl | (simp; done)) | (with_reducible refine Blk.later (by assumption) ?_) | (with_reducible refine Blk.alloc ?_) | (with_reducible refine Blk.drewN ?_) | (with_reducible refine Blk.drew ?_) | (with_reducible refine Blk.other ?_ (by first | omega | (simp; done) | (simp; omega))))); done)); clear k2; intro k2) | (with_reducible replace k2 := Blk.later hb (Blk.set (Blk.set k2))) | (with_reducible replace k2 := Blk.later hb (Blk.set k2))); clear a2 b2; obtain ⟨a2, b2⟩ := k2.read; have zl := k2.lt)); (first | (have zk := kn.lt; (first | ((with_reducible refine Blk.keepG hb kn (fun h => ?_) ?_); (focus ((repeat' (first | (with_reducible assumption) | ((with_reducible refine Blk.new ?_); first | rfl | (simp; done)) | (with_reducible refine Blk.later (by assumption) ?_) | (with_reducible refine Blk.alloc ?_) | (with_reducible refine Blk.drewN ?_) | (with_reducible refine Blk.drew ?_) | (with_reducible refine Blk.other ?_ (by first | omega | (simp; done) | (simp; omega))))); done)); clear kn; intro kn) | (with_reducible replace kn := Blk.later hb (Blk.set (Blk.set kn))) | (with_reducible replace kn := Blk.later hb (Blk.set kn))); clear an bn; obtain ⟨an, bn⟩ := kn.read; have zl := kn.lt) | ((first | (with_reducible have kn := Blk.later hb (Blk.new rfl)) | (with_reducible have kn := Blk.later hb (Blk.drew (Blk.new rfl))) | (with_reducible have kn := Blk.later hb (Blk.drewN (Blk.new rfl)))); (try simp only [World.size_alloc, World.size_drew, World.heap_drewN] at kn); obtain ⟨an, bn⟩ := kn.read; have zl := kn.lt) | skip))
          | (go_at_call 81; (with_reducible refine (H2.out _).mono ?_); rintro e w1 ⟨rfl, hb⟩; (try (have zk := k1.lt; (first | ((with_reducible refine Blk.keepG hb k1 (fun h => ?_) ?_); (focus ((repeat' (first | (with_reducible assumption) | ((with_reducible refine Blk.new ?_); first | rfl | (simp; done)) | (with_reducible refine Blk.later (by assumption) ?_) | (with_reducible refine Blk.alloc ?_) | (with_reducible refine Blk.drewN ?_) | (with_reducible refine Blk.drew ?_) | (with_reducible refine Blk.other ?_ (by first | omega | (simp; done) | (simp; omega))))); done)); clear k1; intro k1) | (with_reducible replace k1 := Blk.later hb (Blk.set (Blk.set k1))) | (with_reducible replace k1 := Blk.later hb (Blk.set k1))); clear a1 b1; obtain ⟨a1, b1⟩ := k1.read; have zl := k1.lt)); (try (have zk := k2.lt; (first | ((with_reducible refine Blk.keepG hb k2 (fun h => ?_) ?_); (focus ((repeat' (first | (with_reducible assumption) | ((with_reducible refine Blk.new ?_); first | rfl | (simp; done)) | (with_reducible refine Blk.later (by assumption) ?_) | (with_reducible refine Blk.alloc ?_) | (with_reducible refine Blk.drewN ?_) | (with_reducible refine Blk.drew ?_) | (with_reducible refine Blk.other ?_ (by first | omega | (simp; done) | (simp; omega))))); done)); clear k2; intro k2) | (with_reducible replace k2 := Blk.later hb (Blk.set (Blk.set k2))) | (with_reducible replace k2 := Blk.later hb (Blk.set k2))); clear a2 b2; obtain ⟨a2, b2⟩ := k2.read; have zl := k2.lt)); (first | (have zk := kn.lt; (first | ((with_reducible refine Blk.keepG hb kn (fun h => ?_) ?_); (focus ((repeat' (first | (with_reducible assumption) | ((with_reducible refine Blk.new ?_); first | rfl | (simp; done)) | (with_reducible refine Blk.later (by assumption) ?_) | (with_reducible refine Blk.alloc ?_) | (with_reducible refine Blk.drewN ?_) | (with_reducible refine Blk.drew ?_) | (with_reducible refine Blk.other ?_ (by first | omega | (simp; done) | (simp; omega))))); done)); clear kn; intro kn) | (with_reducible replace kn := Blk.later hb (Blk.set (Blk.set kn))) | (with_reducible replace kn := Blk.later hb (Blk.set kn))); clear an bn; obtain ⟨an, bn⟩ := kn.read; have zl := kn.lt) | ((first | (with_reducible have kn := Blk.later hb (Blk.new rfl)) | (with_reducible have kn := Blk.later hb (Blk.drew (Blk.new rfl))) | (with_reducible have kn := Blk.later hb (Blk.drewN (Blk.new rfl)))); (try simp only [World.size_alloc, World.size_drew, World.heap_drewN] at kn); obtain ⟨an, bn⟩ := kn.read; have zl := kn.lt) | skip)))
        go_roundw
        case rel =>
          refine ⟨k + 1, hlt, by go_num, ?_, ?_, by (repeat' (first | (with_reducible exact Below.refl _ _) | (with_reducible assumption) | (with_reducible refine belowThru ?_ (by assumption)) | (with_reducible refine belowAlloc ?_) | (with_reducible refine Below.setCell ?_ (by first | omega | (simp; done) | (simp; omega)) _) | (with_reducible refine Below.drew ?_) | (with_reducible refine below_drewN ?_ _)))⟩
          · rw [e1.out, e2.out]
            exact Blk.set (Blk.set k2)
          · (repeat' (first | (with_reducible assumption) | ((with_reducible refine Blk.new ?_); first | rfl | (simp; done)) | (with_reducible refine Blk.later (by assumption) ?_) | (with_reducible refine Blk.alloc ?_) | (with_reducible refine Blk.drewN ?_) | (with_reducible refine Blk.drew ?_) | (with_reducible refine Blk.other ?_ (by first | omega | (simp; done) | (simp; omega)))))
        case measure => simp [intOf]; omega
      · have e1 : Hid (loQ m (xs.take (k + 1)) = x) := by show _ = _; rw [HT.out, loQ_snoc, if_pos (ordQ_lt.1 h1)]
        have e2 : Hid (hiQ m (xs.take (k + 1)) = hiQ m (xs.take k)) := by show _ = _; rw [HT.out, hiQ_snoc, if_neg (fun h => h2 (ordQ_gt.2 h))]
        go_wp2_with (first
          | (go_at_call 81; (with_reducible refine (H1.out _).mono ?_); rintro e w1 ⟨rfl, hb⟩; (try (have zk := k1.lt; (first | ((with_reducible refine Blk.keepG hb k1 (fun h => ?_) ?_); (focus ((repeat' (first | (with_reducible assumption) | ((with_reducible refine Blk.new ?_); first | rfl | (simp; done)) | (with_reducible refine Blk.later (by assumption) ?_) | (with_reducible refine Blk.alloc ?_) | (with_reducible refine Blk.drewN ?_) | (with_reducible refine Blk.drew ?_) | (with_reducible refine Blk.other ?_ (by first | omega | (simp; done) | (simp; omega))))); done)); clear k1; intro k1) | (with_reducible replace k1 := Blk.later hb (Blk.set (Blk.set k1))) | (with_reducible replace k1 := Blk.later hb (Blk.set k1))); clear a1 b1; obtain ⟨a1, b1⟩ := k1.read; have zl := k1.lt)); (try (have zk := k2.lt; (first | ((with_reducible refine Blk.keepG hb k2 (fun h => ?_) ?_); (focus ((repeat' (first | (with_reducible assumption) | ((with_reducible refine Blk.new ?_); first | rfl | (simp; done)) | (with_reducible refine Blk.later (by assumption) ?_) | (with_reducible refine Blk.alloc ?_) | (with_reducible refine Blk.drewN ?_) | (with_reducible refine Blk.drew ?_) | (with_reducible refine Blk.other ?_ (by first | omega | (simp; done) | (simp; omega))))); done)); clear k2; intro k2) | (with_reducible replace k2 := Blk.later hb (Blk.set (Blk.set k2))) | (with_reducible replace k2 := Blk.later hb (Blk.set k2))); clear a2 b2; obtain ⟨a2, b2⟩ := k2.read; have zl := k2.lt)); (first | (have zk := kn.lt; (first | ((with_reducible refine Blk.keepG hb kn (fun h => ?_) ?_); (focus ((repeat' (first | (with_reducible assumption) | ((with_reducible refine Blk.new ?_); first | rfl | (simp; done)) | (with_reducible refine Blk.later (by assumption) ?_) | (with_reducible refine Blk.alloc ?_) | (with_reducible refine Blk.drewN ?_) | (with_reducible refine Blk.drew ?_) | (with_reducible refine Blk.other ?_ (by first | omega | (simp; done) | (simp; omega))))); done)); clear kn; intro kn) | (with_reducible replace kn := Blk.later hb (Blk.set (Blk.set kn))) | (with_reducible replace kn := Blk.later hb (Blk.set kn))); clear an bn; obtain ⟨an, bn⟩ := kn.read; have zl := kn.lt) | ((first | (with_reducible have kn := Blk.later hb (Blk.new rfl)) | (with_reducible have kn := Blk.later hb (Blk.drew (Blk.new rfl))) | (with_reducible have kn := Blk.later hb (Blk.drewN (Blk.new rfl)))); (try simp only [World.size_alloc, World.size_drew, World.heap_drewN] at kn); obtain ⟨an, bn⟩ := kn.read; have zl := kn.lt) | skip))
          | (go_at_call 81; (with_reducible refine (H2.out _).mono ?_); rintro e w1 ⟨rfl, hb⟩; (try (have zk := k1.lt; (first | ((with_reducible refine Blk.keepG hb k1 (fun h => ?_) ?_); (focus ((repeat' (first | (with_reducible assumption) | ((with_reducible refine Blk.new ?_); first | rfl | (simp; done)) | (with_reducible refine Blk.later (by assumption) ?_) | (with_reducible refine Blk.alloc ?_) | (with_reducible refine Blk.drewN ?_) | (with_reducible refine Blk.drew ?_) | (with_reducible refine Blk.other ?_ (by first | omega | (simp; done) | (simp; omega))))); done)); clear k1; intro k1) | (with_reducible replace k1 := Blk.later hb (Blk.set (Blk.set k1))) | (with_reducible replace k1 := Blk.later hb (Blk.set k1))); clear a1 b1; obtain ⟨a1, b1⟩ := k1.read; have zl := k1.lt)); (try (have zk := k2.lt; (first | ((with_reducible refine Blk.keepG hb k2 (fun h => ?_) ?_); (focus ((repeat' (first | (with_reducible assumption) | ((with_reducible refine Blk.new ?_); first | rfl | (simp; done)) | (with_reducible refine Blk.later (by assumption) ?_) | (with_reducible refine Blk.alloc ?_) | (with_reducible refine Blk.drewN ?_) | (with_reducible refine Blk.drew ?_) | (with_reducible refine Blk.other ?_ (by first | omega | (simp; done) | (simp; omega))))); done)); clear k2; intro k2) | (with_reducible replace k2 := Blk.later hb (Blk.set (Blk.set k2))) | (with_reducible replace k2 := Blk.later hb (Blk.set k2))); clear a2 b2; obtain ⟨a2, b2⟩ := k2.read; have zl := k2.lt)); (first | (have zk := kn.lt; (first | ((with_reducible refine Blk.keepG hb kn (fun h => ?_) ?_); (focus ((repeat' (first | (with_reducible assumption) | ((with_reducible refine Blk.new ?_); first | rfl | (simp; done)) | (with_reducible refine Blk.later (by assumption) ?_) | (with_reducible refine Blk.alloc ?_) | (with_reducible refine Blk.drewN ?_) | (with_reducible refine Blk.drew ?_) | (with_reducible refine Blk.other ?_ (by first | omega | (simp; done) | (simp; omega))))); done)); clear kn; intro kn) | (with_reducible replace kn := Blk.later hb (Blk.set (Blk.set kn))) | (with_reducible replace kn := Blk.later hb (Blk.set kn))); clear an bn; obtain ⟨an, bn⟩ := kn.read; have zl := kn.lt) | ((first | (with_reducible have kn := Blk.later hb (Blk.new rfl)) | (with_reducible have kn := Blk.later hb (Blk.drew (Blk.new rfl))) | (with_reducible have kn := Blk.later hb (Blk.drewN (Blk.new rfl)))); (try simp only [World.size_alloc, World.size_drew, World.heap_drewN] at kn); obtain ⟨an, bn⟩ := kn.read; have zl := kn.lt) | skip)))
        go_roundw
        case rel =>
          refine ⟨k + 1, hlt, by go_num, ?_, ?_, by (repeat' (first | (with_reducible exact Below.refl _ _) | (with_reducible assumption) | (with_reducible refine belowThru ?_ (by assumption)) | (with_reducible refine belowAlloc ?_) | (with_reducible refine Below.setCell ?_ (by first | omega | (simp; done) | (simp; omega)) _) | (with_reducible refine Below.drew ?_) | (with_reducible refine below_drewN ?_ _)))⟩
          · rw [e1.out, e2.out]
            exact k2
          · (repeat' (first | (with_reducible assumption) | ((with_reducible refine Blk.new ?_); first | rfl | (simp; done)) | (with_reducible refine Blk.later (by assumption) ?_) | (with_reducible refine Blk.alloc ?_) | (with_reducible refine Blk.drewN ?_) | (with_reducible refine Blk.drew ?_) | (with_reducible refine Blk.other ?_ (by first | omega | (simp; done) | (simp; omega)))))
        case measure => simp [intOf]; omega
      · have e1 : Hid (loQ m (xs.take (k + 1)) = loQ m (xs.take k)) := by show _ = _; rw [HT.out, loQ_snoc, if_neg (fun h => h1 (ordQ_lt.2 h))]
        have e2 : Hid (hiQ m (xs.take (k + 1)) = x) := by show _ = _; rw [HT.out, hiQ_snoc, if_pos (ordQ_gt.1 h2)]
        go_wp2_with (first
          | (go_at_call 81; (with_reducible refine (H1.out _).mono ?_); rintro e w1 ⟨rfl, hb⟩; (try (have zk := k1.lt; (first | ((with_reducible refine Blk.keepG hb k1 (fun h => ?_) ?_); (focus ((repeat' (first | (with_reducible assumption) | ((with_reducible refine Blk.new ?_); first | rfl | (simp; done)) | (with_reducible refine Blk.later (by assumption) ?_) | (with_reducible refine Blk.alloc ?_) | (with_reducible refine Blk.drewN ?_) | (with_reducible refine Blk.drew ?_) | (with_reducible refine Blk.other ?_ (by first | omega | (simp; done) | (simp; omega))))); done)); clear k1; intro k1) | (with_reducible replace k1 := Blk.later hb (Blk.set (Blk.set k1))) | (with_reducible replace k1 := Blk.later hb (Blk.set k1))); clear a1 b1; obtain ⟨a1, b1⟩ := k1.read; have zl := k1.lt)); (try (have zk := k2.lt; (first | ((with_reducible refine Blk.keepG hb k2 (fun h => ?_) ?_); (focus ((repeat' (first | (with_reducible assumption) | ((with_reducible refine Blk.new ?_); first | rfl | (simp; done)) | (with_reducible refine Blk.later (by assumption) ?_) | (with_reducible refine Blk.alloc ?_) | (with_reducible refine Blk.drewN ?_) | (with_reducible refine Blk.drew ?_) | (with_reducible refine Blk.other ?_ (by first | omega | (simp; done) | (simp; omega))))); done)); clear k2; intro k2) | (with_reducible replace k2 := Blk.later hb (Blk.set (Blk.set k2))) | (with_reducible replace k2 := Blk.later hb (Blk.set k2))); clear a2 b2; obtain ⟨a2, b2⟩ := k2.read; have zl := k2.lt)); (first | (have zk := kn.lt; (first | ((with_reducible refine Blk.keepG hb kn (fun h => ?_) ?_); (focus ((repeat' (first | (with_reducible assumption) | ((with_reducible refine Blk.new ?_); first | rfl | (simp; done)) | (with_reducible refine Blk.later (by assumption) ?_) | (with_reducible refine Blk.alloc ?_) | (with_reducible refine Blk.drewN ?_) | (with_reducible refine Blk.drew ?_) | (with_reducible refine Blk.other ?_ (by first | omega | (simp; done) | (simp; omega))))); done)); clear kn; intro kn) | (with_reducible replace kn := Blk.later hb (Blk.set (Blk.set kn))) | (with_reducible replace kn := Blk.later hb (Blk.set kn))); clear an bn; obtain ⟨an, bn⟩ := kn.read; have zl := kn.lt) | ((first | (with_reducible have kn := Blk.later hb (Blk.new rfl)) | (with_reducible have kn := Blk.later hb (Blk.drew (Blk.new rfl))) | (with_reducible have kn := Blk.later hb (Blk.drewN (Blk.new rfl)))); (try simp only [World.size_alloc, World.size_drew, World.heap_drewN] at kn); obtain ⟨an, bn⟩ := kn.read; have zl := kn.lt) | skip))
          | (go_at_call 81; (with_reducible refine (H2.out _).mono ?_); rintro e w1 ⟨rfl, hb⟩; (try (have zk := k1.lt; (first | ((with_reducible refine Blk.keepG hb k1 (fun h => ?_) ?_); (focus ((repeat' (first | (with_reducible assumption) | ((with_reducible refine Blk.new ?_); first | rfl | (simp; done)) | (with_reducible refine Blk.later (by assumption) ?_) | (with_reducible refine Blk.alloc ?_) | (with_reducible refine Blk.drewN ?_) | (with_reducible refine Blk.drew ?_) | (with_reducible refine Blk.other ?_ (by first | omega | (simp; done) | (simp; omega))))); done)); clear k1; intro k1) | (with_reducible replace k1 := Blk.later hb (Blk.set (Blk.set k1))) | (with_reducible replace k1 := Blk.later hb (Blk.set k1))); clear a1 b1; obtain ⟨a1, b1⟩ := k1.read; have zl := k1.lt)); (try (have zk := k2.lt; (first | ((with_reducible refine Blk.keepG hb k2 (fun h => ?_) ?_); (focus ((repeat' (first | (with_reducible assumption) | ((with_reducible refine Blk.new ?_); first | rfl | (simp; done)) | (with_reducible refine Blk.later (by assumption) ?_) | (with_reducible refine Blk.alloc ?_) | (with_reducible refine Blk.drewN ?_) | (with_reducible refine Blk.drew ?_) | (with_reducible refine Blk.other ?_ (by first | omega | (simp; done) | (simp; omega))))); done)); clear k2; intro k2) | (with_reducible replace k2 := Blk.later hb (Blk.set (Blk.set k2))) | (with_reducible replace k2 := Blk.later hb (Blk.set k2))); clear a2 b2; obtain ⟨a2, b2⟩ := k2.read; have zl := k2.lt)); (first | (have zk := kn.lt; (first | ((with_reducible refine Blk.keepG hb kn (fun h => ?_) ?_); (focus ((repeat' (first | (with_reducible assumption) | ((with_reducible refine Blk.new ?_); first | rfl | (simp; done)) | (with_reducible refine Blk.later (by assumption) ?_) | (with_reducible refine Blk.alloc ?_) | (with_reducible refine Blk.drewN ?_) | (with_reducible refine Blk.drew ?_) | (with_reducible refine Blk.other ?_ (by first | omega | (simp; done) | (simp; omega))))); done)); clear kn; intro kn) | (with_reducible replace kn := Blk.later hb (Blk.set (Blk.set kn))) | (with_reducible replace kn := Blk.later hb (Blk.set kn))); clear an bn; obtain ⟨an, bn⟩ := kn.read; have zl := kn.lt) | ((first | (with_reducible have kn := Blk.later hb (Blk.new rfl)) | (with_reducible have kn := Blk.later hb (Blk.drew (Blk.new rfl))) | (with_reducible have kn := Blk.later hb (Blk.drewN (Blk.new rfl)))); (try simp only [World.size_alloc, World.size_drew, World.heap_drewN] at kn); obtain ⟨an, bn⟩ := kn.read; have zl := kn.lt) | skip)))
        go_roundw
        case rel =>
          refine ⟨k + 1, hlt, by go_num, ?_, ?_, by (repeat' (first | (with_reducible exact Below.refl _ _) | (with_reducible assumption) | (with_reducible refine belowThru ?_ (by assumption)) | (with_reducible refine belowAlloc ?_) | (with_reducible refine Below.setCell ?_ (by first | omega | (simp; done) | (simp; omega)) _) | (with_reducible refine Below.drew ?_) | (with_reducible refine below_drewN ?_ _)))⟩
          · rw [e1.out, e2.out]
            exact Blk.set (Blk.set k2)
          · (repeat' (first | (with_reducible assumption) | ((with_reducible refine Blk.new ?_); first | rfl | (simp; done)) | (with_reducible refine Blk.later (by assumption) ?_) | (with_reducible refine Blk.alloc ?_) | (with_reducible refine Blk.drewN ?_) | (with_reducible refine Blk.drew ?_) | (with_reducible refine Blk.other ?_ (by first | omega | (simp; done) | (simp; omega)))))
        case measure => simp [intOf]; omega
      · have e1 : Hid (loQ m (xs.take (k + 1)) = loQ m (xs.take k)) := by show _ = _; rw [HT.out, loQ_snoc, if_neg (fun h => h1 (ordQ_lt.2 h))]
        have e2 : Hid (hiQ m (xs.take (k + 1)) = hiQ m (xs.take k)) := by show _ = _; rw [HT.out, hiQ_snoc, if_neg (fun h => h2 (ordQ_gt.2 h))]
        go_wp2_with (first
          | (go_at_call 81; (with_reducible refine (H1.out _).mono ?_); rintro e w1 ⟨rfl, hb⟩; (try (have zk := k1.lt; (first | ((with_reducible refine Blk.keepG hb k1 (fun h => ?_) ?_); (focus ((repeat' (first | (with_reducible assumption) | ((with_reducible refine Blk.new ?_); first | rfl | (simp; done)) | (with_reducible refine Blk.later (by assumption) ?_) | (with_reducible refine Blk.alloc ?_) | (with_reducible refine Blk.drewN ?_) | (with_reducible refine Blk.drew ?_) | (with_reducible refine Blk.other ?_ (by first | omega | (simp; done) | (simp; omega))))); done)); clear k1; intro k1) | (with_reducible replace k1 := Blk.later hb (Blk.set (Blk.set k1))) | (with_reducible replace k1 := Blk.later hb (Blk.set k1))); clear a1 b1; obtain ⟨a1, b1⟩ := k1.read; have zl := k1.lt)); (try (have zk := k2.lt; (first | ((with_reducible refine Blk.keepG hb k2 (fun h => ?_) ?_); (focus ((repeat' (first | (with_reducible assumption) | ((with_reducible refine Blk.new ?_); first | rfl | (simp; done)) | (with_reducible refine Blk.later (by assumption) ?_) | (with_reducible refine Blk.alloc ?_) | (with_reducible refine Blk.drewN ?_) | (with_reducible refine Blk.drew ?_) | (with_reducible refine Blk.other ?_ (by first | omega | (simp; done) | (simp; omega))))); done)); clear k2; intro k2) | (with_reducible replace k2 := Blk.later hb (Blk.set (Blk.set k2))) | (with_reducible replace k2 := Blk.later hb (Blk.set k2))); clear a2 b2; obtain ⟨a2, b2⟩ := k2.read; have zl := k2.lt)); (first | (have zk := kn.lt; (first | ((with_reducible refine Blk.keepG hb kn (fun h => ?_) ?_); (focus ((repeat' (first | (with_reducible assumption) | ((with_reducible refine Blk.new ?_); first | rfl | (simp; done)) | (with_reducible refine Blk.later (by assumption) ?_) | (with_reducible refine Blk.alloc ?_) | (with_reducible refine Blk.drewN ?_) | (with_reducible refine Blk.drew ?_) | (with_reducible refine Blk.other ?_ (by first | omega | (simp; done) | (simp; omega))))); done)); clear kn; intro kn) | (with_reducible replace kn := Blk.later hb (Blk.set (Blk.set kn))) | (with_reducible replace kn := Blk.later hb (Blk.set kn))); clear an bn; obtain ⟨an, bn⟩ := kn.read; have zl := kn.lt) | ((first | (with_reducible have kn := Blk.later hb (Blk.new rfl)) | (with_reducible have kn := Blk.later hb (Blk.drew (Blk.new rfl))) | (with_reducible have kn := Blk.later hb (Blk.drewN (Blk.new rfl)))); (try simp only [World.size_alloc, World.size_drew, World.heap_drewN] at kn); obtain ⟨an, bn⟩ := kn.read; have zl := kn.lt) | skip))
          | (go_at_call 81; (with_reducible refine (H2.out _).mono ?_); rintro e w1 ⟨rfl, hb⟩; (try (have zk := k1.lt; (first | ((with_reducible refine Blk.keepG hb k1 (fun h => ?_) ?_); (focus ((repeat' (first | (with_reducible assumption) | ((with_reducible refine Blk.new ?_); first | rfl | (simp; done)) | (with_reducible refine Blk.later (by assumption) ?_) | (with_reducible refine Blk.alloc ?_) | (with_reducible refine Blk.drewN ?_) | (with_reducible refine Blk.drew ?_) | (with_reducible refine Blk.other ?_ (by first | omega | (simp; done) | (simp; omega))))); done)); clear k1; intro k1) | (with_reducible replace k1 := Blk.later hb (Blk.set (Blk.set k1))) | (with_reducible replace k1 := Blk.later hb (Blk.set k1))); clear a1 b1; obtain ⟨a1, b1⟩ := k1.read; have zl := k1.lt)); (try (have zk := k2.lt; (first | ((with_reducible refine Blk.keepG hb k2 (fun h => ?_) ?_); (focus ((repeat' (first | (with_reducible assumption) | ((with_reducible refine Blk.new ?_); first | rfl | (simp; done)) | (with_reducible refine Blk.later (by assumption) ?_) | (with_reducible refine Blk.alloc ?_) | (with_reducible refine Blk.drewN ?_) | (with_reducible refine Blk.drew ?_) | (with_reducible refine Blk.other ?_ (by first | omega | (simp; done) | (simp; omega))))); done)); clear k2; intro k2) | (with_reducible replace k2 := Blk.later hb (Blk.set (Blk.set k2))) | (with_reducible replace k2 := Blk.later hb (Blk.set k2))); clear a2 b2; obtain ⟨a2, b2⟩ := k2.read; have zl := k2.lt)); (first | (have zk := kn.lt; (first | ((with_reducible refine Blk.keepG hb kn (fun h => ?_) ?_); (focus ((repeat' (first | (with_reducible assumption) | ((with_reducible refine Blk.new ?_); first | rfl | (simp; done)) | (with_reducible refine Blk.later (by assumption) ?_) | (with_reducible refine Blk.alloc ?_) | (with_reducible refine Blk.drewN ?_) | (with_reducible refine Blk.drew ?_) | (with_reducible refine Blk.other ?_ (by first | omega | (simp; done) | (simp; omega))))); done)); clear kn; intro kn) | (with_reducible replace kn := Blk.later hb (Blk.set (Blk.set kn))) | (with_reducible replace kn := Blk.later hb (Blk.set kn))); clear an bn; obtain ⟨an, bn⟩ := kn.read; have zl := kn.lt) | ((first | (with_reducible have kn := Blk.later hb (Blk.new rfl)) | (with_reducible have kn := Blk.later hb (Blk.drew (Blk.new rfl))) | (with_reducible have kn := Blk.later hb (Blk.drewN (Blk.new rfl)))); (try simp only [World.size_alloc, World.size_drew, World.heap_drewN] at kn); obtain ⟨an, bn⟩ := kn.read; have zl := kn.lt) | skip)))
        go_roundw
        case rel =>
          refine ⟨k + 1, hlt, by go_num, ?_, ?_, by (repeat' (first | (with_reducible exact Below.refl _ _) | (with_reducible assumption) | (with_reducible refine belowThru ?_ (by assumption)) | (with_reducible refine belowAlloc ?_) | (with_reducible refine Below.setCell ?_ (by first | omega | (simp; done) | (simp; omega)) _) | (with_reducible refine Below.drew ?_) | (with_reducible refine below_drewN ?_ _)))⟩
          · rw [e1.out, e2.out]
            exact k2
          · (repeat' (first | (with_reducible assumption) | ((with_reducible refine Blk.new ?_); first | rfl | (simp; done)) | (with_reducible refine Blk.later (by assumption) ?_) | (with_reducible refine Blk.alloc ?_) | (with_reducible refine Blk.drewN ?_) | (with_reducible refine Blk.drew ?_) | (with_reducible refine Blk.other ?_ (by first | omega | (simp; done) | (simp; omega)))))
        case measure => simp [intOf]; omega
    · have HL := HN.out
      have e : xs.take k = xs := List.take_of_length_le (by omega)
      rw [e] at k2 a2
      clear HL e
      go_wp2
      exact bodyPost_ret (v := .agg #[.int .i64 (fn (loQ m xs)), .int .i64 (fd (loQ m xs)), .int .i64 (fn (hiQ m xs)), .int .i64 (fd (hiQ m xs))]) (by simp only [results, Try.results93]; go_simp) rfl ⟨rfl, by (repeat' (first | (with_reducible exact Below.refl _ _) | (with_reducible assumption) | (with_reducible refine belowThru ?_ (by assumption)) | (with_reducible refine belowAlloc ?_) | (with_reducible refine Below.setCell ?_ (by first | omega | (simp; done) | (simp; omega)) _) | (with_reducible refine Below.drew ?_) | (with_reducible refine below_drewN ?_ _)))⟩
end Go.Proofs.Ytdimmnoflenfhaa
/-
  Layer 1: valid enclosures; what they contain; sums and products of their ends.
-/
namespace Go.Proofs.Ytdimmnoflenfhaa
open Go.RowKit

/-- An enclosure is valid. -/
def okS (a b c d : Int) : Prop := ∃ q r : Rat, fits q ∧ fits r ∧ a = fn q ∧ b = fd q ∧ c = fn r ∧ d = fd r ∧ q ≤ r
/-- 0, or the error of an enclosure that is not valid. -/
noncomputable def ckS (a b c d : Int) : Int := @ite _ (okS a b c d) (Classical.propDecidable _) 0 8
theorem ckS_ok {q r : Rat} (hq : fits q) (hr : fits r) (h : q ≤ r) : ckS (fn q) (fd q) (fn r) (fd r) = 0 := by
  unfold ckS; exact @if_pos _ (Classical.propDecidable _) ⟨q, r, hq, hr, rfl, rfl, rfl, rfl, h⟩ _ _ _
theorem ckS_no {a b c d : Int} (h : ¬ okS a b c d) : ckS a b c d = 8 := by
  unfold ckS; exact @if_neg _ (Classical.propDecidable _) h _ _ _
theorem ckS_cases (a b c d : Int) : (okS a b c d ∧ ckS a b c d = 0) ∨ (¬ okS a b c d ∧ ckS a b c d = 8) := by
  by_cases h : okS a b c d
  · obtain ⟨q, r, hq, hr, rfl, rfl, rfl, rfl, hl⟩ := id h
    exact .inl ⟨h, ckS_ok hq hr hl⟩
  · exact .inr ⟨h, ckS_no h⟩

set_option maxHeartbeats 1000000 in
theorem checkSpan_two (q r : Rat) (hq : fits q) (hr : fits r) (v : Int) (hv : Hid (v = if ordQ q r ≤ 0 then 0 else 8)) (w : World) :
    Calls Try.prog 46 #[.agg #[.int .i64 (fn q), .int .i64 (fd q), .int .i64 (fn r), .int .i64 (fd r)]] w fun e w' => e = .returned (.int .i64 v) ∧ Below w.heap.size w w' := by
  have HC := Lib.hid (order_q q r hq hr)
  have hd : (ck2 (fn q) (fd q) (fn r) (fd r) != 0) = false := by rw [ck2_ok hq hr]; rfl
  clear hq hr
  by_cases h : ordQ q r ≤ 0
  · have hv' := hv.out
    rw [if_pos h] at hv'
    subst hv'
    clear hv
    go_enter Try.func46, Try.ntmps46
    go_wp2_with (first
      | (go_at_call 80; (with_reducible refine (checkAll_two (fn q) (fd q) (fn r) (fd r) _ _ (by simp [go_sem]) (by simp [go_sem]) (by simp [go_sem]) (by simp [go_sem])).mono ?_); rintro e w1 ⟨rfl, hb⟩; obtain ⟨hc, hf⟩ := bcell hb; (try simp only [World.heap_drewN] at hc hf); (try simp only [heap_drew] at hc hf); have hz := hb.size; (try simp at hz); try (have hz0 : w.heap.size < w1.heap.size := by omega); try (have hz1 : w.heap.size + 1 < w1.heap.size := by omega); try (have hz2 : w.heap.size + 1 + 1 < w1.heap.size := by omega); try (have hz3 : w.heap.size + 1 + 1 + 1 < w1.heap.size := by omega); try (have hz4 : w.heap.size + 1 + 1 + 1 + 1 < w1.heap.size := by omega); try (have hz5 : w.heap.size + 1 + 1 + 1 + 1 + 1 < w1.heap.size := by omega))
      | (go_at_call 81; (with_reducible refine (HC.out _).mono ?_); rintro e w1 ⟨rfl, hb⟩; obtain ⟨hc, hf⟩ := bcell hb; (try simp only [World.heap_drewN] at hc hf); (try simp only [heap_drew] at hc hf); have hz := hb.size; (try simp at hz); try (have hz0 : w.heap.size < w1.heap.size := by omega); try (have hz1 : w.heap.size + 1 < w1.heap.size := by omega); try (have hz2 : w.heap.size + 1 + 1 < w1.heap.size := by omega); try (have hz3 : w.heap.size + 1 + 1 + 1 < w1.heap.size := by omega); try (have hz4 : w.heap.size + 1 + 1 + 1 + 1 < w1.heap.size := by omega); try (have hz5 : w.heap.size + 1 + 1 + 1 + 1 + 1 < w1.heap.size := by omega)))
    go_ret
    exact ⟨rfl, by (repeat' (first | (with_reducible exact Below.refl _ _) | (with_reducible assumption) | (with_reducible refine belowThru ?_ (by assumption)) | (with_reducible refine belowAlloc ?_) | (with_reducible refine Below.setCell ?_ (by first | omega | (simp; done) | (simp; omega)) _) | (with_reducible refine Below.drew ?_) | (with_reducible refine below_drewN ?_ _)))⟩
  · have hv' := hv.out
    rw [if_neg h] at hv'
    subst hv'
    clear hv
    go_enter Try.func46, Try.ntmps46
    go_wp2_with (first
      | (go_at_call 80; (with_reducible refine (checkAll_two (fn q) (fd q) (fn r) (fd r) _ _ (by simp [go_sem]) (by simp [go_sem]) (by simp [go_sem]) (by simp [go_sem])).mono ?_); rintro e w1 ⟨rfl, hb⟩; obtain ⟨hc, hf⟩ := bcell hb; (try simp only [World.heap_drewN] at hc hf); (try simp only [heap_drew] at hc hf); have hz := hb.size; (try simp at hz); try (have hz0 : w.heap.size < w1.heap.size := by omega); try (have hz1 : w.heap.size + 1 < w1.heap.size := by omega); try (have hz2 : w.heap.size + 1 + 1 < w1.heap.size := by omega); try (have hz3 : w.heap.size + 1 + 1 + 1 < w1.heap.size := by omega); try (have hz4 : w.heap.size + 1 + 1 + 1 + 1 < w1.heap.size := by omega); try (have hz5 : w.heap.size + 1 + 1 + 1 + 1 + 1 < w1.heap.size := by omega))
      | (go_at_call 81; (with_reducible refine (HC.out _).mono ?_); rintro e w1 ⟨rfl, hb⟩; obtain ⟨hc, hf⟩ := bcell hb; (try simp only [World.heap_drewN] at hc hf); (try simp only [heap_drew] at hc hf); have hz := hb.size; (try simp at hz); try (have hz0 : w.heap.size < w1.heap.size := by omega); try (have hz1 : w.heap.size + 1 < w1.heap.size := by omega); try (have hz2 : w.heap.size + 1 + 1 < w1.heap.size := by omega); try (have hz3 : w.heap.size + 1 + 1 + 1 < w1.heap.size := by omega); try (have hz4 : w.heap.size + 1 + 1 + 1 + 1 < w1.heap.size := by omega); try (have hz5 : w.heap.size + 1 + 1 + 1 + 1 + 1 < w1.heap.size := by omega)))
    go_ret
    exact ⟨rfl, by (repeat' (first | (with_reducible exact Below.refl _ _) | (with_reducible assumption) | (with_reducible refine belowThru ?_ (by assumption)) | (with_reducible refine belowAlloc ?_) | (with_reducible refine Below.setCell ?_ (by first | omega | (simp; done) | (simp; omega)) _) | (with_reducible refine Below.drew ?_) | (with_reducible refine below_drewN ?_ _)))⟩

set_option maxHeartbeats 1000000 in
theorem checkSpan_parts (a b c d : Int) (h : ¬ (okF a b ∧ okF c d)) (w : World) :
    Calls Try.prog 46 #[.agg #[.int .i64 a, .int .i64 b, .int .i64 c, .int .i64 d]] w fun e w' => e = .returned (.int .i64 8) ∧ Below w.heap.size w w' := by
  have he : ck2 a b c d = 8 := ck2_no h
  have HC : Hid (∀ B (w : World), w.cell? ⟨B, 0, none⟩ = some (.int .i64 a) → w.cell? ⟨B, 1, none⟩ = some (.int .i64 b) → w.cell? ⟨B, 2, none⟩ = some (.int .i64 c) → w.cell? ⟨B, 3, none⟩ = some (.int .i64 d) →
      Calls Try.prog 80 #[.slice (some ⟨B, 0, none⟩) 2 2] w fun e w' => e = .returned (.int .i64 8) ∧ Below w.heap.size w w') := by
    intro B w h0 h1 h2 h3; have := checkAll_two a b c d B w h0 h1 h2 h3; rw [he] at this; exact this
  clear he h
  go_enter Try.func46, Try.ntmps46
  go_wp2_with (go_at_call 80; (with_reducible refine (HC.out _ _ (by simp [go_sem]) (by simp [go_sem]) (by simp [go_sem]) (by simp [go_sem])).mono ?_); rintro e w1 ⟨rfl, hb⟩; obtain ⟨hc, hf⟩ := bcell hb; (try simp only [World.heap_drewN] at hc hf); (try simp only [heap_drew] at hc hf); have hz := hb.size; (try simp at hz); try (have hz0 : w.heap.size < w1.heap.size := by omega); try (have hz1 : w.heap.size + 1 < w1.heap.size := by omega); try (have hz2 : w.heap.size + 1 + 1 < w1.heap.size := by omega); try (have hz3 : w.heap.size + 1 + 1 + 1 < w1.heap.size := by omega); try (have hz4 : w.heap.size + 1 + 1 + 1 + 1 < w1.heap.size := by omega); try (have hz5 : w.heap.size + 1 + 1 + 1 + 1 + 1 < w1.heap.size := by omega))
  go_ret
  exact ⟨rfl, by (repeat' (first | (with_reducible exact Below.refl _ _) | (with_reducible assumption) | (with_reducible refine belowThru ?_ (by assumption)) | (with_reducible refine belowAlloc ?_) | (with_reducible refine Below.setCell ?_ (by first | omega | (simp; done) | (simp; omega)) _) | (with_reducible refine Below.drew ?_) | (with_reducible refine below_drewN ?_ _)))⟩

theorem checkSpan_any (a b c d : Int) (w : World) :
    Calls Try.prog 46 #[.agg #[.int .i64 a, .int .i64 b, .int .i64 c, .int .i64 d]] w fun e w' => e = .returned (.int .i64 (ckS a b c d)) ∧ Below w.heap.size w w' := by
  by_cases h : okF a b ∧ okF c d
  · obtain ⟨h1, h2⟩ := h
    obtain ⟨q, hq, rfl, rfl⟩ := (okF_iff _ _).1 h1
    obtain ⟨r, hr, rfl, rfl⟩ := (okF_iff _ _).1 h2
    refine checkSpan_two q r hq hr _ ?_ w
    show _ = _
    by_cases k : ordQ q r ≤ 0
    · rw [if_pos k]; exact ckS_ok hq hr (ordQ_le.1 k)
    · rw [if_neg k]
      refine ckS_no ?_
      rintro ⟨q', r', hq', hr', e1, e2, e3, e4, hl⟩
      rw [q_ext e1 e2, q_ext e3 e4] at k
      exact k (ordQ_le.2 hl)
  · rw [ckS_no ?_]
    · exact checkSpan_parts a b c d h w
    · rintro ⟨q, r, hq, hr, rfl, rfl, rfl, rfl, -⟩
      exact h ⟨okF_q hq, okF_q hr⟩

/-- How far a list of enclosures has been checked. -/
def Far2 (a b c d a' b' c' d' : Int) (i : Value) : Prop := i = .int .i64 0 ∨ (i = .int .i64 1 ∧ okS a b c d) ∨ (i = .int .i64 2 ∧ okS a b c d ∧ okS a' b' c' d')
noncomputable def ckS2 (a b c d a' b' c' d' : Int) : Int := if ckS a b c d = 0 then ckS a' b' c' d' else 8
theorem okS_ck {a b c d : Int} (h : okS a b c d) : ckS a b c d = 0 := by
  obtain ⟨q, r, hq, hr, rfl, rfl, rfl, rfl, hl⟩ := h; exact ckS_ok hq hr hl

set_option maxHeartbeats 2000000 in
theorem checkSpans_1 (a b c d : Int) (B : Nat) (w : World) (h0 : w.cell? ⟨B, 0, none⟩ = some (.int .i64 a)) (h1 : w.cell? ⟨B, 1, none⟩ = some (.int .i64 b)) (h2 : w.cell? ⟨B, 2, none⟩ = some (.int .i64 c)) (h3 : w.cell? ⟨B, 3, none⟩ = some (.int .i64 d)) :
    Calls Try.prog 86 #[.slice (some ⟨B, 0, none⟩) 1 1] w fun e w' => e = .returned (.int .i64 (ckS a b c d)) ∧ Below w.heap.size w w' := by
  have HB : B < w.heap.size := World.block_lt_of_cell? w ⟨B, 0, none⟩ h0
  go_enter Try.func86, Try.ntmps86
  go_wp2
  go_loopw [8] (fun i wr => (i = .int .i64 0 ∨ (i = .int .i64 1 ∧ okS a b c d)) ∧ Below w.heap.size w wr) (fun i _ => (1 - intOf i).toNat)
  case atStart => exact ⟨Or.inl rfl, Below.refl _ _⟩
  case round =>
    obtain ⟨hi, hb0⟩ := hrel
    have g0 := cell_later (hb0.mono (Nat.le_refl _)) h0
    have g1 := cell_later (hb0.mono (Nat.le_refl _)) h1
    have g2 := cell_later (hb0.mono (Nat.le_refl _)) h2
    have g3 := cell_later (hb0.mono (Nat.le_refl _)) h3
    have hz := hb0.size
    clear h0 h1 h2 h3
    rcases hi with rfl | ⟨rfl, ha⟩
    · rcases ckS_cases a b c d with ⟨ho, e⟩ | ⟨ho, e⟩
      · have hd : (ckS a b c d != 0) = false := by rw [e]; rfl
        clear e
        go_wp2_with (go_at_call 46; (with_reducible refine (checkSpan_any a b c d _).mono ?_); rintro e w1 ⟨rfl, hb⟩)
        go_roundw
        case rel => exact ⟨Or.inr ⟨rfl, ho⟩, by (repeat' (first | (with_reducible exact Below.refl _ _) | (with_reducible assumption) | (with_reducible refine belowThru ?_ (by assumption)) | (with_reducible refine belowAlloc ?_) | (with_reducible refine Below.setCell ?_ (by first | omega | (simp; done) | (simp; omega)) _) | (with_reducible refine Below.drew ?_) | (with_reducible refine below_drewN ?_ _)))⟩
        case measure => simp [intOf]
      · have hd : (ckS a b c d != 0) = true := by rw [e]; rfl
        clear e
        go_wp2_with (go_at_call 46; (with_reducible refine (checkSpan_any a b c d _).mono ?_); rintro e w1 ⟨rfl, hb⟩)
        go_ret
        exact ⟨rfl, by (repeat' (first | (with_reducible exact Below.refl _ _) | (with_reducible assumption) | (with_reducible refine belowThru ?_ (by assumption)) | (with_reducible refine belowAlloc ?_) | (with_reducible refine Below.setCell ?_ (by first | omega | (simp; done) | (simp; omega)) _) | (with_reducible refine Below.drew ?_) | (with_reducible refine below_drewN ?_ _)))⟩
    · have he : Hid (0 = ckS a b c d) := by show _ = _; exact (okS_ck ha).symm
      go_wp2
      go_ret
      rw [← he.out]
      exact ⟨rfl, hb0⟩

set_option maxHeartbeats 2000000 in
theorem checkSpans_2 (a b c d a' b' c' d' : Int) (B : Nat) (w : World) (h0 : w.cell? ⟨B, 0, none⟩ = some (.int .i64 a)) (h1 : w.cell? ⟨B, 1, none⟩ = some (.int .i64 b)) (h2 : w.cell? ⟨B, 2, none⟩ = some (.int .i64 c)) (h3 : w.cell? ⟨B, 3, none⟩ = some (.int .i64 d)) (h4 : w.cell? ⟨B, 4, none⟩ = some (.int .i64 a')) (h5 : w.cell? ⟨B, 5, none⟩ = some (.int .i64 b')) (h6 : w.cell? ⟨B, 6, none⟩ = some (.int .i64 c')) (h7 : w.cell? ⟨B, 7, none⟩ = some (.int .i64 d')) :
    Calls Try.prog 86 #[.slice (some ⟨B, 0, none⟩) 2 2] w fun e w' => e = .returned (.int .i64 (ckS2 a b c d a' b' c' d')) ∧ Below w.heap.size w w' := by
  have HB : B < w.heap.size := World.block_lt_of_cell? w ⟨B, 0, none⟩ h0
  go_enter Try.func86, Try.ntmps86
  go_wp2
  go_loopw [8] (fun i wr => Far2 a b c d a' b' c' d' i ∧ Below w.heap.size w wr) (fun i _ => (2 - intOf i).toNat)
  case atStart => exact ⟨Or.inl rfl, Below.refl _ _⟩
  case round =>
    obtain ⟨hi, hb0⟩ := hrel
    have g0 := cell_later (hb0.mono (Nat.le_refl _)) h0
    have g1 := cell_later (hb0.mono (Nat.le_refl _)) h1
    have g2 := cell_later (hb0.mono (Nat.le_refl _)) h2
    have g3 := cell_later (hb0.mono (Nat.le_refl _)) h3
    have g4 := cell_later (hb0.mono (Nat.le_refl _)) h4
    have g5 := cell_later (hb0.mono (Nat.le_refl _)) h5
    have g6 := cell_later (hb0.mono (Nat.le_refl _)) h6
    have g7 := cell_later (hb0.mono (Nat.le_refl _)) h7
    have hz := hb0.size
    clear h0 h1 h2 h3 h4 h5 h6 h7
    rcases hi with rfl | ⟨rfl, ha⟩ | ⟨rfl, ha, hc⟩
    · rcases ckS_cases a b c d with ⟨ho, e⟩ | ⟨ho, e⟩
      · have hd : (ckS a b c d != 0) = false := by rw [e]; rfl
        clear e
        go_wp2_with (go_at_call 46; (with_reducible refine (checkSpan_any a b c d _).mono ?_); rintro e w1 ⟨rfl, hb⟩)
        go_roundw
        case rel => exact ⟨Or.inr (Or.inl ⟨rfl, ho⟩), by (repeat' (first | (with_reducible exact Below.refl _ _) | (with_reducible assumption) | (with_reducible refine belowThru ?_ (by assumption)) | (with_reducible refine belowAlloc ?_) | (with_reducible refine Below.setCell ?_ (by first | omega | (simp; done) | (simp; omega)) _) | (with_reducible refine Below.drew ?_) | (with_reducible refine below_drewN ?_ _)))⟩
        case measure => simp [intOf]
      · have hd : (ckS a b c d != 0) = true := by rw [e]; rfl
        have he : Hid (ckS a b c d = ckS2 a b c d a' b' c' d') := by show _ = _; rw [e]; exact (if_neg (by rw [e]; decide)).symm
        clear e
        go_wp2_with (go_at_call 46; (with_reducible refine (checkSpan_any a b c d _).mono ?_); rintro e w1 ⟨rfl, hb⟩)
        go_ret
        rw [← he.out]
        exact ⟨rfl, by (repeat' (first | (with_reducible exact Below.refl _ _) | (with_reducible assumption) | (with_reducible refine belowThru ?_ (by assumption)) | (with_reducible refine belowAlloc ?_) | (with_reducible refine Below.setCell ?_ (by first | omega | (simp; done) | (simp; omega)) _) | (with_reducible refine Below.drew ?_) | (with_reducible refine below_drewN ?_ _)))⟩
    · rcases ckS_cases a' b' c' d' with ⟨ho, e⟩ | ⟨ho, e⟩
      · have hd : (ckS a' b' c' d' != 0) = false := by rw [e]; rfl
        clear e
        go_wp2_with (go_at_call 46; (with_reducible refine (checkSpan_any a' b' c' d' _).mono ?_); rintro e w1 ⟨rfl, hb⟩)
        go_roundw
        case rel => exact ⟨Or.inr (Or.inr ⟨rfl, ha, ho⟩), by (repeat' (first | (with_reducible exact Below.refl _ _) | (with_reducible assumption) | (with_reducible refine belowThru ?_ (by assumption)) | (with_reducible refine belowAlloc ?_) | (with_reducible refine Below.setCell ?_ (by first | omega | (simp; done) | (simp; omega)) _) | (with_reducible refine Below.drew ?_) | (with_reducible refine below_drewN ?_ _)))⟩
        case measure => simp [intOf]
      · have hd : (ckS a' b' c' d' != 0) = true := by rw [e]; rfl
        have he : Hid (ckS a' b' c' d' = ckS2 a b c d a' b' c' d') := by show _ = _; exact (if_pos (okS_ck ha)).symm
        clear e
        go_wp2_with (go_at_call 46; (with_reducible refine (checkSpan_any a' b' c' d' _).mono ?_); rintro e w1 ⟨rfl, hb⟩)
        go_ret
        rw [← he.out]
        exact ⟨rfl, by (repeat' (first | (with_reducible exact Below.refl _ _) | (with_reducible assumption) | (with_reducible refine belowThru ?_ (by assumption)) | (with_reducible refine belowAlloc ?_) | (with_reducible refine Below.setCell ?_ (by first | omega | (simp; done) | (simp; omega)) _) | (with_reducible refine Below.drew ?_) | (with_reducible refine below_drewN ?_ _)))⟩
    · have he : Hid (0 = ckS2 a b c d a' b' c' d') := by show _ = _; exact ((if_pos (okS_ck ha)).trans (okS_ck hc)).symm
      go_wp2
      go_ret
      rw [← he.out]
      exact ⟨rfl, hb0⟩

/-- Whether an enclosure contains a number. -/
def hasQ (l h x : Rat) : Bool := decide (l ≤ x) && decide (x ≤ h)
set_option maxHeartbeats 1000000 in
theorem contains_q (l h x : Rat) (hl : fits l) (hh : fits h) (hx : fits x) (w : World) :
    Calls Try.prog 108 #[.agg #[.int .i64 (fn l), .int .i64 (fd l), .int .i64 (fn h), .int .i64 (fd h)], .agg #[.int .i64 (fn x), .int .i64 (fd x)]] w fun e w' => e = .returned (.bool (hasQ l h x)) ∧ Below w.heap.size w w' := by
  have H1 := Lib.hid (order_q l x hl hx)
  have H2 := Lib.hid (order_q x h hx hh)
  clear hl hh hx
  by_cases h1 : ordQ l x ≤ 0
  · by_cases h2 : ordQ x h ≤ 0
    · have hv : hasQ l h x = true := by unfold hasQ; rw [decide_eq_true (ordQ_le.1 h1), decide_eq_true (ordQ_le.1 h2)]; rfl
      rw [hv]; clear hv
      have d1 : decide (ordQ l x ≤ 0) = true := decide_eq_true h1
      have d2 : decide (ordQ x h ≤ 0) = true := decide_eq_true h2
      go_enter Try.func108, Try.ntmps108
      go_wp2_with (first
        | (go_at_call 81; (with_reducible refine (H1.out _).mono ?_); rintro e w1 ⟨rfl, hb⟩; (first | ((with_reducible have k0 := Blk.later hb (Blk.alloc (Blk.new rfl))); (with_reducible have k1 := Blk.later hb (Blk.new rfl)); simp only [World.size_alloc] at k1; obtain ⟨a0, b0⟩ := k0.read; have zl := k0.lt; obtain ⟨a1, b1⟩ := k1.read; have zl := k1.lt) | ((try (have zk := k0.lt; (first | ((with_reducible refine Blk.keepG hb k0 (fun h => ?_) ?_); (focus ((repeat' (first | (with_reducible assumption) | ((with_reducible refine Blk.new ?_); first | rfl | (simp; done)) | (with_reducible refine Blk.later (by assumption) ?_) | (with_reducible refine Blk.alloc ?_) | (with_reducible refine Blk.drewN ?_) | (with_reducible refine Blk.drew ?_) | (with_reducible refine Blk.other ?_ (by first | omega | (simp; done) | (simp; omega))))); done)); clear k0; intro k0) | (with_reducible replace k0 := Blk.later hb (Blk.set (Blk.set k0))) | (with_reducible replace k0 := Blk.later hb (Blk.set k0))); clear a0 b0; obtain ⟨a0, b0⟩ := k0.read; have zl := k0.lt)); (try (have zk := k1.lt; (first | ((with_reducible refine Blk.keepG hb k1 (fun h => ?_) ?_); (focus ((repeat' (first | (with_reducible assumption) | ((with_reducible refine Blk.new ?_); first | rfl | (simp; done)) | (with_reducible refine Blk.later (by assumption) ?_) | (with_reducible refine Blk.alloc ?_) | (with_reducible refine Blk.drewN ?_) | (with_reducible refine Blk.drew ?_) | (with_reducible refine Blk.other ?_ (by first | omega | (simp; done) | (simp; omega))))); done)); clear k1; intro k1) | (with_reducible replace k1 := Blk.later hb (Blk.set (Blk.set k1))) | (with_reducible replace k1 := Blk.later hb (Blk.set k1))); clear a1 b1; obtain ⟨a1, b1⟩ := k1.read; have zl := k1.lt)))))
        | (go_at_call 81; (with_reducible refine (H2.out _).mono ?_); rintro e w1 ⟨rfl, hb⟩; (first | ((with_reducible have k0 := Blk.later hb (Blk.alloc (Blk.new rfl))); (with_reducible have k1 := Blk.later hb (Blk.new rfl)); simp only [World.size_alloc] at k1; obtain ⟨a0, b0⟩ := k0.read; have zl := k0.lt; obtain ⟨a1, b1⟩ := k1.read; have zl := k1.lt) | ((try (have zk := k0.lt; (first | ((with_reducible refine Blk.keepG hb k0 (fun h => ?_) ?_); (focus ((repeat' (first | (with_reducible assumption) | ((with_reducible refine Blk.new ?_); first | rfl | (simp; done)) | (with_reducible refine Blk.later (by assumption) ?_) | (with_reducible refine Blk.alloc ?_) | (with_reducible refine Blk.drewN ?_) | (with_reducible refine Blk.drew ?_) | (with_reducible refine Blk.other ?_ (by first | omega | (simp; done) | (simp; omega))))); done)); clear k0; intro k0) | (with_reducible replace k0 := Blk.later hb (Blk.set (Blk.set k0))) | (with_reducible replace k0 := Blk.later hb (Blk.set k0))); clear a0 b0; obtain ⟨a0, b0⟩ := k0.read; have zl := k0.lt)); (try (have zk := k1.lt; (first | ((with_reducible refine Blk.keepG hb k1 (fun h => ?_) ?_); (focus ((repeat' (first | (with_reducible assumption) | ((with_reducible refine Blk.new ?_); first | rfl | (simp; done)) | (with_reducible refine Blk.later (by assumption) ?_) | (with_reducible refine Blk.alloc ?_) | (with_reducible refine Blk.drewN ?_) | (with_reducible refine Blk.drew ?_) | (with_reducible refine Blk.other ?_ (by first | omega | (simp; done) | (simp; omega))))); done)); clear k1; intro k1) | (with_reducible replace k1 := Blk.later hb (Blk.set (Blk.set k1))) | (with_reducible replace k1 := Blk.later hb (Blk.set k1))); clear a1 b1; obtain ⟨a1, b1⟩ := k1.read; have zl := k1.lt))))))
      go_ret
      exact ⟨rfl, by (repeat' (first | (with_reducible exact Below.refl _ _) | (with_reducible assumption) | (with_reducible refine belowThru ?_ (by assumption)) | (with_reducible refine belowAlloc ?_) | (with_reducible refine Below.setCell ?_ (by first | omega | (simp; done) | (simp; omega)) _) | (with_reducible refine Below.drew ?_) | (with_reducible refine below_drewN ?_ _)))⟩
    · have hv : hasQ l h x = false := by unfold hasQ; rw [decide_eq_true (ordQ_le.1 h1), decide_eq_false (fun k => h2 (ordQ_le.2 k))]; rfl
      rw [hv]; clear hv
      have d1 : decide (ordQ l x ≤ 0) = true := decide_eq_true h1
      have d2 : decide (ordQ x h ≤ 0) = false := decide_eq_false h2
      go_enter Try.func108, Try.ntmps108
      go_wp2_with (first
        | (go_at_call 81; (with_reducible refine (H1.out _).mono ?_); rintro e w1 ⟨rfl, hb⟩; (first | ((with_reducible have k0 := Blk.later hb (Blk.alloc (Blk.new rfl))); (with_reducible have k1 := Blk.later hb (Blk.new rfl)); simp only [World.size_alloc] at k1; obtain ⟨a0, b0⟩ := k0.read; have zl := k0.lt; obtain ⟨a1, b1⟩ := k1.read; have zl := k1.lt) | ((try (have zk := k0.lt; (first | ((with_reducible refine Blk.keepG hb k0 (fun h => ?_) ?_); (focus ((repeat' (first | (with_reducible assumption) | ((with_reducible refine Blk.new ?_); first | rfl | (simp; done)) | (with_reducible refine Blk.later (by assumption) ?_) | (with_reducible refine Blk.alloc ?_) | (with_reducible refine Blk.drewN ?_) | (with_reducible refine Blk.drew ?_) | (with_reducible refine Blk.other ?_ (by first | omega | (simp; done) | (simp; omega))))); done)); clear k0; intro k0) | (with_reducible replace k0 := Blk.later hb (Blk.set (Blk.set k0))) | (with_reducible replace k0 := Blk.later hb (Blk.set k0))); clear a0 b0; obtain ⟨a0, b0⟩ := k0.read; have zl := k0.lt)); (try (have zk := k1.lt; (first | ((with_reducible refine Blk.keepG hb k1 (fun h => ?_) ?_); (focus ((repeat' (first | (with_reducible assumption) | ((with_reducible refine Blk.new ?_); first | rfl | (simp; done)) | (with_reducible refine Blk.later (by assumption) ?_) | (with_reducible refine Blk.alloc ?_) | (with_reducible refine Blk.drewN ?_) | (with_reducible refine Blk.drew ?_) | (with_reducible refine Blk.other ?_ (by first | omega | (simp; done) | (simp; omega))))); done)); clear k1; intro k1) | (with_reducible replace k1 := Blk.later hb (Blk.set (Blk.set k1))) | (with_reducible replace k1 := Blk.later hb (Blk.set k1))); clear a1 b1; obtain ⟨a1, b1⟩ := k1.read; have zl := k1.lt)))))
        | (go_at_call 81; (with_reducible refine (H2.out _).mono ?_); rintro e w1 ⟨rfl, hb⟩; (first | ((with_reducible have k0 := Blk.later hb (Blk.alloc (Blk.new rfl))); (with_reducible have k1 := Blk.later hb (Blk.new rfl)); simp only [World.size_alloc] at k1; obtain ⟨a0, b0⟩ := k0.read; have zl := k0.lt; obtain ⟨a1, b1⟩ := k1.read; have zl := k1.lt) | ((try (have zk := k0.lt; (first | ((with_reducible refine Blk.keepG hb k0 (fun h => ?_) ?_); (focus ((repeat' (first | (with_reducible assumption) | ((with_reducible refine Blk.new ?_); first | rfl | (simp; done)) | (with_reducible refine Blk.later (by assumption) ?_) | (with_reducible refine Blk.alloc ?_) | (with_reducible refine Blk.drewN ?_) | (with_reducible refine Blk.drew ?_) | (with_reducible refine Blk.other ?_ (by first | omega | (simp; done) | (simp; omega))))); done)); clear k0; intro k0) | (with_reducible replace k0 := Blk.later hb (Blk.set (Blk.set k0))) | (with_reducible replace k0 := Blk.later hb (Blk.set k0))); clear a0 b0; obtain ⟨a0, b0⟩ := k0.read; have zl := k0.lt)); (try (have zk := k1.lt; (first | ((with_reducible refine Blk.keepG hb k1 (fun h => ?_) ?_); (focus ((repeat' (first | (with_reducible assumption) | ((with_reducible refine Blk.new ?_); first | rfl | (simp; done)) | (with_reducible refine Blk.later (by assumption) ?_) | (with_reducible refine Blk.alloc ?_) | (with_reducible refine Blk.drewN ?_) | (with_reducible refine Blk.drew ?_) | (with_reducible refine Blk.other ?_ (by first | omega | (simp; done) | (simp; omega))))); done)); clear k1; intro k1) | (with_reducible replace k1 := Blk.later hb (Blk.set (Blk.set k1))) | (with_reducible replace k1 := Blk.later hb (Blk.set k1))); clear a1 b1; obtain ⟨a1, b1⟩ := k1.read; have zl := k1.lt))))))
      go_ret
      exact ⟨rfl, by (repeat' (first | (with_reducible exact Below.refl _ _) | (with_reducible assumption) | (with_reducible refine belowThru ?_ (by assumption)) | (with_reducible refine belowAlloc ?_) | (with_reducible refine Below.setCell ?_ (by first | omega | (simp; done) | (simp; omega)) _) | (with_reducible refine Below.drew ?_) | (with_reducible refine below_drewN ?_ _)))⟩
  · have hv : hasQ l h x = false := by unfold hasQ; rw [decide_eq_false (fun k => h1 (ordQ_le.2 k))]; rfl
    rw [hv]; clear hv
    have d1 : decide (ordQ l x ≤ 0) = false := decide_eq_false h1
    go_enter Try.func108, Try.ntmps108
    go_wp2_with (go_at_call 81; (with_reducible refine (H1.out _).mono ?_); rintro e w1 ⟨rfl, hb⟩; (first | ((with_reducible have k0 := Blk.later hb (Blk.alloc (Blk.new rfl))); (with_reducible have k1 := Blk.later hb (Blk.new rfl)); simp only [World.size_alloc] at k1; obtain ⟨a0, b0⟩ := k0.read; have zl := k0.lt; obtain ⟨a1, b1⟩ := k1.read; have zl := k1.lt) | ((try (have zk := k0.lt; (first | ((with_reducible refine Blk.keepG hb k0 (fun h => ?_) ?_); (focus ((repeat' (first | (with_reducible assumption) | ((with_reducible refine Blk.new ?_); first | rfl | (simp; done)) | (with_reducible refine Blk.later (by assumption) ?_) | (with_reducible refine Blk.alloc ?_) | (with_reducible refine Blk.drewN ?_) | (with_reducible refine Blk.drew ?_) | (with_reducible refine Blk.other ?_ (by first | omega | (simp; done) | (simp; omega))))); done)); clear k0; intro k0) | (with_reducible replace k0 := Blk.later hb (Blk.set (Blk.set k0))) | (with_reducible replace k0 := Blk.later hb (Blk.set k0))); clear a0 b0; obtain ⟨a0, b0⟩ := k0.read; have zl := k0.lt)); (try (have zk := k1.lt; (first | ((with_reducible refine Blk.keepG hb k1 (fun h => ?_) ?_); (focus ((repeat' (first | (with_reducible assumption) | ((with_reducible refine Blk.new ?_); first | rfl | (simp; done)) | (with_reducible refine Blk.later (by assumption) ?_) | (with_reducible refine Blk.alloc ?_) | (with_reducible refine Blk.drewN ?_) | (with_reducible refine Blk.drew ?_) | (with_reducible refine Blk.other ?_ (by first | omega | (simp; done) | (simp; omega))))); done)); clear k1; intro k1) | (with_reducible replace k1 := Blk.later hb (Blk.set (Blk.set k1))) | (with_reducible replace k1 := Blk.later hb (Blk.set k1))); clear a1 b1; obtain ⟨a1, b1⟩ := k1.read; have zl := k1.lt)))))
    go_ret
    exact ⟨rfl, by (repeat' (first | (with_reducible exact Below.refl _ _) | (with_reducible assumption) | (with_reducible refine belowThru ?_ (by assumption)) | (with_reducible refine belowAlloc ?_) | (with_reducible refine Below.setCell ?_ (by first | omega | (simp; done) | (simp; omega)) _) | (with_reducible refine Below.drew ?_) | (with_reducible refine below_drewN ?_ _)))⟩
end Go.Proofs.Ytdimmnoflenfhaa
