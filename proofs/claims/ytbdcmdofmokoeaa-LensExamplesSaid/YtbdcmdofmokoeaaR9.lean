/-
  The texts that the laws of this seat share, merged: part 9.
-/
import Derived.BigQuiet
import Derived.Deep.CutBlock
import Derived.Deep.CutRange
import Derived.Deep.DeepCutAuto
import Derived.Deep.Draws
import Derived.Deep.LoopGhost
import Derived.Deep.QuietTactic
import Derived.Deep.RegionHeld3
import Derived.Deep.RegionLaw
import Derived.IntWalk
import Derived.Laws.AppendOwn
import Derived.Laws.Bits64b
import Derived.Laws.BitsAll
import Derived.Laws.BitsAllLaws
import Derived.Lib.Hide
import Derived.Lib.ItoaNum
import Derived.LoopIn
import Derived.LoopNIn
import Derived.LoopTactic
import Derived.Maps.AppendAt
import Derived.OneCell
import Derived.Orders
import Derived.OwnWalkIn
import Derived.RangeFuncBound
import Derived.RangeFuncCalls
import Derived.RangeFuncLeaves
import Derived.RangeFuncNested
import Derived.Shelf.Abstract
import Derived.Shelf.AbstractIn
import Derived.Shelf.Bits.Mul64
import Derived.Shelf.RegionOpen
import Derived.Shelf.Small.Bits
import Derived.Shelf.Spec.BitsCarry
import Derived.Shelf.Strconv.Itoa0
import Derived.StillTailTactics
import Derived.TacticsInMore
import Derived.Test.YtbdcmdofmokoeaaProg
import Derived.WalkKit
import Derived.WalkLawsBesides
import Derived.WalkSmall
import Derived.WalkSpells
import Derived.Test.YtbdcmdofmokoeaaR2
import Derived.Test.YtbdcmdofmokoeaaR3
import Derived.Test.YtbdcmdofmokoeaaR4
import Derived.Test.YtbdcmdofmokoeaaR5
import Derived.Test.YtbdcmdofmokoeaaR6
import Derived.Test.YtbdcmdofmokoeaaR8
/-
  Layer 4: a table with its sides exchanged, by the code and by the document; a copy of a table.
-/
namespace Go.Proofs.Ytbdcmdofmokoeaa
open Go.RowKit
set_option linter.unusedVariables false
set_option linter.unusedSimpArgs false

/-- A table's cells. -/
def kv (ks : List (Int × Int)) : List Value := ks.flatMap fun p => [.int .i64 p.1, .int .i64 p.2]
theorem kv_snoc (ks : List (Int × Int)) (p : Int × Int) : kv (ks ++ [p]) = kv ks ++ [.int .i64 p.1, .int .i64 p.2] := by
  unfold kv; rw [List.flatMap_append]; rfl
theorem kv_get (ks : List (Int × Int)) (j : Nat) (h : j < ks.length) : (kv ks)[j * 2]? = some (.int .i64 (at1 ks j)) ∧ (kv ks)[j * 2 + 1]? = some (.int .i64 (to1 ks j)) := by
  induction ks generalizing j with
  | nil => cases h
  | cons p ks ih =>
    have e : kv (p :: ks) = .int .i64 p.1 :: .int .i64 p.2 :: kv ks := rfl
    rw [e]
    cases j with
    | zero => exact ⟨rfl, rfl⟩
    | succ j =>
      have h' := ih j (by simpa using h)
      rw [show (j + 1) * 2 = j * 2 + 1 + 1 by omega]
      exact ⟨by simpa [at1] using h'.1, by simpa [to1] using h'.2⟩
theorem add_plus (b off i : Nat) : (⟨b, off, none⟩ : Addr).add i = ⟨b, off + i, none⟩ := by
  unfold Addr.add; split <;> simp_all
theorem cell_two_new (w : World) (x y : Value) (t : TypeId) : ∀ j u, [x, y][j]? = some u → (w.alloc (.cells #[x, y] t)).cell? ((⟨w.heap.size, 0, none⟩ : Addr).add j) = some u := by
  intro j u hj
  rw [add_plus]
  have hk : Blk (w.alloc (.cells #[x, y] t)) w.heap.size #[x, y] t := Blk.new rfl
  rw [hk.cells, Nat.zero_add]
  simpa using hj
theorem info_knot : (Try.prog.info? 98).map (fun i => (i.zero, i.size, i.bytes)) = some (some (.agg #[.int .i64 0, .int .i64 0]), 2, 16) := by kernel_rfl
/-- A table's slice out of the cells that a slice owns. -/
theorem ownsRow_krow {w : World} {base : Nat} {v : Value} {ks : List (Int × Int)} (h : w.ownsRow base 98 2 v ks.length (kv ks)) : ∃ a c, v = .slice a ks.length c ∧ KRow w a ks.length ks := by
  rcases h.2 with ⟨rfl, h0⟩ | ⟨g, cap, cur, rfl, hb, hh, hnc, _, hcs, ht⟩
  · exact ⟨none, 0, by rw [h0], ⟨rfl, fun hn => absurd hn (by omega)⟩⟩
  · refine ⟨_, _, rfl, ⟨rfl, fun hn => ⟨g, 0, rfl, lt_of_block hh, fun j hj => ?_⟩⟩⟩
    have hk := kv_get ks j hj
    rw [← ht, List.getElem?_take_of_lt (by omega), List.getElem?_take_of_lt (by omega), Array.getElem?_toList, Array.getElem?_toList] at hk
    exact ⟨by simpa [World.cell?, hh, at1] using hk.1, by simpa [World.cell?, hh, to1] using hk.2⟩
def swp (p : Int × Int) : Int × Int := (p.2, p.1)
/-- A new slice that reads as a table. -/
def RetK (ks : List (Int × Int)) (w : World) (e : Ending) (w' : World) : Prop := ∃ (v : Option Addr) (d : Nat), e = .returned (.slice v ks.length d) ∧ KRow w' v ks.length ks ∧ Below w.heap.size w w'
theorem below_grow2 {w wr W w3 : World} {v : Value} {n : Nat} {xs : List Value} (hB : Below w.heap.size w wr) (hown : wr.ownsRow w.heap.size 98 2 v n xs) (hW : Below w.heap.size w W) (hz : wr.heap.size ≤ W.heap.size) (hg : W.grownBy w3 v.ownBlock) : Below w.heap.size w w3 :=
  hW.grown hg (by have := hB.size; omega) (fun k hk => (hown.lt k hk).1)
theorem own_snoc2 {w : World} {base : Nat} {v : Value} {zs ys : List (Int × Int)} {p : Int × Int} {n : Nat} (h : w.ownsRow base 98 2 v (n + 1) (kv zs ++ [.int .i64 p.1, .int .i64 p.2])) (e : ys = zs ++ [p]) : w.ownsRow base 98 2 v (n + 1) (kv ys) := by
  subst e; rw [kv_snoc]; exact h
set_option maxRecDepth 100000 in
set_option maxHeartbeats 4000000 in
theorem exchanged_any (a : Option Addr) (n c : Nat) (ks : List (Int × Int)) (hn : n ≤ 1000) (w : World) (hR : KRow w a n ks) :
    Calls Try.prog 74 #[.slice a n c] w (RetK (ks.map swp) w) := by
  have hl : ks.length = n := hR.1
  have HL := Lib.hid hl; have HR := Lib.hid hR
  clear hl hR
  obtain ⟨i0, hi, hz0, hz1, hz2⟩ := info_parts info_knot
  have p9 : (n : Int) ≤ 1000 := by omega
  go_enter Try.func74, Try.ntmps74
  go_wp2
  go_loopw [3, 5, 8] (fun v _ i wr => ∃ k : Nat, k ≤ n ∧ i = .int .i64 k ∧ wr.ownsRow w.heap.size 98 2 v k (kv ((ks.take k).map swp)) ∧ Below w.heap.size w wr) (fun _ _ i _ => n - (intOf i).toNat)
  case atStart => exact ⟨0, Nat.zero_le _, rfl, World.ownsRow_nil _ _ _ _, by (repeat' (first | (with_reducible exact Below.refl _ _) | (with_reducible assumption) | (with_reducible refine belowThru ?_ (by assumption)) | (with_reducible refine belowAlloc ?_) | (with_reducible refine Below.setCell ?_ (by first | omega | (simp; done) | (simp; omega)) _) | (with_reducible refine Below.drew ?_) | (with_reducible refine below_drewN ?_ _)))⟩
  case round =>
    obtain ⟨k, hk, rfl, hown, hB⟩ := hrel
    by_cases hlt : k < n
    · obtain ⟨bb, oo, x, y, rfl, l1, h1, c1, d1⟩ := HR.out.at hlt
      have c1 := cell_later hB c1
      have d1 := cell_later hB d1
      have HN : Hid ((ks.take (k + 1)).map swp = (ks.take k).map swp ++ [(y, x)]) := by show _ = _; rw [List.take_add_one, h1]; simp [swp]
      have q0 : (0 : Int) ≤ (k : Int) := by omega
      have q1 : (k : Int) < (n : Int) := by omega
      have hzB := hB.size
      clear h1
      go_wp2_with (at_builtin; refine wpList_append_own _ rfl _ _ 27 rfl w.heap.size 98 i0 (.agg #[.int .i64 0, .int .i64 0]) 2 16 Try.underlying27 hi hz0 hz1 hz2 rfl (by decide) _ _ _ rfl ((hown.alloc _).alloc _) ⟨wr.heap.size + 1, 0, none⟩ 1 1 [.int .i64 y, .int .i64 x] rfl rfl (by have h := cell_two_new (wr.alloc (.cells #[.int .i64 x, .int .i64 y] 98)) (.int .i64 y) (.int .i64 x) 98; rw [World.size_alloc] at h; exact h) (fun u hu => by simp at hu; rcases hu with rfl | rfl <;> rfl) (by unfold maxLen; omega) (by omega) (by simp; omega) ?_; intro v' w3 hown' hgrow3 hnil3)
      have hB' := below_grow2 hB hown (belowAlloc (belowAlloc hB)) (by simp; omega) hgrow3
      have HO := Lib.hid (own_snoc2 (p := (y, x)) hown' HN.out)
      clear hown' hgrow3 hnil3 hown
      go_roundw
      case rel => exact ⟨k + 1, hlt, by go_num, HO.out, hB'⟩
      case measure => simp [intOf]; omega
    · obtain rfl : k = n := by omega
      have e1 : (ks.map swp).length = k := by rw [List.length_map, HL.out]
      rw [List.take_of_length_le (by rw [HL.out]; exact Nat.le_refl _)] at hown
      obtain ⟨v', d', rfl, hr⟩ := ownsRow_krow (by rw [e1]; exact hown)
      have HQ := Lib.hid hr
      have HE := Lib.hid e1
      clear hr hown e1
      rw [HE.out]
      go_wp2
      go_ret
      exact ⟨v', d', by rw [HE.out]; rfl, HQ.out, hB⟩
end Go.Proofs.Ytbdcmdofmokoeaa
/-
  Layer 4: corrected and distorted places, corrected spans: all answers, by the code and by the document.
-/
namespace Go.Proofs.Ytbdcmdofmokoeaa
open Go.RowKit
set_option linter.unusedVariables false
set_option linter.unusedSimpArgs false

set_option maxHeartbeats 1000000 in
theorem cor_t (a : Option Addr) (n c : Nat) (ks : List (Int × Int)) (X D : Int) (w : World) (HR : Hid (KRow w a n ks))
    (H1 : Hid (∀ w, KRow w a n ks → Calls Try.prog 28 #[.slice a n c] w fun e w' => e = .returned (.int .i64 40) ∧ Below w.heap.size w w')) :
    Calls Try.prog 15 #[.slice a n c, .agg #[.int .i64 X, .int .i64 D]] w fun e w' => e = .returned (.tuple #[.agg #[.int .i64 0, .int .i64 0], .int .i64 40]) ∧ Below w.heap.size w w' := by
  go_enter Try.func15, Try.ntmps15
  go_wp2_with (first
    | (go_at_call 28; (with_reducible refine (H1.out _ (HR.out.later (by (repeat' (first | (with_reducible exact Below.refl _ _) | (with_reducible assumption) | (with_reducible refine belowThru ?_ (by assumption)) | (with_reducible refine belowAlloc ?_) | (with_reducible refine Below.setCell ?_ (by first | omega | (simp; done) | (simp; omega)) _) | (with_reducible refine Below.drew ?_) | (with_reducible refine below_drewN ?_ _)))))).mono ?_); rintro e w1 ⟨rfl, hb⟩; (first | ((with_reducible have k0 := Blk.later hb (Blk.alloc (Blk.new rfl))); (with_reducible have k1 := Blk.later hb (Blk.new rfl)); simp only [World.size_alloc] at k1; obtain ⟨a0, b0⟩ := k0.read; have zl := k0.lt; obtain ⟨a1, b1⟩ := k1.read; have zl := k1.lt) | ((try (have zk := k0.lt; (first | ((with_reducible refine Blk.keepG hb k0 (fun h => ?_) ?_); (focus ((repeat' (first | (with_reducible assumption) | ((with_reducible refine Blk.new ?_); first | rfl | (simp; done)) | (with_reducible refine Blk.later (by assumption) ?_) | (with_reducible refine Blk.alloc ?_) | (with_reducible refine Blk.drewN ?_) | (with_reducible refine Blk.drew ?_) | (with_reducible refine Blk.other ?_ (by first | omega | (simp; done) | (simp; omega))))); done)); clear k0; intro k0) | (with_reducible replace k0 := Blk.later hb (Blk.set (Blk.set k0))) | (with_reducible replace k0 := Blk.later hb (Blk.set k0))); clear a0 b0; obtain ⟨a0, b0⟩ := k0.read; have zl := k0.lt)); (try (have zk := k1.lt; (first | ((with_reducible refine Blk.keepG hb k1 (fun h => ?_) ?_); (focus ((repeat' (first | (with_reducible assumption) | ((with_reducible refine Blk.new ?_); first | rfl | (simp; done)) | (with_reducible refine Blk.later (by assumption) ?_) | (with_reducible refine Blk.alloc ?_) | (with_reducible refine Blk.drewN ?_) | (with_reducible refine Blk.drew ?_) | (with_reducible refine Blk.other ?_ (by first | omega | (simp; done) | (simp; omega))))); done)); clear k1; intro k1) | (with_reducible replace k1 := Blk.later hb (Blk.set (Blk.set k1))) | (with_reducible replace k1 := Blk.later hb (Blk.set k1))); clear a1 b1; obtain ⟨a1, b1⟩ := k1.read; have zl := k1.lt)))); clear H1))
  exact bodyPost_ret (v := .tuple #[.agg #[.int .i64 0, .int .i64 0], .int .i64 40]) (by simp only [results, Try.results15]; go_simp) rfl ⟨rfl, by (repeat' (first | (with_reducible exact Below.refl _ _) | (with_reducible assumption) | (with_reducible refine belowThru ?_ (by assumption)) | (with_reducible refine belowAlloc ?_) | (with_reducible refine Below.setCell ?_ (by first | omega | (simp; done) | (simp; omega)) _) | (with_reducible refine Below.drew ?_) | (with_reducible refine below_drewN ?_ _)))⟩

set_option maxHeartbeats 1000000 in
theorem cor_x (a : Option Addr) (n c : Nat) (ks : List (Int × Int)) (X D : Int) (w : World) (HR : Hid (KRow w a n ks))
    (H1 : Hid (∀ w, KRow w a n ks → Calls Try.prog 28 #[.slice a n c] w fun e w' => e = .returned (.int .i64 0) ∧ Below w.heap.size w w'))
    (H2 : Hid (∀ w, KRow w a n ks → Calls Try.prog 52 #[.slice a n c, .agg #[.int .i64 X, .int .i64 D]] w fun e w' => e = .returned (.bool false) ∧ Below w.heap.size w w')) :
    Calls Try.prog 15 #[.slice a n c, .agg #[.int .i64 X, .int .i64 D]] w fun e w' => e = .returned (.tuple #[.agg #[.int .i64 0, .int .i64 0], .int .i64 2]) ∧ Below w.heap.size w w' := by
  go_enter Try.func15, Try.ntmps15
  go_wp2_with (first
    | (go_at_call 28; (with_reducible refine (H1.out _ (HR.out.later (by (repeat' (first | (with_reducible exact Below.refl _ _) | (with_reducible assumption) | (with_reducible refine belowThru ?_ (by assumption)) | (with_reducible refine belowAlloc ?_) | (with_reducible refine Below.setCell ?_ (by first | omega | (simp; done) | (simp; omega)) _) | (with_reducible refine Below.drew ?_) | (with_reducible refine below_drewN ?_ _)))))).mono ?_); rintro e w1 ⟨rfl, hb⟩; (first | ((with_reducible have k0 := Blk.later hb (Blk.alloc (Blk.new rfl))); (with_reducible have k1 := Blk.later hb (Blk.new rfl)); simp only [World.size_alloc] at k1; obtain ⟨a0, b0⟩ := k0.read; have zl := k0.lt; obtain ⟨a1, b1⟩ := k1.read; have zl := k1.lt) | ((try (have zk := k0.lt; (first | ((with_reducible refine Blk.keepG hb k0 (fun h => ?_) ?_); (focus ((repeat' (first | (with_reducible assumption) | ((with_reducible refine Blk.new ?_); first | rfl | (simp; done)) | (with_reducible refine Blk.later (by assumption) ?_) | (with_reducible refine Blk.alloc ?_) | (with_reducible refine Blk.drewN ?_) | (with_reducible refine Blk.drew ?_) | (with_reducible refine Blk.other ?_ (by first | omega | (simp; done) | (simp; omega))))); done)); clear k0; intro k0) | (with_reducible replace k0 := Blk.later hb (Blk.set (Blk.set k0))) | (with_reducible replace k0 := Blk.later hb (Blk.set k0))); clear a0 b0; obtain ⟨a0, b0⟩ := k0.read; have zl := k0.lt)); (try (have zk := k1.lt; (first | ((with_reducible refine Blk.keepG hb k1 (fun h => ?_) ?_); (focus ((repeat' (first | (with_reducible assumption) | ((with_reducible refine Blk.new ?_); first | rfl | (simp; done)) | (with_reducible refine Blk.later (by assumption) ?_) | (with_reducible refine Blk.alloc ?_) | (with_reducible refine Blk.drewN ?_) | (with_reducible refine Blk.drew ?_) | (with_reducible refine Blk.other ?_ (by first | omega | (simp; done) | (simp; omega))))); done)); clear k1; intro k1) | (with_reducible replace k1 := Blk.later hb (Blk.set (Blk.set k1))) | (with_reducible replace k1 := Blk.later hb (Blk.set k1))); clear a1 b1; obtain ⟨a1, b1⟩ := k1.read; have zl := k1.lt)))); clear H1)
    | (go_at_call 52; (with_reducible refine (H2.out _ (HR.out.later (by (repeat' (first | (with_reducible exact Below.refl _ _) | (with_reducible assumption) | (with_reducible refine belowThru ?_ (by assumption)) | (with_reducible refine belowAlloc ?_) | (with_reducible refine Below.setCell ?_ (by first | omega | (simp; done) | (simp; omega)) _) | (with_reducible refine Below.drew ?_) | (with_reducible refine below_drewN ?_ _)))))).mono ?_); rintro e w1 ⟨rfl, hb⟩; (try (have zk := k0.lt; (first | ((with_reducible refine Blk.keepG hb k0 (fun h => ?_) ?_); (focus ((repeat' (first | (with_reducible assumption) | ((with_reducible refine Blk.new ?_); first | rfl | (simp; done)) | (with_reducible refine Blk.later (by assumption) ?_) | (with_reducible refine Blk.alloc ?_) | (with_reducible refine Blk.drewN ?_) | (with_reducible refine Blk.drew ?_) | (with_reducible refine Blk.other ?_ (by first | omega | (simp; done) | (simp; omega))))); done)); clear k0; intro k0) | (with_reducible replace k0 := Blk.later hb (Blk.set (Blk.set k0))) | (with_reducible replace k0 := Blk.later hb (Blk.set k0))); clear a0 b0; obtain ⟨a0, b0⟩ := k0.read; have zl := k0.lt)); (try (have zk := k1.lt; (first | ((with_reducible refine Blk.keepG hb k1 (fun h => ?_) ?_); (focus ((repeat' (first | (with_reducible assumption) | ((with_reducible refine Blk.new ?_); first | rfl | (simp; done)) | (with_reducible refine Blk.later (by assumption) ?_) | (with_reducible refine Blk.alloc ?_) | (with_reducible refine Blk.drewN ?_) | (with_reducible refine Blk.drew ?_) | (with_reducible refine Blk.other ?_ (by first | omega | (simp; done) | (simp; omega))))); done)); clear k1; intro k1) | (with_reducible replace k1 := Blk.later hb (Blk.set (Blk.set k1))) | (with_reducible replace k1 := Blk.later hb (Blk.set k1))); clear a1 b1; obtain ⟨a1, b1⟩ := k1.read; have zl := k1.lt)); clear H2))
  exact bodyPost_ret (v := .tuple #[.agg #[.int .i64 0, .int .i64 0], .int .i64 2]) (by simp only [results, Try.results15]; go_simp) rfl ⟨rfl, by (repeat' (first | (with_reducible exact Below.refl _ _) | (with_reducible assumption) | (with_reducible refine belowThru ?_ (by assumption)) | (with_reducible refine belowAlloc ?_) | (with_reducible refine Below.setCell ?_ (by first | omega | (simp; done) | (simp; omega)) _) | (with_reducible refine Below.drew ?_) | (with_reducible refine below_drewN ?_ _)))⟩

set_option maxHeartbeats 1000000 in
theorem cor_ok (a : Option Addr) (n c : Nat) (ks : List (Int × Int)) (X D M N : Int) (w : World) (HR : Hid (KRow w a n ks))
    (H1 : Hid (∀ w, KRow w a n ks → Calls Try.prog 28 #[.slice a n c] w fun e w' => e = .returned (.int .i64 0) ∧ Below w.heap.size w w'))
    (H2 : Hid (∀ w, KRow w a n ks → Calls Try.prog 52 #[.slice a n c, .agg #[.int .i64 X, .int .i64 D]] w fun e w' => e = .returned (.bool true) ∧ Below w.heap.size w w'))
    (H3 : Hid (∀ w, KRow w a n ks → Calls Try.prog 53 #[.slice a n c, .agg #[.int .i64 X, .int .i64 D]] w fun e w' => e = .returned (.agg #[.int .i64 M, .int .i64 N]) ∧ Below w.heap.size w w')) :
    Calls Try.prog 15 #[.slice a n c, .agg #[.int .i64 X, .int .i64 D]] w fun e w' => e = .returned (.tuple #[.agg #[.int .i64 M, .int .i64 N], .int .i64 0]) ∧ Below w.heap.size w w' := by
  go_enter Try.func15, Try.ntmps15
  go_wp2_with (first
    | (go_at_call 28; (with_reducible refine (H1.out _ (HR.out.later (by (repeat' (first | (with_reducible exact Below.refl _ _) | (with_reducible assumption) | (with_reducible refine belowThru ?_ (by assumption)) | (with_reducible refine belowAlloc ?_) | (with_reducible refine Below.setCell ?_ (by first | omega | (simp; done) | (simp; omega)) _) | (with_reducible refine Below.drew ?_) | (with_reducible refine below_drewN ?_ _)))))).mono ?_); rintro e w1 ⟨rfl, hb⟩; (first | ((with_reducible have k0 := Blk.later hb (Blk.alloc (Blk.new rfl))); (with_reducible have k1 := Blk.later hb (Blk.new rfl)); simp only [World.size_alloc] at k1; obtain ⟨a0, b0⟩ := k0.read; have zl := k0.lt; obtain ⟨a1, b1⟩ := k1.read; have zl := k1.lt) | ((try (have zk := k0.lt; (first | ((with_reducible refine Blk.keepG hb k0 (fun h => ?_) ?_); (focus ((repeat' (first | (with_reducible assumption) | ((with_reducible refine Blk.new ?_); first | rfl | (simp; done)) | (with_reducible refine Blk.later (by assumption) ?_) | (with_reducible refine Blk.alloc ?_) | (with_reducible refine Blk.drewN ?_) | (with_reducible refine Blk.drew ?_) | (with_reducible refine Blk.other ?_ (by first | omega | (simp; done) | (simp; omega))))); done)); clear k0; intro k0) | (with_reducible replace k0 := Blk.later hb (Blk.set (Blk.set k0))) | (with_reducible replace k0 := Blk.later hb (Blk.set k0))); clear a0 b0; obtain ⟨a0, b0⟩ := k0.read; have zl := k0.lt)); (try (have zk := k1.lt; (first | ((with_reducible refine Blk.keepG hb k1 (fun h => ?_) ?_); (focus ((repeat' (first | (with_reducible assumption) | ((with_reducible refine Blk.new ?_); first | rfl | (simp; done)) | (with_reducible refine Blk.later (by assumption) ?_) | (with_reducible refine Blk.alloc ?_) | (with_reducible refine Blk.drewN ?_) | (with_reducible refine Blk.drew ?_) | (with_reducible refine Blk.other ?_ (by first | omega | (simp; done) | (simp; omega))))); done)); clear k1; intro k1) | (with_reducible replace k1 := Blk.later hb (Blk.set (Blk.set k1))) | (with_reducible replace k1 := Blk.later hb (Blk.set k1))); clear a1 b1; obtain ⟨a1, b1⟩ := k1.read; have zl := k1.lt)))); clear H1)
    | (go_at_call 52; (with_reducible refine (H2.out _ (HR.out.later (by (repeat' (first | (with_reducible exact Below.refl _ _) | (with_reducible assumption) | (with_reducible refine belowThru ?_ (by assumption)) | (with_reducible refine belowAlloc ?_) | (with_reducible refine Below.setCell ?_ (by first | omega | (simp; done) | (simp; omega)) _) | (with_reducible refine Below.drew ?_) | (with_reducible refine below_drewN ?_ _)))))).mono ?_); rintro e w1 ⟨rfl, hb⟩; (try (have zk := k0.lt; (first | ((with_reducible refine Blk.keepG hb k0 (fun h => ?_) ?_); (focus ((repeat' (first | (with_reducible assumption) | ((with_reducible refine Blk.new ?_); first | rfl | (simp; done)) | (with_reducible refine Blk.later (by assumption) ?_) | (with_reducible refine Blk.alloc ?_) | (with_reducible refine Blk.drewN ?_) | (with_reducible refine Blk.drew ?_) | (with_reducible refine Blk.other ?_ (by first | omega | (simp; done) | (simp; omega))))); done)); clear k0; intro k0) | (with_reducible replace k0 := Blk.later hb (Blk.set (Blk.set k0))) | (with_reducible replace k0 := Blk.later hb (Blk.set k0))); clear a0 b0; obtain ⟨a0, b0⟩ := k0.read; have zl := k0.lt)); (try (have zk := k1.lt; (first | ((with_reducible refine Blk.keepG hb k1 (fun h => ?_) ?_); (focus ((repeat' (first | (with_reducible assumption) | ((with_reducible refine Blk.new ?_); first | rfl | (simp; done)) | (with_reducible refine Blk.later (by assumption) ?_) | (with_reducible refine Blk.alloc ?_) | (with_reducible refine Blk.drewN ?_) | (with_reducible refine Blk.drew ?_) | (with_reducible refine Blk.other ?_ (by first | omega | (simp; done) | (simp; omega))))); done)); clear k1; intro k1) | (with_reducible replace k1 := Blk.later hb (Blk.set (Blk.set k1))) | (with_reducible replace k1 := Blk.later hb (Blk.set k1))); clear a1 b1; obtain ⟨a1, b1⟩ := k1.read; have zl := k1.lt)); clear H2)
    | (go_at_call 53; (with_reducible refine (H3.out _ (HR.out.later (by (repeat' (first | (with_reducible exact Below.refl _ _) | (with_reducible assumption) | (with_reducible refine belowThru ?_ (by assumption)) | (with_reducible refine belowAlloc ?_) | (with_reducible refine Below.setCell ?_ (by first | omega | (simp; done) | (simp; omega)) _) | (with_reducible refine Below.drew ?_) | (with_reducible refine below_drewN ?_ _)))))).mono ?_); rintro e w1 ⟨rfl, hb⟩; (try (have zk := k0.lt; (first | ((with_reducible refine Blk.keepG hb k0 (fun h => ?_) ?_); (focus ((repeat' (first | (with_reducible assumption) | ((with_reducible refine Blk.new ?_); first | rfl | (simp; done)) | (with_reducible refine Blk.later (by assumption) ?_) | (with_reducible refine Blk.alloc ?_) | (with_reducible refine Blk.drewN ?_) | (with_reducible refine Blk.drew ?_) | (with_reducible refine Blk.other ?_ (by first | omega | (simp; done) | (simp; omega))))); done)); clear k0; intro k0) | (with_reducible replace k0 := Blk.later hb (Blk.set (Blk.set k0))) | (with_reducible replace k0 := Blk.later hb (Blk.set k0))); clear a0 b0; obtain ⟨a0, b0⟩ := k0.read; have zl := k0.lt)); (try (have zk := k1.lt; (first | ((with_reducible refine Blk.keepG hb k1 (fun h => ?_) ?_); (focus ((repeat' (first | (with_reducible assumption) | ((with_reducible refine Blk.new ?_); first | rfl | (simp; done)) | (with_reducible refine Blk.later (by assumption) ?_) | (with_reducible refine Blk.alloc ?_) | (with_reducible refine Blk.drewN ?_) | (with_reducible refine Blk.drew ?_) | (with_reducible refine Blk.other ?_ (by first | omega | (simp; done) | (simp; omega))))); done)); clear k1; intro k1) | (with_reducible replace k1 := Blk.later hb (Blk.set (Blk.set k1))) | (with_reducible replace k1 := Blk.later hb (Blk.set k1))); clear a1 b1; obtain ⟨a1, b1⟩ := k1.read; have zl := k1.lt)); clear H3))
  exact bodyPost_ret (v := .tuple #[.agg #[.int .i64 M, .int .i64 N], .int .i64 0]) (by simp only [results, Try.results15]; go_simp) rfl ⟨rfl, by (repeat' (first | (with_reducible exact Below.refl _ _) | (with_reducible assumption) | (with_reducible refine belowThru ?_ (by assumption)) | (with_reducible refine belowAlloc ?_) | (with_reducible refine Below.setCell ?_ (by first | omega | (simp; done) | (simp; omega)) _) | (with_reducible refine Below.drew ?_) | (with_reducible refine below_drewN ?_ _)))⟩

set_option maxRecDepth 100000 in
set_option maxHeartbeats 4000000 in
theorem dis_ok (a : Option Addr) (n c : Nat) (ks kt : List (Int × Int)) (X D M N E : Int) (w : World) (HR : Hid (KRow w a n ks))
    (HX : Hid (∀ w, KRow w a n ks → Calls Try.prog 74 #[.slice a n c] w (RetK kt w)))
    (HC : Hid (∀ (a : Option Addr) (c : Nat) w, KRow w a kt.length kt → Calls Try.prog 15 #[.slice a kt.length c, .agg #[.int .i64 X, .int .i64 D]] w fun e w' => e = .returned (.tuple #[.agg #[.int .i64 M, .int .i64 N], .int .i64 E]) ∧ Below w.heap.size w w')) :
    Calls Try.prog 36 #[.slice a n c, .agg #[.int .i64 X, .int .i64 D]] w fun e w' => e = .returned (.tuple #[.agg #[.int .i64 M, .int .i64 N], .int .i64 E]) ∧ Below w.heap.size w w' := by
  -- k0 k1
  generalize hL : kt.length = l at HC
  have HX : Hid (∀ w, KRow w a n ks → Calls Try.prog 74 #[.slice a n c] w fun e w' => ∃ (v : Option Addr) (d : Nat), e = .returned (.slice v l d) ∧ KRow w' v l kt ∧ Below w.heap.size w w') := by
    intro w h; have := HX.out w h; unfold RetK at this; rwa [hL] at this
  clear hL
  go_enter Try.func36, Try.ntmps36
  go_wp2_with fail
  have k0 : Blk ((w.alloc (.cells #[.int .i64 X, .int .i64 D] 23)).alloc (.cells #[.int .i64 0, .int .i64 0] 23)) w.heap.size #[.int .i64 X, .int .i64 D] 23 := Blk.alloc (Blk.new rfl)
  have k1 : Blk ((w.alloc (.cells #[.int .i64 X, .int .i64 D] 23)).alloc (.cells #[.int .i64 0, .int .i64 0] 23)) (w.heap.size + 1) #[.int .i64 0, .int .i64 0] 23 := Blk.new (by simp)
  obtain ⟨a0, b0⟩ := k0.read; obtain ⟨a1, b1⟩ := k1.read
  go_region_held3 (fun w' => (Blk w' w.heap.size #[.int .i64 X, .int .i64 D] 23 ∧ (∀ i : Nat, w'.cell? ⟨w.heap.size, i, none⟩ = (#[.int .i64 X, .int .i64 D] : Array Value)[i]?)) ∧ Below w.heap.size w w')
    (((first | (apply hold1; (focus assumption); intro p0 pB) | skip); refine ⟨Blk.full ?_, ?_⟩; all_goals (first | ((repeat' (first | (with_reducible assumption) | ((with_reducible refine Blk.new ?_); first | rfl | (simp; done)) | (with_reducible refine Blk.later (by assumption) ?_) | (with_reducible refine Blk.alloc ?_) | (with_reducible refine Blk.drewN ?_) | (with_reducible refine Blk.drew ?_) | (with_reducible refine Blk.other ?_ (by first | omega | (simp; done) | (simp; omega))))); done) | ((repeat' (first | (with_reducible exact Below.refl _ _) | (with_reducible assumption) | (with_reducible refine belowThru ?_ (by assumption)) | (with_reducible refine belowAlloc ?_) | (with_reducible refine Below.setCell ?_ (by first | omega | (simp; done) | (simp; omega)) _) | (with_reducible refine Below.drew ?_) | (with_reducible refine below_drewN ?_ _))); done))))
    (first
    | (go_at_call 74; (with_reducible refine (HX.out _ (HR.out.later (by (repeat' (first | (with_reducible exact Below.refl _ _) | (with_reducible assumption) | (with_reducible refine belowThru ?_ (by assumption)) | (with_reducible refine belowAlloc ?_) | (with_reducible refine Below.setCell ?_ (by first | omega | (simp; done) | (simp; omega)) _) | (with_reducible refine Below.drew ?_) | (with_reducible refine below_drewN ?_ _)))))).mono ?_); rintro e w1 ⟨v', d', rfl, hr, hb⟩; (try (have zk := k0.lt; (first | ((with_reducible refine Blk.keepG hb k0 (fun h => ?_) ?_); (focus ((repeat' (first | (with_reducible assumption) | ((with_reducible refine Blk.new ?_); first | rfl | (simp; done)) | (with_reducible refine Blk.later (by assumption) ?_) | (with_reducible refine Blk.alloc ?_) | (with_reducible refine Blk.drewN ?_) | (with_reducible refine Blk.drew ?_) | (with_reducible refine Blk.other ?_ (by first | omega | (simp; done) | (simp; omega))))); done)); clear k0; intro k0) | (with_reducible replace k0 := Blk.later hb (Blk.set (Blk.set k0))) | (with_reducible replace k0 := Blk.later hb (Blk.set k0))); clear a0 b0; obtain ⟨a0, b0⟩ := k0.read; have zl := k0.lt)); (try (have zk := k1.lt; (first | ((with_reducible refine Blk.keepG hb k1 (fun h => ?_) ?_); (focus ((repeat' (first | (with_reducible assumption) | ((with_reducible refine Blk.new ?_); first | rfl | (simp; done)) | (with_reducible refine Blk.later (by assumption) ?_) | (with_reducible refine Blk.alloc ?_) | (with_reducible refine Blk.drewN ?_) | (with_reducible refine Blk.drew ?_) | (with_reducible refine Blk.other ?_ (by first | omega | (simp; done) | (simp; omega))))); done)); clear k1; intro k1) | (with_reducible replace k1 := Blk.later hb (Blk.set (Blk.set k1))) | (with_reducible replace k1 := Blk.later hb (Blk.set k1))); clear a1 b1; obtain ⟨a1, b1⟩ := k1.read; have zl := k1.lt)))
    | (go_at_call 15; (with_reducible refine (HC.out _ _ _ (by assumption)).mono ?_); rintro e w2 ⟨rfl, hb⟩; (try (have zk := k0.lt; (first | ((with_reducible refine Blk.keepG hb k0 (fun h => ?_) ?_); (focus ((repeat' (first | (with_reducible assumption) | ((with_reducible refine Blk.new ?_); first | rfl | (simp; done)) | (with_reducible refine Blk.later (by assumption) ?_) | (with_reducible refine Blk.alloc ?_) | (with_reducible refine Blk.drewN ?_) | (with_reducible refine Blk.drew ?_) | (with_reducible refine Blk.other ?_ (by first | omega | (simp; done) | (simp; omega))))); done)); clear k0; intro k0) | (with_reducible replace k0 := Blk.later hb (Blk.set (Blk.set k0))) | (with_reducible replace k0 := Blk.later hb (Blk.set k0))); clear a0 b0; obtain ⟨a0, b0⟩ := k0.read; have zl := k0.lt)); (try (have zk := k1.lt; (first | ((with_reducible refine Blk.keepG hb k1 (fun h => ?_) ?_); (focus ((repeat' (first | (with_reducible assumption) | ((with_reducible refine Blk.new ?_); first | rfl | (simp; done)) | (with_reducible refine Blk.later (by assumption) ?_) | (with_reducible refine Blk.alloc ?_) | (with_reducible refine Blk.drewN ?_) | (with_reducible refine Blk.drew ?_) | (with_reducible refine Blk.other ?_ (by first | omega | (simp; done) | (simp; omega))))); done)); clear k1; intro k1) | (with_reducible replace k1 := Blk.later hb (Blk.set (Blk.set k1))) | (with_reducible replace k1 := Blk.later hb (Blk.set k1))); clear a1 b1; obtain ⟨a1, b1⟩ := k1.read; have zl := k1.lt))))
  go_wp2_with fail
  exact bodyPost_ret (v := .tuple #[.agg #[.int .i64 M, .int .i64 N], .int .i64 E]) (by simp only [results, Try.results36]; go_simp) rfl ⟨rfl, by (repeat' (first | (with_reducible exact Below.refl _ _) | (with_reducible assumption) | (with_reducible refine belowThru ?_ (by assumption)) | (with_reducible refine belowAlloc ?_) | (with_reducible refine Below.setCell ?_ (by first | omega | (simp; done) | (simp; omega)) _) | (with_reducible refine Below.drew ?_) | (with_reducible refine below_drewN ?_ _)))⟩

set_option maxHeartbeats 2000000 in
theorem csp_lo (a : Option Addr) (n c : Nat) (ks : List (Int × Int)) (X D Y F M N O Q E : Int) (w : World) (HR : Hid (KRow w a n ks)) (hE : (E != 0) = true)
    (H1 : Hid (∀ w, KRow w a n ks → Calls Try.prog 15 #[.slice a n c, .agg #[.int .i64 X, .int .i64 D]] w fun e w' => e = .returned (.tuple #[.agg #[.int .i64 M, .int .i64 N], .int .i64 E]) ∧ Below w.heap.size w w')) :
    Calls Try.prog 37 #[.slice a n c, .agg #[.int .i64 X, .int .i64 D, .int .i64 Y, .int .i64 F]] w fun e w' => e = .returned (.tuple #[.agg #[.int .i64 0, .int .i64 0, .int .i64 0, .int .i64 0], .int .i64 E]) ∧ Below w.heap.size w w' := by
  go_enter Try.func37, Try.ntmps37
  go_wp2_with (first
    | (go_at_call 15; (with_reducible refine (H1.out _ (HR.out.later (by (repeat' (first | (with_reducible exact Below.refl _ _) | (with_reducible assumption) | (with_reducible refine belowThru ?_ (by assumption)) | (with_reducible refine belowAlloc ?_) | (with_reducible refine Below.setCell ?_ (by first | omega | (simp; done) | (simp; omega)) _) | (with_reducible refine Below.drew ?_) | (with_reducible refine below_drewN ?_ _)))))).mono ?_); rintro e w1 ⟨rfl, hb⟩; (first | ((with_reducible have k0 := Blk.later hb (Blk.alloc (Blk.new rfl))); (with_reducible have k1 := Blk.later hb (Blk.new rfl)); simp only [World.size_alloc] at k1; obtain ⟨a0, b0⟩ := k0.read; have zl := k0.lt; obtain ⟨a1, b1⟩ := k1.read; have zl := k1.lt) | ((try (have zk := k0.lt; (first | ((with_reducible refine Blk.keepG hb k0 (fun h => ?_) ?_); (focus ((repeat' (first | (with_reducible assumption) | ((with_reducible refine Blk.new ?_); first | rfl | (simp; done)) | (with_reducible refine Blk.later (by assumption) ?_) | (with_reducible refine Blk.alloc ?_) | (with_reducible refine Blk.drewN ?_) | (with_reducible refine Blk.drew ?_) | (with_reducible refine Blk.other ?_ (by first | omega | (simp; done) | (simp; omega))))); done)); clear k0; intro k0) | (with_reducible replace k0 := Blk.later hb (Blk.set (Blk.set k0))) | (with_reducible replace k0 := Blk.later hb (Blk.set k0))); clear a0 b0; obtain ⟨a0, b0⟩ := k0.read; have zl := k0.lt)); (try (have zk := k1.lt; (first | ((with_reducible refine Blk.keepG hb k1 (fun h => ?_) ?_); (focus ((repeat' (first | (with_reducible assumption) | ((with_reducible refine Blk.new ?_); first | rfl | (simp; done)) | (with_reducible refine Blk.later (by assumption) ?_) | (with_reducible refine Blk.alloc ?_) | (with_reducible refine Blk.drewN ?_) | (with_reducible refine Blk.drew ?_) | (with_reducible refine Blk.other ?_ (by first | omega | (simp; done) | (simp; omega))))); done)); clear k1; intro k1) | (with_reducible replace k1 := Blk.later hb (Blk.set (Blk.set k1))) | (with_reducible replace k1 := Blk.later hb (Blk.set k1))); clear a1 b1; obtain ⟨a1, b1⟩ := k1.read; have zl := k1.lt)))); clear H1))
  exact bodyPost_ret (v := .tuple #[.agg #[.int .i64 0, .int .i64 0, .int .i64 0, .int .i64 0], .int .i64 E]) (by simp only [results, Try.results37]; go_simp) rfl ⟨rfl, by (repeat' (first | (with_reducible exact Below.refl _ _) | (with_reducible assumption) | (with_reducible refine belowThru ?_ (by assumption)) | (with_reducible refine belowAlloc ?_) | (with_reducible refine Below.setCell ?_ (by first | omega | (simp; done) | (simp; omega)) _) | (with_reducible refine Below.drew ?_) | (with_reducible refine below_drewN ?_ _)))⟩

set_option maxHeartbeats 2000000 in
theorem csp_hi (a : Option Addr) (n c : Nat) (ks : List (Int × Int)) (X D Y F M N O Q E : Int) (w : World) (HR : Hid (KRow w a n ks)) (hE : (E != 0) = true)
    (H1 : Hid (∀ w, KRow w a n ks → Calls Try.prog 15 #[.slice a n c, .agg #[.int .i64 X, .int .i64 D]] w fun e w' => e = .returned (.tuple #[.agg #[.int .i64 M, .int .i64 N], .int .i64 0]) ∧ Below w.heap.size w w'))
    (H2 : Hid (∀ w, KRow w a n ks → Calls Try.prog 15 #[.slice a n c, .agg #[.int .i64 Y, .int .i64 F]] w fun e w' => e = .returned (.tuple #[.agg #[.int .i64 O, .int .i64 Q], .int .i64 E]) ∧ Below w.heap.size w w')) :
    Calls Try.prog 37 #[.slice a n c, .agg #[.int .i64 X, .int .i64 D, .int .i64 Y, .int .i64 F]] w fun e w' => e = .returned (.tuple #[.agg #[.int .i64 0, .int .i64 0, .int .i64 0, .int .i64 0], .int .i64 E]) ∧ Below w.heap.size w w' := by
  go_enter Try.func37, Try.ntmps37
  go_wp2_with (first
    | (go_at_call 15; (with_reducible refine (H1.out _ (HR.out.later (by (repeat' (first | (with_reducible exact Below.refl _ _) | (with_reducible assumption) | (with_reducible refine belowThru ?_ (by assumption)) | (with_reducible refine belowAlloc ?_) | (with_reducible refine Below.setCell ?_ (by first | omega | (simp; done) | (simp; omega)) _) | (with_reducible refine Below.drew ?_) | (with_reducible refine below_drewN ?_ _)))))).mono ?_); rintro e w1 ⟨rfl, hb⟩; (first | ((with_reducible have k0 := Blk.later hb (Blk.alloc (Blk.new rfl))); (with_reducible have k1 := Blk.later hb (Blk.new rfl)); simp only [World.size_alloc] at k1; obtain ⟨a0, b0⟩ := k0.read; have zl := k0.lt; obtain ⟨a1, b1⟩ := k1.read; have zl := k1.lt) | ((try (have zk := k0.lt; (first | ((with_reducible refine Blk.keepG hb k0 (fun h => ?_) ?_); (focus ((repeat' (first | (with_reducible assumption) | ((with_reducible refine Blk.new ?_); first | rfl | (simp; done)) | (with_reducible refine Blk.later (by assumption) ?_) | (with_reducible refine Blk.alloc ?_) | (with_reducible refine Blk.drewN ?_) | (with_reducible refine Blk.drew ?_) | (with_reducible refine Blk.other ?_ (by first | omega | (simp; done) | (simp; omega))))); done)); clear k0; intro k0) | (with_reducible replace k0 := Blk.later hb (Blk.set (Blk.set k0))) | (with_reducible replace k0 := Blk.later hb (Blk.set k0))); clear a0 b0; obtain ⟨a0, b0⟩ := k0.read; have zl := k0.lt)); (try (have zk := k1.lt; (first | ((with_reducible refine Blk.keepG hb k1 (fun h => ?_) ?_); (focus ((repeat' (first | (with_reducible assumption) | ((with_reducible refine Blk.new ?_); first | rfl | (simp; done)) | (with_reducible refine Blk.later (by assumption) ?_) | (with_reducible refine Blk.alloc ?_) | (with_reducible refine Blk.drewN ?_) | (with_reducible refine Blk.drew ?_) | (with_reducible refine Blk.other ?_ (by first | omega | (simp; done) | (simp; omega))))); done)); clear k1; intro k1) | (with_reducible replace k1 := Blk.later hb (Blk.set (Blk.set k1))) | (with_reducible replace k1 := Blk.later hb (Blk.set k1))); clear a1 b1; obtain ⟨a1, b1⟩ := k1.read; have zl := k1.lt)); (try (have zk := k2.lt; (first | ((with_reducible refine Blk.keepG hb k2 (fun h => ?_) ?_); (focus ((repeat' (first | (with_reducible assumption) | ((with_reducible refine Blk.new ?_); first | rfl | (simp; done)) | (with_reducible refine Blk.later (by assumption) ?_) | (with_reducible refine Blk.alloc ?_) | (with_reducible refine Blk.drewN ?_) | (with_reducible refine Blk.drew ?_) | (with_reducible refine Blk.other ?_ (by first | omega | (simp; done) | (simp; omega))))); done)); clear k2; intro k2) | (with_reducible replace k2 := Blk.later hb (Blk.set (Blk.set k2))) | (with_reducible replace k2 := Blk.later hb (Blk.set k2))); clear a2 b2; obtain ⟨a2, b2⟩ := k2.read; have zl := k2.lt)))); clear H1)
    | (go_at_call 15; (with_reducible refine (H2.out _ (HR.out.later (by (repeat' (first | (with_reducible exact Below.refl _ _) | (with_reducible assumption) | (with_reducible refine belowThru ?_ (by assumption)) | (with_reducible refine belowAlloc ?_) | (with_reducible refine Below.setCell ?_ (by first | omega | (simp; done) | (simp; omega)) _) | (with_reducible refine Below.drew ?_) | (with_reducible refine below_drewN ?_ _)))))).mono ?_); rintro e w1 ⟨rfl, hb⟩; (try (have zk := k0.lt; (first | ((with_reducible refine Blk.keepG hb k0 (fun h => ?_) ?_); (focus ((repeat' (first | (with_reducible assumption) | ((with_reducible refine Blk.new ?_); first | rfl | (simp; done)) | (with_reducible refine Blk.later (by assumption) ?_) | (with_reducible refine Blk.alloc ?_) | (with_reducible refine Blk.drewN ?_) | (with_reducible refine Blk.drew ?_) | (with_reducible refine Blk.other ?_ (by first | omega | (simp; done) | (simp; omega))))); done)); clear k0; intro k0) | (with_reducible replace k0 := Blk.later hb (Blk.set (Blk.set k0))) | (with_reducible replace k0 := Blk.later hb (Blk.set k0))); clear a0 b0; obtain ⟨a0, b0⟩ := k0.read; have zl := k0.lt)); (try (have zk := k1.lt; (first | ((with_reducible refine Blk.keepG hb k1 (fun h => ?_) ?_); (focus ((repeat' (first | (with_reducible assumption) | ((with_reducible refine Blk.new ?_); first | rfl | (simp; done)) | (with_reducible refine Blk.later (by assumption) ?_) | (with_reducible refine Blk.alloc ?_) | (with_reducible refine Blk.drewN ?_) | (with_reducible refine Blk.drew ?_) | (with_reducible refine Blk.other ?_ (by first | omega | (simp; done) | (simp; omega))))); done)); clear k1; intro k1) | (with_reducible replace k1 := Blk.later hb (Blk.set (Blk.set k1))) | (with_reducible replace k1 := Blk.later hb (Blk.set k1))); clear a1 b1; obtain ⟨a1, b1⟩ := k1.read; have zl := k1.lt)); (try (have zk := k2.lt; (first | ((with_reducible refine Blk.keepG hb k2 (fun h => ?_) ?_); (focus ((repeat' (first | (with_reducible assumption) | ((with_reducible refine Blk.new ?_); first | rfl | (simp; done)) | (with_reducible refine Blk.later (by assumption) ?_) | (with_reducible refine Blk.alloc ?_) | (with_reducible refine Blk.drewN ?_) | (with_reducible refine Blk.drew ?_) | (with_reducible refine Blk.other ?_ (by first | omega | (simp; done) | (simp; omega))))); done)); clear k2; intro k2) | (with_reducible replace k2 := Blk.later hb (Blk.set (Blk.set k2))) | (with_reducible replace k2 := Blk.later hb (Blk.set k2))); clear a2 b2; obtain ⟨a2, b2⟩ := k2.read; have zl := k2.lt)); ((with_reducible have k2 := Blk.later hb (Blk.new rfl)); (try simp only [World.size_alloc, World.size_drew, World.heap_drewN] at k2); obtain ⟨a2, b2⟩ := k2.read; have zl := k2.lt); clear H2))
  exact bodyPost_ret (v := .tuple #[.agg #[.int .i64 0, .int .i64 0, .int .i64 0, .int .i64 0], .int .i64 E]) (by simp only [results, Try.results37]; go_simp) rfl ⟨rfl, by (repeat' (first | (with_reducible exact Below.refl _ _) | (with_reducible assumption) | (with_reducible refine belowThru ?_ (by assumption)) | (with_reducible refine belowAlloc ?_) | (with_reducible refine Below.setCell ?_ (by first | omega | (simp; done) | (simp; omega)) _) | (with_reducible refine Below.drew ?_) | (with_reducible refine below_drewN ?_ _)))⟩

set_option maxHeartbeats 2000000 in
theorem csp_s (a : Option Addr) (n c : Nat) (ks : List (Int × Int)) (X D Y F M N O Q E : Int) (w : World) (HR : Hid (KRow w a n ks))
    (H1 : Hid (∀ w, KRow w a n ks → Calls Try.prog 15 #[.slice a n c, .agg #[.int .i64 X, .int .i64 D]] w fun e w' => e = .returned (.tuple #[.agg #[.int .i64 M, .int .i64 N], .int .i64 0]) ∧ Below w.heap.size w w'))
    (H2 : Hid (∀ w, KRow w a n ks → Calls Try.prog 15 #[.slice a n c, .agg #[.int .i64 Y, .int .i64 F]] w fun e w' => e = .returned (.tuple #[.agg #[.int .i64 O, .int .i64 Q], .int .i64 0]) ∧ Below w.heap.size w w'))
    (H3 : Hid (∀ w, Calls Try.prog 66 #[.agg #[.int .i64 X, .int .i64 D, .int .i64 Y, .int .i64 F]] w fun e w' => e = .returned (.int .i64 8) ∧ Below w.heap.size w w')) :
    Calls Try.prog 37 #[.slice a n c, .agg #[.int .i64 X, .int .i64 D, .int .i64 Y, .int .i64 F]] w fun e w' => e = .returned (.tuple #[.agg #[.int .i64 0, .int .i64 0, .int .i64 0, .int .i64 0], .int .i64 2]) ∧ Below w.heap.size w w' := by
  go_enter Try.func37, Try.ntmps37
  go_wp2_with (first
    | (go_at_call 15; (with_reducible refine (H1.out _ (HR.out.later (by (repeat' (first | (with_reducible exact Below.refl _ _) | (with_reducible assumption) | (with_reducible refine belowThru ?_ (by assumption)) | (with_reducible refine belowAlloc ?_) | (with_reducible refine Below.setCell ?_ (by first | omega | (simp; done) | (simp; omega)) _) | (with_reducible refine Below.drew ?_) | (with_reducible refine below_drewN ?_ _)))))).mono ?_); rintro e w1 ⟨rfl, hb⟩; (first | ((with_reducible have k0 := Blk.later hb (Blk.alloc (Blk.new rfl))); (with_reducible have k1 := Blk.later hb (Blk.new rfl)); simp only [World.size_alloc] at k1; obtain ⟨a0, b0⟩ := k0.read; have zl := k0.lt; obtain ⟨a1, b1⟩ := k1.read; have zl := k1.lt) | ((try (have zk := k0.lt; (first | ((with_reducible refine Blk.keepG hb k0 (fun h => ?_) ?_); (focus ((repeat' (first | (with_reducible assumption) | ((with_reducible refine Blk.new ?_); first | rfl | (simp; done)) | (with_reducible refine Blk.later (by assumption) ?_) | (with_reducible refine Blk.alloc ?_) | (with_reducible refine Blk.drewN ?_) | (with_reducible refine Blk.drew ?_) | (with_reducible refine Blk.other ?_ (by first | omega | (simp; done) | (simp; omega))))); done)); clear k0; intro k0) | (with_reducible replace k0 := Blk.later hb (Blk.set (Blk.set k0))) | (with_reducible replace k0 := Blk.later hb (Blk.set k0))); clear a0 b0; obtain ⟨a0, b0⟩ := k0.read; have zl := k0.lt)); (try (have zk := k1.lt; (first | ((with_reducible refine Blk.keepG hb k1 (fun h => ?_) ?_); (focus ((repeat' (first | (with_reducible assumption) | ((with_reducible refine Blk.new ?_); first | rfl | (simp; done)) | (with_reducible refine Blk.later (by assumption) ?_) | (with_reducible refine Blk.alloc ?_) | (with_reducible refine Blk.drewN ?_) | (with_reducible refine Blk.drew ?_) | (with_reducible refine Blk.other ?_ (by first | omega | (simp; done) | (simp; omega))))); done)); clear k1; intro k1) | (with_reducible replace k1 := Blk.later hb (Blk.set (Blk.set k1))) | (with_reducible replace k1 := Blk.later hb (Blk.set k1))); clear a1 b1; obtain ⟨a1, b1⟩ := k1.read; have zl := k1.lt)); (try (have zk := k2.lt; (first | ((with_reducible refine Blk.keepG hb k2 (fun h => ?_) ?_); (focus ((repeat' (first | (with_reducible assumption) | ((with_reducible refine Blk.new ?_); first | rfl | (simp; done)) | (with_reducible refine Blk.later (by assumption) ?_) | (with_reducible refine Blk.alloc ?_) | (with_reducible refine Blk.drewN ?_) | (with_reducible refine Blk.drew ?_) | (with_reducible refine Blk.other ?_ (by first | omega | (simp; done) | (simp; omega))))); done)); clear k2; intro k2) | (with_reducible replace k2 := Blk.later hb (Blk.set (Blk.set k2))) | (with_reducible replace k2 := Blk.later hb (Blk.set k2))); clear a2 b2; obtain ⟨a2, b2⟩ := k2.read; have zl := k2.lt)); (try (have zk := k3.lt; (first | ((with_reducible refine Blk.keepG hb k3 (fun h => ?_) ?_); (focus ((repeat' (first | (with_reducible assumption) | ((with_reducible refine Blk.new ?_); first | rfl | (simp; done)) | (with_reducible refine Blk.later (by assumption) ?_) | (with_reducible refine Blk.alloc ?_) | (with_reducible refine Blk.drewN ?_) | (with_reducible refine Blk.drew ?_) | (with_reducible refine Blk.other ?_ (by first | omega | (simp; done) | (simp; omega))))); done)); clear k3; intro k3) | (with_reducible replace k3 := Blk.later hb (Blk.set (Blk.set k3))) | (with_reducible replace k3 := Blk.later hb (Blk.set k3))); clear a3 b3; obtain ⟨a3, b3⟩ := k3.read; have zl := k3.lt)))); clear H1)
    | (go_at_call 15; (with_reducible refine (H2.out _ (HR.out.later (by (repeat' (first | (with_reducible exact Below.refl _ _) | (with_reducible assumption) | (with_reducible refine belowThru ?_ (by assumption)) | (with_reducible refine belowAlloc ?_) | (with_reducible refine Below.setCell ?_ (by first | omega | (simp; done) | (simp; omega)) _) | (with_reducible refine Below.drew ?_) | (with_reducible refine below_drewN ?_ _)))))).mono ?_); rintro e w1 ⟨rfl, hb⟩; (try (have zk := k0.lt; (first | ((with_reducible refine Blk.keepG hb k0 (fun h => ?_) ?_); (focus ((repeat' (first | (with_reducible assumption) | ((with_reducible refine Blk.new ?_); first | rfl | (simp; done)) | (with_reducible refine Blk.later (by assumption) ?_) | (with_reducible refine Blk.alloc ?_) | (with_reducible refine Blk.drewN ?_) | (with_reducible refine Blk.drew ?_) | (with_reducible refine Blk.other ?_ (by first | omega | (simp; done) | (simp; omega))))); done)); clear k0; intro k0) | (with_reducible replace k0 := Blk.later hb (Blk.set (Blk.set k0))) | (with_reducible replace k0 := Blk.later hb (Blk.set k0))); clear a0 b0; obtain ⟨a0, b0⟩ := k0.read; have zl := k0.lt)); (try (have zk := k1.lt; (first | ((with_reducible refine Blk.keepG hb k1 (fun h => ?_) ?_); (focus ((repeat' (first | (with_reducible assumption) | ((with_reducible refine Blk.new ?_); first | rfl | (simp; done)) | (with_reducible refine Blk.later (by assumption) ?_) | (with_reducible refine Blk.alloc ?_) | (with_reducible refine Blk.drewN ?_) | (with_reducible refine Blk.drew ?_) | (with_reducible refine Blk.other ?_ (by first | omega | (simp; done) | (simp; omega))))); done)); clear k1; intro k1) | (with_reducible replace k1 := Blk.later hb (Blk.set (Blk.set k1))) | (with_reducible replace k1 := Blk.later hb (Blk.set k1))); clear a1 b1; obtain ⟨a1, b1⟩ := k1.read; have zl := k1.lt)); (try (have zk := k2.lt; (first | ((with_reducible refine Blk.keepG hb k2 (fun h => ?_) ?_); (focus ((repeat' (first | (with_reducible assumption) | ((with_reducible refine Blk.new ?_); first | rfl | (simp; done)) | (with_reducible refine Blk.later (by assumption) ?_) | (with_reducible refine Blk.alloc ?_) | (with_reducible refine Blk.drewN ?_) | (with_reducible refine Blk.drew ?_) | (with_reducible refine Blk.other ?_ (by first | omega | (simp; done) | (simp; omega))))); done)); clear k2; intro k2) | (with_reducible replace k2 := Blk.later hb (Blk.set (Blk.set k2))) | (with_reducible replace k2 := Blk.later hb (Blk.set k2))); clear a2 b2; obtain ⟨a2, b2⟩ := k2.read; have zl := k2.lt)); (try (have zk := k3.lt; (first | ((with_reducible refine Blk.keepG hb k3 (fun h => ?_) ?_); (focus ((repeat' (first | (with_reducible assumption) | ((with_reducible refine Blk.new ?_); first | rfl | (simp; done)) | (with_reducible refine Blk.later (by assumption) ?_) | (with_reducible refine Blk.alloc ?_) | (with_reducible refine Blk.drewN ?_) | (with_reducible refine Blk.drew ?_) | (with_reducible refine Blk.other ?_ (by first | omega | (simp; done) | (simp; omega))))); done)); clear k3; intro k3) | (with_reducible replace k3 := Blk.later hb (Blk.set (Blk.set k3))) | (with_reducible replace k3 := Blk.later hb (Blk.set k3))); clear a3 b3; obtain ⟨a3, b3⟩ := k3.read; have zl := k3.lt)); ((with_reducible have k2 := Blk.later hb (Blk.new rfl)); (try simp only [World.size_alloc, World.size_drew, World.heap_drewN] at k2); obtain ⟨a2, b2⟩ := k2.read; have zl := k2.lt); clear H2)
    | (go_at_call 66; (with_reducible refine (H3.out _).mono ?_); rintro e w1 ⟨rfl, hb⟩; (try (have zk := k0.lt; (first | ((with_reducible refine Blk.keepG hb k0 (fun h => ?_) ?_); (focus ((repeat' (first | (with_reducible assumption) | ((with_reducible refine Blk.new ?_); first | rfl | (simp; done)) | (with_reducible refine Blk.later (by assumption) ?_) | (with_reducible refine Blk.alloc ?_) | (with_reducible refine Blk.drewN ?_) | (with_reducible refine Blk.drew ?_) | (with_reducible refine Blk.other ?_ (by first | omega | (simp; done) | (simp; omega))))); done)); clear k0; intro k0) | (with_reducible replace k0 := Blk.later hb (Blk.set (Blk.set k0))) | (with_reducible replace k0 := Blk.later hb (Blk.set k0))); clear a0 b0; obtain ⟨a0, b0⟩ := k0.read; have zl := k0.lt)); (try (have zk := k1.lt; (first | ((with_reducible refine Blk.keepG hb k1 (fun h => ?_) ?_); (focus ((repeat' (first | (with_reducible assumption) | ((with_reducible refine Blk.new ?_); first | rfl | (simp; done)) | (with_reducible refine Blk.later (by assumption) ?_) | (with_reducible refine Blk.alloc ?_) | (with_reducible refine Blk.drewN ?_) | (with_reducible refine Blk.drew ?_) | (with_reducible refine Blk.other ?_ (by first | omega | (simp; done) | (simp; omega))))); done)); clear k1; intro k1) | (with_reducible replace k1 := Blk.later hb (Blk.set (Blk.set k1))) | (with_reducible replace k1 := Blk.later hb (Blk.set k1))); clear a1 b1; obtain ⟨a1, b1⟩ := k1.read; have zl := k1.lt)); (try (have zk := k2.lt; (first | ((with_reducible refine Blk.keepG hb k2 (fun h => ?_) ?_); (focus ((repeat' (first | (with_reducible assumption) | ((with_reducible refine Blk.new ?_); first | rfl | (simp; done)) | (with_reducible refine Blk.later (by assumption) ?_) | (with_reducible refine Blk.alloc ?_) | (with_reducible refine Blk.drewN ?_) | (with_reducible refine Blk.drew ?_) | (with_reducible refine Blk.other ?_ (by first | omega | (simp; done) | (simp; omega))))); done)); clear k2; intro k2) | (with_reducible replace k2 := Blk.later hb (Blk.set (Blk.set k2))) | (with_reducible replace k2 := Blk.later hb (Blk.set k2))); clear a2 b2; obtain ⟨a2, b2⟩ := k2.read; have zl := k2.lt)); (try (have zk := k3.lt; (first | ((with_reducible refine Blk.keepG hb k3 (fun h => ?_) ?_); (focus ((repeat' (first | (with_reducible assumption) | ((with_reducible refine Blk.new ?_); first | rfl | (simp; done)) | (with_reducible refine Blk.later (by assumption) ?_) | (with_reducible refine Blk.alloc ?_) | (with_reducible refine Blk.drewN ?_) | (with_reducible refine Blk.drew ?_) | (with_reducible refine Blk.other ?_ (by first | omega | (simp; done) | (simp; omega))))); done)); clear k3; intro k3) | (with_reducible replace k3 := Blk.later hb (Blk.set (Blk.set k3))) | (with_reducible replace k3 := Blk.later hb (Blk.set k3))); clear a3 b3; obtain ⟨a3, b3⟩ := k3.read; have zl := k3.lt)); ((with_reducible have k3 := Blk.later hb (Blk.new rfl)); (try simp only [World.size_alloc, World.size_drew, World.heap_drewN] at k3); obtain ⟨a3, b3⟩ := k3.read; have zl := k3.lt); clear H3))
  exact bodyPost_ret (v := .tuple #[.agg #[.int .i64 0, .int .i64 0, .int .i64 0, .int .i64 0], .int .i64 2]) (by simp only [results, Try.results37]; go_simp) rfl ⟨rfl, by (repeat' (first | (with_reducible exact Below.refl _ _) | (with_reducible assumption) | (with_reducible refine belowThru ?_ (by assumption)) | (with_reducible refine belowAlloc ?_) | (with_reducible refine Below.setCell ?_ (by first | omega | (simp; done) | (simp; omega)) _) | (with_reducible refine Below.drew ?_) | (with_reducible refine below_drewN ?_ _)))⟩

set_option maxHeartbeats 2000000 in
theorem csp_ok (a : Option Addr) (n c : Nat) (ks : List (Int × Int)) (X D Y F M N O Q E : Int) (w : World) (HR : Hid (KRow w a n ks))
    (H1 : Hid (∀ w, KRow w a n ks → Calls Try.prog 15 #[.slice a n c, .agg #[.int .i64 X, .int .i64 D]] w fun e w' => e = .returned (.tuple #[.agg #[.int .i64 M, .int .i64 N], .int .i64 0]) ∧ Below w.heap.size w w'))
    (H2 : Hid (∀ w, KRow w a n ks → Calls Try.prog 15 #[.slice a n c, .agg #[.int .i64 Y, .int .i64 F]] w fun e w' => e = .returned (.tuple #[.agg #[.int .i64 O, .int .i64 Q], .int .i64 0]) ∧ Below w.heap.size w w'))
    (H3 : Hid (∀ w, Calls Try.prog 66 #[.agg #[.int .i64 X, .int .i64 D, .int .i64 Y, .int .i64 F]] w fun e w' => e = .returned (.int .i64 0) ∧ Below w.heap.size w w')) :
    Calls Try.prog 37 #[.slice a n c, .agg #[.int .i64 X, .int .i64 D, .int .i64 Y, .int .i64 F]] w fun e w' => e = .returned (.tuple #[.agg #[.int .i64 M, .int .i64 N, .int .i64 O, .int .i64 Q], .int .i64 0]) ∧ Below w.heap.size w w' := by
  go_enter Try.func37, Try.ntmps37
  go_wp2_with (first
    | (go_at_call 15; (with_reducible refine (H1.out _ (HR.out.later (by (repeat' (first | (with_reducible exact Below.refl _ _) | (with_reducible assumption) | (with_reducible refine belowThru ?_ (by assumption)) | (with_reducible refine belowAlloc ?_) | (with_reducible refine Below.setCell ?_ (by first | omega | (simp; done) | (simp; omega)) _) | (with_reducible refine Below.drew ?_) | (with_reducible refine below_drewN ?_ _)))))).mono ?_); rintro e w1 ⟨rfl, hb⟩; (first | ((with_reducible have k0 := Blk.later hb (Blk.alloc (Blk.new rfl))); (with_reducible have k1 := Blk.later hb (Blk.new rfl)); simp only [World.size_alloc] at k1; obtain ⟨a0, b0⟩ := k0.read; have zl := k0.lt; obtain ⟨a1, b1⟩ := k1.read; have zl := k1.lt) | ((try (have zk := k0.lt; (first | ((with_reducible refine Blk.keepG hb k0 (fun h => ?_) ?_); (focus ((repeat' (first | (with_reducible assumption) | ((with_reducible refine Blk.new ?_); first | rfl | (simp; done)) | (with_reducible refine Blk.later (by assumption) ?_) | (with_reducible refine Blk.alloc ?_) | (with_reducible refine Blk.drewN ?_) | (with_reducible refine Blk.drew ?_) | (with_reducible refine Blk.other ?_ (by first | omega | (simp; done) | (simp; omega))))); done)); clear k0; intro k0) | (with_reducible replace k0 := Blk.later hb (Blk.set (Blk.set k0))) | (with_reducible replace k0 := Blk.later hb (Blk.set k0))); clear a0 b0; obtain ⟨a0, b0⟩ := k0.read; have zl := k0.lt)); (try (have zk := k1.lt; (first | ((with_reducible refine Blk.keepG hb k1 (fun h => ?_) ?_); (focus ((repeat' (first | (with_reducible assumption) | ((with_reducible refine Blk.new ?_); first | rfl | (simp; done)) | (with_reducible refine Blk.later (by assumption) ?_) | (with_reducible refine Blk.alloc ?_) | (with_reducible refine Blk.drewN ?_) | (with_reducible refine Blk.drew ?_) | (with_reducible refine Blk.other ?_ (by first | omega | (simp; done) | (simp; omega))))); done)); clear k1; intro k1) | (with_reducible replace k1 := Blk.later hb (Blk.set (Blk.set k1))) | (with_reducible replace k1 := Blk.later hb (Blk.set k1))); clear a1 b1; obtain ⟨a1, b1⟩ := k1.read; have zl := k1.lt)); (try (have zk := k2.lt; (first | ((with_reducible refine Blk.keepG hb k2 (fun h => ?_) ?_); (focus ((repeat' (first | (with_reducible assumption) | ((with_reducible refine Blk.new ?_); first | rfl | (simp; done)) | (with_reducible refine Blk.later (by assumption) ?_) | (with_reducible refine Blk.alloc ?_) | (with_reducible refine Blk.drewN ?_) | (with_reducible refine Blk.drew ?_) | (with_reducible refine Blk.other ?_ (by first | omega | (simp; done) | (simp; omega))))); done)); clear k2; intro k2) | (with_reducible replace k2 := Blk.later hb (Blk.set (Blk.set k2))) | (with_reducible replace k2 := Blk.later hb (Blk.set k2))); clear a2 b2; obtain ⟨a2, b2⟩ := k2.read; have zl := k2.lt)); (try (have zk := k3.lt; (first | ((with_reducible refine Blk.keepG hb k3 (fun h => ?_) ?_); (focus ((repeat' (first | (with_reducible assumption) | ((with_reducible refine Blk.new ?_); first | rfl | (simp; done)) | (with_reducible refine Blk.later (by assumption) ?_) | (with_reducible refine Blk.alloc ?_) | (with_reducible refine Blk.drewN ?_) | (with_reducible refine Blk.drew ?_) | (with_reducible refine Blk.other ?_ (by first | omega | (simp; done) | (simp; omega))))); done)); clear k3; intro k3) | (with_reducible replace k3 := Blk.later hb (Blk.set (Blk.set k3))) | (with_reducible replace k3 := Blk.later hb (Blk.set k3))); clear a3 b3; obtain ⟨a3, b3⟩ := k3.read; have zl := k3.lt)))); clear H1)
    | (go_at_call 15; (with_reducible refine (H2.out _ (HR.out.later (by (repeat' (first | (with_reducible exact Below.refl _ _) | (with_reducible assumption) | (with_reducible refine belowThru ?_ (by assumption)) | (with_reducible refine belowAlloc ?_) | (with_reducible refine Below.setCell ?_ (by first | omega | (simp; done) | (simp; omega)) _) | (with_reducible refine Below.drew ?_) | (with_reducible refine below_drewN ?_ _)))))).mono ?_); rintro e w1 ⟨rfl, hb⟩; (try (have zk := k0.lt; (first | ((with_reducible refine Blk.keepG hb k0 (fun h => ?_) ?_); (focus ((repeat' (first | (with_reducible assumption) | ((with_reducible refine Blk.new ?_); first | rfl | (simp; done)) | (with_reducible refine Blk.later (by assumption) ?_) | (with_reducible refine Blk.alloc ?_) | (with_reducible refine Blk.drewN ?_) | (with_reducible refine Blk.drew ?_) | (with_reducible refine Blk.other ?_ (by first | omega | (simp; done) | (simp; omega))))); done)); clear k0; intro k0) | (with_reducible replace k0 := Blk.later hb (Blk.set (Blk.set k0))) | (with_reducible replace k0 := Blk.later hb (Blk.set k0))); clear a0 b0; obtain ⟨a0, b0⟩ := k0.read; have zl := k0.lt)); (try (have zk := k1.lt; (first | ((with_reducible refine Blk.keepG hb k1 (fun h => ?_) ?_); (focus ((repeat' (first | (with_reducible assumption) | ((with_reducible refine Blk.new ?_); first | rfl | (simp; done)) | (with_reducible refine Blk.later (by assumption) ?_) | (with_reducible refine Blk.alloc ?_) | (with_reducible refine Blk.drewN ?_) | (with_reducible refine Blk.drew ?_) | (with_reducible refine Blk.other ?_ (by first | omega | (simp; done) | (simp; omega))))); done)); clear k1; intro k1) | (with_reducible replace k1 := Blk.later hb (Blk.set (Blk.set k1))) | (with_reducible replace k1 := Blk.later hb (Blk.set k1))); clear a1 b1; obtain ⟨a1, b1⟩ := k1.read; have zl := k1.lt)); (try (have zk := k2.lt; (first | ((with_reducible refine Blk.keepG hb k2 (fun h => ?_) ?_); (focus ((repeat' (first | (with_reducible assumption) | ((with_reducible refine Blk.new ?_); first | rfl | (simp; done)) | (with_reducible refine Blk.later (by assumption) ?_) | (with_reducible refine Blk.alloc ?_) | (with_reducible refine Blk.drewN ?_) | (with_reducible refine Blk.drew ?_) | (with_reducible refine Blk.other ?_ (by first | omega | (simp; done) | (simp; omega))))); done)); clear k2; intro k2) | (with_reducible replace k2 := Blk.later hb (Blk.set (Blk.set k2))) | (with_reducible replace k2 := Blk.later hb (Blk.set k2))); clear a2 b2; obtain ⟨a2, b2⟩ := k2.read; have zl := k2.lt)); (try (have zk := k3.lt; (first | ((with_reducible refine Blk.keepG hb k3 (fun h => ?_) ?_); (focus ((repeat' (first | (with_reducible assumption) | ((with_reducible refine Blk.new ?_); first | rfl | (simp; done)) | (with_reducible refine Blk.later (by assumption) ?_) | (with_reducible refine Blk.alloc ?_) | (with_reducible refine Blk.drewN ?_) | (with_reducible refine Blk.drew ?_) | (with_reducible refine Blk.other ?_ (by first | omega | (simp; done) | (simp; omega))))); done)); clear k3; intro k3) | (with_reducible replace k3 := Blk.later hb (Blk.set (Blk.set k3))) | (with_reducible replace k3 := Blk.later hb (Blk.set k3))); clear a3 b3; obtain ⟨a3, b3⟩ := k3.read; have zl := k3.lt)); ((with_reducible have k2 := Blk.later hb (Blk.new rfl)); (try simp only [World.size_alloc, World.size_drew, World.heap_drewN] at k2); obtain ⟨a2, b2⟩ := k2.read; have zl := k2.lt); clear H2)
    | (go_at_call 66; (with_reducible refine (H3.out _).mono ?_); rintro e w1 ⟨rfl, hb⟩; (try (have zk := k0.lt; (first | ((with_reducible refine Blk.keepG hb k0 (fun h => ?_) ?_); (focus ((repeat' (first | (with_reducible assumption) | ((with_reducible refine Blk.new ?_); first | rfl | (simp; done)) | (with_reducible refine Blk.later (by assumption) ?_) | (with_reducible refine Blk.alloc ?_) | (with_reducible refine Blk.drewN ?_) | (with_reducible refine Blk.drew ?_) | (with_reducible refine Blk.other ?_ (by first | omega | (simp; done) | (simp; omega))))); done)); clear k0; intro k0) | (with_reducible replace k0 := Blk.later hb (Blk.set (Blk.set k0))) | (with_reducible replace k0 := Blk.later hb (Blk.set k0))); clear a0 b0; obtain ⟨a0, b0⟩ := k0.read; have zl := k0.lt)); (try (have zk := k1.lt; (first | ((with_reducible refine Blk.keepG hb k1 (fun h => ?_) ?_); (focus ((repeat' (first | (with_reducible assumption) | ((with_reducible refine Blk.new ?_); first | rfl | (simp; done)) | (with_reducible refine Blk.later (by assumption) ?_) | (with_reducible refine Blk.alloc ?_) | (with_reducible refine Blk.drewN ?_) | (with_reducible refine Blk.drew ?_) | (with_reducible refine Blk.other ?_ (by first | omega | (simp; done) | (simp; omega))))); done)); clear k1; intro k1) | (with_reducible replace k1 := Blk.later hb (Blk.set (Blk.set k1))) | (with_reducible replace k1 := Blk.later hb (Blk.set k1))); clear a1 b1; obtain ⟨a1, b1⟩ := k1.read; have zl := k1.lt)); (try (have zk := k2.lt; (first | ((with_reducible refine Blk.keepG hb k2 (fun h => ?_) ?_); (focus ((repeat' (first | (with_reducible assumption) | ((with_reducible refine Blk.new ?_); first | rfl | (simp; done)) | (with_reducible refine Blk.later (by assumption) ?_) | (with_reducible refine Blk.alloc ?_) | (with_reducible refine Blk.drewN ?_) | (with_reducible refine Blk.drew ?_) | (with_reducible refine Blk.other ?_ (by first | omega | (simp; done) | (simp; omega))))); done)); clear k2; intro k2) | (with_reducible replace k2 := Blk.later hb (Blk.set (Blk.set k2))) | (with_reducible replace k2 := Blk.later hb (Blk.set k2))); clear a2 b2; obtain ⟨a2, b2⟩ := k2.read; have zl := k2.lt)); (try (have zk := k3.lt; (first | ((with_reducible refine Blk.keepG hb k3 (fun h => ?_) ?_); (focus ((repeat' (first | (with_reducible assumption) | ((with_reducible refine Blk.new ?_); first | rfl | (simp; done)) | (with_reducible refine Blk.later (by assumption) ?_) | (with_reducible refine Blk.alloc ?_) | (with_reducible refine Blk.drewN ?_) | (with_reducible refine Blk.drew ?_) | (with_reducible refine Blk.other ?_ (by first | omega | (simp; done) | (simp; omega))))); done)); clear k3; intro k3) | (with_reducible replace k3 := Blk.later hb (Blk.set (Blk.set k3))) | (with_reducible replace k3 := Blk.later hb (Blk.set k3))); clear a3 b3; obtain ⟨a3, b3⟩ := k3.read; have zl := k3.lt)); ((with_reducible have k3 := Blk.later hb (Blk.new rfl)); (try simp only [World.size_alloc, World.size_drew, World.heap_drewN] at k3); obtain ⟨a3, b3⟩ := k3.read; have zl := k3.lt); clear H3))
  exact bodyPost_ret (v := .tuple #[.agg #[.int .i64 M, .int .i64 N, .int .i64 O, .int .i64 Q], .int .i64 0]) (by simp only [results, Try.results37]; go_simp) rfl ⟨rfl, by (repeat' (first | (with_reducible exact Below.refl _ _) | (with_reducible assumption) | (with_reducible refine belowThru ?_ (by assumption)) | (with_reducible refine belowAlloc ?_) | (with_reducible refine Below.setCell ?_ (by first | omega | (simp; done) | (simp; omega)) _) | (with_reducible refine Below.drew ?_) | (with_reducible refine below_drewN ?_ _)))⟩

end Go.Proofs.Ytbdcmdofmokoeaa
/-
  Layer 4: both sides answer alike: corrected and distorted places, corrected spans; a copy of a table.
-/
namespace Go.Proofs.Ytbdcmdofmokoeaa
open Go.RowKit
set_option linter.unusedVariables false
set_option linter.unusedSimpArgs false

/-- A call with a table, whatever slice it is. -/
def CalK (F : FuncId) (ks : List (Int × Int)) (arg : List Value) (v : Value) : Prop :=
  ∀ (a : Option Addr) (n c : Nat) (w : World), n ≤ 1000 → KRow w a n ks → Calls Try.prog F (#[.slice a n c] ++ arg.toArray) w fun e w' => e = .returned v ∧ Below w.heap.size w w'
def M64 (a : Int) : Prop := -9223372036854775808 ≤ a ∧ a ≤ 9223372036854775807

theorem wp_append_slot {P : Program} {o : Oper} {act : Act} {K : Act → World → Prop} {Q : Exit → Act → World → Prop} {w : World} (s x : Operand) (t : TypeId) (R : Value → World → Prop)
    (ho : o.op = .call { callee := .builtin .append, args := #[s, x], argTypes := #[t, t] }) (v u : Value) (hs : act.eval s = v) (hx : act.eval x = u)
    (hr : ∃ r w', (Builtin.append_ #[t, t] o.type #[v, u]).run P w = .ok r w' ∧ R r w')
    (h : ∀ r w', R r w' → K (act.put o.dst r) w') : o.wp P act w K Q := by
  obtain ⟨r, w', hrun, hR⟩ := hr
  unfold Oper.wp execOp
  simp only [ho, resolve, invoke, builtin, Sem.run_bind, Sem.run_pure, Result.andThen_ok, List.map_toArray, List.map_cons, List.map_nil, hs, hx, hrun]
  exact h r w' hR
theorem wpList_append_slot {P : Program} {ops : Array Oper} {rest : List Oper} {o : Oper} {act : Act} {Q : Exit → Act → World → Prop} {w : World} (hgd : o.guard = none) (s x : Operand) (t : TypeId) (R : Value → World → Prop)
    (ho : o.op = .call { callee := .builtin .append, args := #[s, x], argTypes := #[t, t] }) (v u : Value) (hs : act.eval s = v) (hx : act.eval x = u)
    (hr : ∃ r w', (Builtin.append_ #[t, t] o.type #[v, u]).run P w = .ok r w' ∧ R r w')
    (h : ∀ r w', R r w' → wpList P ops Q rest (act.put o.dst r) w') : wpList P ops Q (o :: rest) act w :=
  wpList_plain hgd fun _ hK => wp_append_slot s x t R ho v u hs hx hr fun r w' hR => hK _ _ (h r w' hR)
end Go.Proofs.Ytbdcmdofmokoeaa
/-
  Layer 4: corrected and distorted places, by the code: which values.
-/
namespace Go.Proofs.Ytbdcmdofmokoeaa
open Go.RowKit
set_option linter.unusedVariables false
set_option linter.unusedSimpArgs false

theorem seg_one {ks : List (Int × Int)} (h : okT ks) {X D : Int} (hD : 0 ≤ D) {i j : Nat} (a : Seg ks X D i) (b : Seg ks X D j) : i = j := by
  rcases Nat.lt_trichotomy i j with c | c | c
  · have h1 := b.2.1 i c
    have h2 := a.2.2
    omega
  · exact c
  · have h1 := a.2.1 j c
    have h2 := b.2.2
    omega
open Classical in
/-- The part of a table that a place lies in. -/
noncomputable def segI (ks : List (Int × Int)) (X D : Int) : Nat := if h : ∃ i, Seg ks X D i then Classical.choose h else 0
theorem segI_of {ks : List (Int × Int)} (h : okT ks) {X D : Int} (hD : 0 ≤ D) {i : Nat} (a : Seg ks X D i) : segI ks X D = i := by
  have hx : ∃ i, Seg ks X D i := ⟨i, a⟩
  unfold segI
  rw [dif_pos hx]
  exact seg_one h hD (Classical.choose_spec hx) a
/-- The corrected place. -/
noncomputable def coQ (ks : List (Int × Int)) (X D : Int) : Rat := mkR (segN ks X D (segI ks X D)) (segD ks D (segI ks X D))
theorem coQ_of {ks : List (Int × Int)} (h : okT ks) {X D : Int} (hD : 0 ≤ D) {i : Nat} (a : Seg ks X D i) : coQ ks X D = mkR (segN ks X D i) (segD ks D i) := by unfold coQ; rw [segI_of h hD a]
theorem corrected_val {ks : List (Int × Int)} {X D : Int} (hk : okT ks) (hx : okX ks X D) :
    CalK 53 ks [.agg #[.int .i64 X, .int .i64 D]] (.agg #[.int .i64 (fn (coQ ks X D)), .int .i64 (fd (coQ ks X D))]) := by
  obtain ⟨hD, hXb⟩ := hx.bounds hk
  have hl := hk.1
  obtain ⟨i, hs⟩ := seg_ex hk hx.2.2.2
  have hi2 := hs.1
  have t0 := hk.inT (i := i) (by omega)
  have t1 := hk.inT (i := i + 1) (by omega)
  have hlt := (hk.lt (i := i) (by omega)).1
  obtain ⟨⟨⟨g1, g2⟩, g3, g4⟩, ⟨g5, g6⟩, ⟨g7, g8⟩, ⟨g9, g10⟩, ⟨g11, g12⟩, ⟨g13, g14⟩, ⟨g15, g16⟩, g17, g18⟩ := seg_bounds t0.1 t1.1 t0.2 t1.2 hD hXb
  have hd0 : (at1 ks (i + 1) - at1 ks i) * D ≠ 0 := by
    have := Int.mul_pos (show 0 < at1 ks (i + 1) - at1 ks i by omega) (show 0 < D by omega)
    omega
  have e : coQ ks X D = mkR (to1 ks i * (at1 ks (i + 1) - at1 ks i) * D + (X - at1 ks i * D) * (to1 ks (i + 1) - to1 ks i)) ((at1 ks (i + 1) - at1 ks i) * D) := coQ_of hk (by omega) hs
  rw [e]
  intro a n c w hn hR
  obtain ⟨bb, oo, rfl, hb, hc⟩ := hR.cells (by have := hR.1; omega)
  obtain ⟨m, rfl⟩ : ∃ m, n = m + 2 := ⟨n - 2, by have := hR.1; omega⟩
  have hlm : ks.length = m + 2 := hR.1
  refine corrected_walk i m c bb oo X D (at1 ks i) (at1 ks (i + 1)) (to1 ks i) (to1 ks (i + 1)) _ _ 0 w (by omega) (by omega) g1 g2 g3 g4 g5 g6 g7 g8 g9 g10 g11 g12 g13 g14 g15 g16
    (Lib.hid (hc i (by omega)).1) (Lib.hid (hc i (by omega)).2) (Lib.hid (hc (i + 1) (by omega)).1) (Lib.hid (hc (i + 1) (by omega)).2) (Lib.hid fun w1 kA kB hB => ?_)
    (Lib.hid fun w => make_q' _ _ hd0 (by omega) (by omega) (by omega) (by omega) w)
  refine search_any 86 #[.pointer (some ⟨w.heap.size + 1, 0, none⟩), .pointer (some ⟨w.heap.size, 0, none⟩)] m i (fun t => decide (X ≤ at1 ks (t + 1) * D)) w1 (fun _ _ => by kernel_rfl) (by omega) (by omega) (fun w2 t hB2 ht => ?_) (fun t ht => decide_eq_false (by have := hs.2.1 t ht; omega)) (fun t h1 h2 => decide_eq_true (hs.later hk (by omega) h1 (by omega)))
  have kA2 := Blk.later hB2 kA
  have kB2 := Blk.later hB2 kB
  have tt := (hk.inT (i := t + 1) (by omega)).1
  have hq := mul_bd (A := 4096) (B := 1048576) (a := at1 ks (t + 1)) (b := D) tt.1 tt.2 (by omega) hD.2
  exact corF_any t (m + 2) c bb oo w.heap.size (w.heap.size + 1) X D (at1 ks (t + 1)) (by omega) (by omega) (by omega) (by omega) w2 (by rw [kB2.cells]; rfl) (by rw [kB2.cells]; rfl) (by rw [kA2.cells]; rfl)
    (cell_later (belowThru hB hB2) (hc (t + 1) (by omega)).1)
theorem coQ_fits {ks : List (Int × Int)} {X D : Int} (hk : okT ks) (hx : okX ks X D) : fits (coQ ks X D) := by
  obtain ⟨hD, hXb⟩ := hx.bounds hk
  have hl := hk.1
  obtain ⟨i, hs⟩ := seg_ex hk hx.2.2.2
  have hi2 := hs.1
  have t0 := hk.inT (i := i) (by omega)
  have t1 := hk.inT (i := i + 1) (by omega)
  have hlt := (hk.lt (i := i) (by omega)).1
  obtain ⟨⟨⟨g1, g2⟩, g3, g4⟩, ⟨g5, g6⟩, ⟨g7, g8⟩, ⟨g9, g10⟩, ⟨g11, g12⟩, ⟨g13, g14⟩, ⟨g15, g16⟩, g17, g18⟩ := seg_bounds t0.1 t1.1 t0.2 t1.2 hD hXb
  have hd0 : (at1 ks (i + 1) - at1 ks i) * D ≠ 0 := by
    have := Int.mul_pos (show 0 < at1 ks (i + 1) - at1 ks i by omega) (show 0 < D by omega)
    omega
  rw [coQ_of hk (by omega) hs]
  exact mkR_fits' _ _ hd0 (by unfold segD; omega) (by unfold segD; omega) (by unfold segN; omega) (by unfold segN; omega)
open Classical in
noncomputable def coE (ks : List (Int × Int)) (X D : Int) : Int := if ¬ okT ks then 40 else if ¬ okX ks X D then 2 else 0
noncomputable def coN (ks : List (Int × Int)) (X D : Int) : Int := if coE ks X D = 0 then fn (coQ ks X D) else 0
noncomputable def coD (ks : List (Int × Int)) (X D : Int) : Int := if coE ks X D = 0 then fd (coQ ks X D) else 0
theorem coE_tab {ks : List (Int × Int)} {X D : Int} (h : ¬ okT ks) : coE ks X D = 40 := if_pos h
theorem coE_arg {ks : List (Int × Int)} {X D : Int} (h : okT ks) (h2 : ¬ okX ks X D) : coE ks X D = 2 := (if_neg (fun k => k h)).trans (if_pos h2)
theorem coE_ok {ks : List (Int × Int)} {X D : Int} (h : okT ks) (h2 : okX ks X D) : coE ks X D = 0 := (if_neg (fun k => k h)).trans (if_neg (fun k => k h2))
theorem coE_zero {ks : List (Int × Int)} {X D : Int} (h : coE ks X D = 0) : okT ks ∧ okX ks X D := by
  by_cases h1 : okT ks
  · by_cases h2 : okX ks X D
    · exact ⟨h1, h2⟩
    · rw [coE_arg h1 h2] at h; cases h
  · rw [coE_tab h1] at h; cases h
def cofV (N D E : Int) : Value := .tuple #[.agg #[.int .i64 N, .int .i64 D], .int .i64 E]
theorem cov_any {ks : List (Int × Int)} {X D : Int} (hk : okT ks) (hX : M64 X) : ∃ v : Bool, (v = true ↔ okX ks X D) ∧ CalK 52 ks [.agg #[.int .i64 X, .int .i64 D]] (.bool v) := by
  have hl := hk.1
  by_cases hf : okF X D
  · have hck : ∀ w, Calls Try.prog 76 #[.agg #[.int .i64 X, .int .i64 D]] w fun e w' => e = .returned (.int .i64 0) ∧ Below w.heap.size w w' := fun w => by have := check_any X D w; rwa [ck_ok hf] at this
    by_cases hD : D ≤ 1048576
    · have hD1 : 1 ≤ D := hf.1
      have t0 := (hk.inT (i := 0) (by omega)).1
      have t1 := (hk.inT (i := ks.length - 1) (by omega)).1
      have q0 := mul_bd (A := 4096) (B := 1048576) (a := at1 ks 0) (b := D) t0.1 t0.2 (by omega) hD
      have q1 := mul_bd (A := 4096) (B := 1048576) (a := at1 ks (ks.length - 1)) (b := D) t1.1 t1.2 (by omega) hD
      refine ⟨decide (at1 ks 0 * D ≤ X ∧ X ≤ at1 ks (ks.length - 1) * D), ⟨fun h => ⟨hf, hD, of_decide_eq_true h⟩, fun h => decide_eq_true h.2.2⟩, fun a n c w hn hR => ?_⟩
      obtain ⟨bb, oo, rfl, hb, hc⟩ := hR.cells (by have := hR.1; omega)
      obtain ⟨m, rfl⟩ : ∃ m, n = m + 1 := ⟨n - 1, by have := hR.1; omega⟩
      have hlm : ks.length = m + 1 := hR.1
      have hm : ks.length - 1 = m := by omega
      rw [hm] at q1 ⊢
      have h0 := (hc 0 (by omega)).1
      rw [Nat.zero_mul, Nat.add_zero] at h0
      exact covers_walk m c bb oo X D (at1 ks 0) (at1 ks m) _ w (by omega) hD (by omega) (by omega) (by omega) (by omega) (Lib.hid h0) (Lib.hid (hc m (by omega)).1) (Lib.hid hck) (Lib.hid fun B w h => jwithin_one _ _ X B w h)
    · exact ⟨false, ⟨fun h => Bool.noConfusion h, fun h => absurd h.2.1 hD⟩, fun a n c w hn hR => covers_den a n c X D w (by omega) (Lib.hid hck)⟩
  · have hck : ∀ w, Calls Try.prog 76 #[.agg #[.int .i64 X, .int .i64 D]] w fun e w' => e = .returned (.int .i64 8) ∧ Below w.heap.size w w' := fun w => by have := check_any X D w; rwa [ck_no hf] at this
    exact ⟨false, ⟨fun h => Bool.noConfusion h, fun h => absurd h.1 hf⟩, fun a n c w hn hR => covers_bad a n c X D w (Lib.hid hck)⟩
theorem cor_any (ks : List (Int × Int)) (X D : Int) (hX : M64 X) : CalK 15 ks [.agg #[.int .i64 X, .int .i64 D]] (cofV (coN ks X D) (coD ks X D) (coE ks X D)) := by
  by_cases hk : okT ks
  · obtain ⟨v, hv, h1⟩ := cov_any hk hX (D := D)
    by_cases hx : okX ks X D
    · obtain rfl : v = true := hv.2 hx
      have e := coE_ok hk hx
      unfold coN coD
      rw [e, if_pos rfl, if_pos rfl]
      exact fun a n c w hn hR => cor_ok a n c ks X D _ _ w (Lib.hid hR) (Lib.hid fun w h => checkKnots_yes hk w h) (Lib.hid fun w h => h1 a n c w hn h) (Lib.hid fun w h => corrected_val hk hx a n c w hn h)
    · obtain rfl : v = false := by cases v; rfl; exact absurd (hv.1 rfl) hx
      have e := coE_arg hk hx
      unfold coN coD
      rw [e, if_neg (by decide), if_neg (by decide)]
      exact fun a n c w hn hR => cor_x a n c ks X D w (Lib.hid hR) (Lib.hid fun w h => checkKnots_yes hk w h) (Lib.hid fun w h => h1 a n c w hn h)
  · have e := coE_tab hk (X := X) (D := D)
    unfold coN coD
    rw [e, if_neg (by decide), if_neg (by decide)]
    exact fun a n c w hn hR => cor_t a n c ks X D w (Lib.hid hR) (Lib.hid fun w h => checkKnots_no (by unfold maxLen; omega) hk w h)
theorem dis_any (ks : List (Int × Int)) (X D : Int) (hX : M64 X) (hl : ks.length ≤ 1000) : CalK 36 ks [.agg #[.int .i64 X, .int .i64 D]] (cofV (coN (ks.map swp) X D) (coD (ks.map swp) X D) (coE (ks.map swp) X D)) :=
  fun a n c w hn hR => dis_ok a n c ks _ X D _ _ _ w (Lib.hid hR) (Lib.hid fun w h => exchanged_any a n c ks hn w h) (Lib.hid fun a c w h => cor_any (ks.map swp) X D hX a _ c w (by simpa using hl) h)
theorem csp_any (ks : List (Int × Int)) (X D Y F : Int) (hX : M64 X) (hY : M64 Y) : ∃ M N O Q E : Int,
    CalK 37 ks [.agg #[.int .i64 X, .int .i64 D, .int .i64 Y, .int .i64 F]] (.tuple #[.agg #[.int .i64 M, .int .i64 N, .int .i64 O, .int .i64 Q], .int .i64 E]) ∧
      (E = 0 → (coE ks X D = 0 ∧ coE ks Y F = 0 ∧ okS X D Y F) ∧ (M = coN ks X D ∧ N = coD ks X D) ∧ O = coN ks Y F ∧ Q = coD ks Y F) := by
  by_cases h1 : coE ks X D = 0
  · have HA : ∀ (a : Option Addr) (n c : Nat) (w : World), n ≤ 1000 → KRow w a n ks → Calls Try.prog 15 #[.slice a n c, .agg #[.int .i64 X, .int .i64 D]] w fun e w' => e = .returned (.tuple #[.agg #[.int .i64 (coN ks X D), .int .i64 (coD ks X D)], .int .i64 0]) ∧ Below w.heap.size w w' := by
      intro a n c w hn hR; have := cor_any ks X D hX a n c w hn hR; unfold cofV at this; rwa [h1] at this
    by_cases h2 : coE ks Y F = 0
    · have HB : ∀ (a : Option Addr) (n c : Nat) (w : World), n ≤ 1000 → KRow w a n ks → Calls Try.prog 15 #[.slice a n c, .agg #[.int .i64 Y, .int .i64 F]] w fun e w' => e = .returned (.tuple #[.agg #[.int .i64 (coN ks Y F), .int .i64 (coD ks Y F)], .int .i64 0]) ∧ Below w.heap.size w w' := by
        intro a n c w hn hR; have := cor_any ks Y F hY a n c w hn hR; unfold cofV at this; rwa [h2] at this
      by_cases h3 : okS X D Y F
      · exact ⟨_, _, _, _, 0, fun a n c w hn hR => csp_ok a n c ks X D Y F _ _ _ _ 0 w (Lib.hid hR) (Lib.hid fun w h => HA a n c w hn h) (Lib.hid fun w h => HB a n c w hn h) (Lib.hid fun w => by have := checkSpan_any X D Y F w; rwa [okS_ck h3] at this), fun _ => ⟨⟨h1, h2, h3⟩, ⟨rfl, rfl⟩, rfl, rfl⟩⟩
      · exact ⟨0, 0, 0, 0, 2, fun a n c w hn hR => csp_s a n c ks X D Y F (coN ks X D) (coD ks X D) (coN ks Y F) (coD ks Y F) 0 w (Lib.hid hR) (Lib.hid fun w h => HA a n c w hn h) (Lib.hid fun w h => HB a n c w hn h) (Lib.hid fun w => by have := checkSpan_any X D Y F w; rwa [ckS_no h3] at this), fun h => by cases h⟩
    · have HB : ∀ (a : Option Addr) (n c : Nat) (w : World), n ≤ 1000 → KRow w a n ks → Calls Try.prog 15 #[.slice a n c, .agg #[.int .i64 Y, .int .i64 F]] w fun e w' => e = .returned (.tuple #[.agg #[.int .i64 0, .int .i64 0], .int .i64 (coE ks Y F)]) ∧ Below w.heap.size w w' := by
        intro a n c w hn hR; have := cor_any ks Y F hY a n c w hn hR; unfold cofV coN coD at this; rwa [if_neg h2, if_neg h2] at this
      exact ⟨0, 0, 0, 0, coE ks Y F, fun a n c w hn hR => csp_hi a n c ks X D Y F (coN ks X D) (coD ks X D) 0 0 (coE ks Y F) w (Lib.hid hR) (by simpa using h2) (Lib.hid fun w h => HA a n c w hn h) (Lib.hid fun w h => HB a n c w hn h), fun h => absurd h h2⟩
  · have HA : ∀ (a : Option Addr) (n c : Nat) (w : World), n ≤ 1000 → KRow w a n ks → Calls Try.prog 15 #[.slice a n c, .agg #[.int .i64 X, .int .i64 D]] w fun e w' => e = .returned (.tuple #[.agg #[.int .i64 0, .int .i64 0], .int .i64 (coE ks X D)]) ∧ Below w.heap.size w w' := by
      intro a n c w hn hR; have := cor_any ks X D hX a n c w hn hR; unfold cofV coN coD at this; rwa [if_neg h1, if_neg h1] at this
    exact ⟨0, 0, 0, 0, coE ks X D, fun a n c w hn hR => csp_lo a n c ks X D Y F 0 0 0 0 (coE ks X D) w (Lib.hid hR) (by simpa using h1) (Lib.hid fun w h => HA a n c w hn h), fun h => absurd h h1⟩
end Go.Proofs.Ytbdcmdofmokoeaa
/-
  Layer 1: whether an enclosure contains a number, for any arguments.
-/
namespace Go.Proofs.Ytbdcmdofmokoeaa
open Go.RowKit

/-- Whether a number is in an enclosure, for any arguments. -/
theorem in_any (a b c d x y : Int) : ∃ (p : Bool) (e : Int), (∀ w, Calls Try.prog 38 #[.agg #[.int .i64 a, .int .i64 b, .int .i64 c, .int .i64 d], .agg #[.int .i64 x, .int .i64 y]] w fun e' w' => e' = .returned (.tuple #[.bool p, .int .i64 e]) ∧ Below w.heap.size w w') ∧
    ((p = false ∧ e = 8 ∧ ¬ (okS a b c d ∧ okF x y)) ∨ (e = 0 ∧ ∃ l h z : Rat, fits l ∧ fits h ∧ fits z ∧ l ≤ h ∧ a = fn l ∧ b = fd l ∧ c = fn h ∧ d = fd h ∧ x = fn z ∧ y = fd z ∧ p = hasQ l h z)) := by
  by_cases hs : okS a b c d
  · by_cases hx : okF x y
    · obtain ⟨l, h, fl, fh, rfl, rfl, rfl, rfl, hlh⟩ := hs
      obtain ⟨z, fz, rfl, rfl⟩ := (okF_iff _ _).1 hx
      exact ⟨_, 0, in_q l h z fl fh fz hlh, .inr ⟨rfl, l, h, z, fl, fh, fz, hlh, rfl, rfl, rfl, rfl, rfl, rfl, rfl⟩⟩
    · exact ⟨false, 8, in_bad2 a b c d x y hs hx, .inl ⟨rfl, rfl, fun k => hx k.2⟩⟩
  · exact ⟨false, 8, in_bad1 a b c d x y hs, .inl ⟨rfl, rfl, fun k => hs k.1⟩⟩
theorem hasQ_iff {l h z : Rat} : hasQ l h z = true ↔ l ≤ z ∧ z ≤ h := by
  unfold hasQ; rw [Bool.and_eq_true, decide_eq_true_iff, decide_eq_true_iff]
end Go.Proofs.Ytbdcmdofmokoeaa
