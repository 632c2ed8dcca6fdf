/-
  The texts that the laws of this seat share, merged: part 7.
-/
import Derived.BigQuiet
import Derived.Deep.CutRange
import Derived.Deep.DeepCutAuto
import Derived.Deep.Draws
import Derived.Deep.OwnRows
import Derived.Deep.QuietTactic
import Derived.Deep.RegionHeld3
import Derived.Laws.AppendOwn
import Derived.Laws.EntriesVeiled
import Derived.Lib.Hide
import Derived.LoopIn
import Derived.LoopNIn
import Derived.Maps.AppendAt
import Derived.OneCell
import Derived.Orders
import Derived.OwnWalkIn
import Derived.RangeFuncBound
import Derived.RangeFuncCalls
import Derived.RangeFuncLeaves
import Derived.RangeFuncNested
import Derived.Shelf.Abstract
import Derived.Shelf.AbstractIn
import Derived.Shelf.RegionOpen
import Derived.StillTailTactics
import Derived.TacticsInMore
import Derived.Test.YtghmjdmiaajbnaaProg
import Derived.WalkKit
import Derived.WalkSmall
import Derived.WalkSpells
import Derived.Test.YtghmjdmiaajbnaaM1
import Derived.Test.YtghmjdmiaajbnaaM2
import Derived.Test.YtghmjdmiaajbnaaM3
import Derived.Test.YtghmjdmiaajbnaaM6
/-
  Layer 2: whether all values of an image, or all factors of a kernel, are small.
-/
namespace Go.Proofs.Ytghmjdmiaajbnaa
open Go.RowKit
set_option linter.unusedVariables false
set_option linter.unusedSimpArgs false

/-- The first numbers are from -M to M. -/
def modN (zs : List Int) (M : Int) (k : Nat) : Prop := ∀ j : Nat, j < k → -M ≤ zs[j]?.getD 0 ∧ zs[j]?.getD 0 ≤ M
instance (zs : List Int) (M : Int) (k : Nat) : Decidable (modN zs M k) := inferInstanceAs (Decidable (∀ j : Nat, j < k → _))
theorem modN.snoc {zs : List Int} {M : Int} {k : Nat} {u : Int} (h : modN zs M k) (hu : zs[k]? = some u) (h1 : -M ≤ u) (h2 : u ≤ M) : modN zs M (k + 1) := by
  intro j hj
  by_cases e : j = k
  · subst e; rw [hu]; exact ⟨h1, h2⟩
  · exact h j (by omega)
set_option maxRecDepth 100000 in
set_option maxHeartbeats 4000000 in
theorem modest_any (W H M : Int) (hM0 : 0 ≤ M) (hM1 : M ≤ 1000000) (a : Option Addr) (n c : Nat) (zs : List Int) (hn : n ≤ maxLen) (w : World) (hR : Row w a n (iv zs)) :
    Calls Try.prog 45 #[.agg #[.int .i64 W, .int .i64 H, .slice a n c], .int .i64 M] w fun e w' => e = .returned (.bool (decide (modN zs M n))) ∧ Below w.heap.size w w' := by
  unfold maxLen at hn
  have HR := Lib.hid hR
  clear hR
  go_enter Try.func45, Try.ntmps45
  go_wp2
  have kA : Blk (w.alloc (.cells #[.int .i64 W, .int .i64 H, .slice a n c] 24)) w.heap.size #[.int .i64 W, .int .i64 H, .slice a n c] 24 := by (repeat' (first | (with_reducible assumption) | ((with_reducible refine Blk.new ?_); first | rfl | (simp; done)) | (with_reducible refine Blk.later (by assumption) ?_) | (with_reducible refine Blk.alloc ?_) | (with_reducible refine Blk.drewN ?_) | (with_reducible refine Blk.drew ?_) | (with_reducible refine Blk.other ?_ (by first | omega | (simp; done) | (simp; omega)))))
  go_loopw [5] (fun i wr => ∃ k : Nat, k ≤ n ∧ i = .int .i64 k ∧ Hid (modN zs M k) ∧ Blk wr w.heap.size #[.int .i64 W, .int .i64 H, .slice a n c] 24 ∧ Below w.heap.size w wr) (fun i _ => n - (intOf i).toNat)
  case atStart => exact ⟨0, Nat.zero_le _, rfl, (show modN zs M 0 from fun j h => absurd h (by omega)), kA, by (repeat' (first | (with_reducible exact Below.refl _ _) | (with_reducible assumption) | (with_reducible refine belowThru ?_ (by assumption)) | (with_reducible refine belowAlloc ?_) | (with_reducible refine Below.setCell ?_ (by first | omega | (simp; done) | (simp; omega)) _) | (with_reducible refine Below.drew ?_) | (with_reducible refine below_drewN ?_ _)))⟩
  case round =>
    clear kA
    obtain ⟨k, hk, rfl, ht, kA, hB⟩ := hrel
    obtain ⟨aA, bA⟩ := kA.read
    by_cases hlt : k < n
    · obtain ⟨b1, o1, z1, rfl, l1, h1, c1⟩ := HR.out.int hlt
      have c1 := cell_later hB c1
      have p0 : (0 : Int) ≤ (k : Int) := by omega
      have p1 : (k : Int) < (n : Int) := by omega
      by_cases he : z1 < -M
      · have HZ : Hid (decide (modN zs M n) = false) := decide_eq_false (fun h => by have := (h k hlt).1; rw [h1] at this; dsimp only [Option.getD_some] at this; omega)
        clear h1 ht
        go_wp2
        go_ret
        exact ⟨by first | rfl | (rw [HZ.out]; first | rfl | simp), by (repeat' (first | (with_reducible exact Below.refl _ _) | (with_reducible assumption) | (with_reducible refine belowThru ?_ (by assumption)) | (with_reducible refine belowAlloc ?_) | (with_reducible refine Below.setCell ?_ (by first | omega | (simp; done) | (simp; omega)) _) | (with_reducible refine Below.drew ?_) | (with_reducible refine below_drewN ?_ _)))⟩
      · by_cases he2 : M < z1
        · have HZ : Hid (decide (modN zs M n) = false) := decide_eq_false (fun h => by have := (h k hlt).2; rw [h1] at this; dsimp only [Option.getD_some] at this; omega)
          clear h1 ht
          go_wp2
          go_ret
          exact ⟨by first | rfl | (rw [HZ.out]; first | rfl | simp), by (repeat' (first | (with_reducible exact Below.refl _ _) | (with_reducible assumption) | (with_reducible refine belowThru ?_ (by assumption)) | (with_reducible refine belowAlloc ?_) | (with_reducible refine Below.setCell ?_ (by first | omega | (simp; done) | (simp; omega)) _) | (with_reducible refine Below.drew ?_) | (with_reducible refine below_drewN ?_ _)))⟩
        · have ht' : Hid (modN zs M (k + 1)) := ht.out.snoc h1 (by omega) (by omega)
          clear h1 ht
          go_wp2
          go_roundw
          case rel => exact ⟨k + 1, hlt, by go_num, ht', by (repeat' (first | (with_reducible assumption) | ((with_reducible refine Blk.new ?_); first | rfl | (simp; done)) | (with_reducible refine Blk.later (by assumption) ?_) | (with_reducible refine Blk.alloc ?_) | (with_reducible refine Blk.drewN ?_) | (with_reducible refine Blk.drew ?_) | (with_reducible refine Blk.other ?_ (by first | omega | (simp; done) | (simp; omega))))), by (repeat' (first | (with_reducible exact Below.refl _ _) | (with_reducible assumption) | (with_reducible refine belowThru ?_ (by assumption)) | (with_reducible refine belowAlloc ?_) | (with_reducible refine Below.setCell ?_ (by first | omega | (simp; done) | (simp; omega)) _) | (with_reducible refine Below.drew ?_) | (with_reducible refine below_drewN ?_ _)))⟩
          case measure => simp [intOf]; omega
    · have e : k = n := by omega
      subst e
      have HZ : Hid (decide (modN zs M k) = true) := decide_eq_true ht.out
      clear ht
      go_wp2
      go_ret
      exact ⟨by first | rfl | (rw [HZ.out]; first | rfl | simp), by (repeat' (first | (with_reducible exact Below.refl _ _) | (with_reducible assumption) | (with_reducible refine belowThru ?_ (by assumption)) | (with_reducible refine belowAlloc ?_) | (with_reducible refine Below.setCell ?_ (by first | omega | (simp; done) | (simp; omega)) _) | (with_reducible refine Below.drew ?_) | (with_reducible refine below_drewN ?_ _)))⟩
theorem modest_yes (W H M : Int) (hM0 : 0 ≤ M) (hM1 : M ≤ 1000000) (a : Option Addr) (n c : Nat) (zs : List Int) (hn : n ≤ maxLen) (h : modN zs M n) (w : World) (hR : Row w a n (iv zs)) :
    Calls Try.prog 45 #[.agg #[.int .i64 W, .int .i64 H, .slice a n c], .int .i64 M] w fun e w' => e = .returned (.bool true) ∧ Below w.heap.size w w' := by
  have := modest_any W H M hM0 hM1 a n c zs hn w hR; rw [decide_eq_true h] at this; exact this
theorem modest_no (W H M : Int) (hM0 : 0 ≤ M) (hM1 : M ≤ 1000000) (a : Option Addr) (n c : Nat) (zs : List Int) (hn : n ≤ maxLen) (h : ¬ modN zs M n) (w : World) (hR : Row w a n (iv zs)) :
    Calls Try.prog 45 #[.agg #[.int .i64 W, .int .i64 H, .slice a n c], .int .i64 M] w fun e w' => e = .returned (.bool false) ∧ Below w.heap.size w w' := by
  have := modest_any W H M hM0 hM1 a n c zs hn w hR; rw [decide_eq_false h] at this; exact this
set_option maxRecDepth 100000 in
set_option maxHeartbeats 4000000 in
theorem small_any (W H M : Int) (hM0 : 0 ≤ M) (hM1 : M ≤ 1000000) (a : Option Addr) (n c : Nat) (zs : List Int) (hn : n ≤ maxLen) (w : World) (hR : Row w a n (iv zs)) :
    Calls Try.prog 46 #[.agg #[.int .i64 W, .int .i64 H, .slice a n c], .int .i64 M] w fun e w' => e = .returned (.bool (decide (modN zs M n))) ∧ Below w.heap.size w w' := by
  unfold maxLen at hn
  have HR := Lib.hid hR
  clear hR
  go_enter Try.func46, Try.ntmps46
  go_wp2
  have kA : Blk (w.alloc (.cells #[.int .i64 W, .int .i64 H, .slice a n c] 36)) w.heap.size #[.int .i64 W, .int .i64 H, .slice a n c] 36 := by (repeat' (first | (with_reducible assumption) | ((with_reducible refine Blk.new ?_); first | rfl | (simp; done)) | (with_reducible refine Blk.later (by assumption) ?_) | (with_reducible refine Blk.alloc ?_) | (with_reducible refine Blk.drewN ?_) | (with_reducible refine Blk.drew ?_) | (with_reducible refine Blk.other ?_ (by first | omega | (simp; done) | (simp; omega)))))
  go_loopw [5] (fun i wr => ∃ k : Nat, k ≤ n ∧ i = .int .i64 k ∧ Hid (modN zs M k) ∧ Blk wr w.heap.size #[.int .i64 W, .int .i64 H, .slice a n c] 36 ∧ Below w.heap.size w wr) (fun i _ => n - (intOf i).toNat)
  case atStart => exact ⟨0, Nat.zero_le _, rfl, (show modN zs M 0 from fun j h => absurd h (by omega)), kA, by (repeat' (first | (with_reducible exact Below.refl _ _) | (with_reducible assumption) | (with_reducible refine belowThru ?_ (by assumption)) | (with_reducible refine belowAlloc ?_) | (with_reducible refine Below.setCell ?_ (by first | omega | (simp; done) | (simp; omega)) _) | (with_reducible refine Below.drew ?_) | (with_reducible refine below_drewN ?_ _)))⟩
  case round =>
    clear kA
    obtain ⟨k, hk, rfl, ht, kA, hB⟩ := hrel
    obtain ⟨aA, bA⟩ := kA.read
    by_cases hlt : k < n
    · obtain ⟨b1, o1, z1, rfl, l1, h1, c1⟩ := HR.out.int hlt
      have c1 := cell_later hB c1
      have p0 : (0 : Int) ≤ (k : Int) := by omega
      have p1 : (k : Int) < (n : Int) := by omega
      by_cases he : z1 < -M
      · have HZ : Hid (decide (modN zs M n) = false) := decide_eq_false (fun h => by have := (h k hlt).1; rw [h1] at this; dsimp only [Option.getD_some] at this; omega)
        clear h1 ht
        go_wp2
        go_ret
        exact ⟨by first | rfl | (rw [HZ.out]; first | rfl | simp), by (repeat' (first | (with_reducible exact Below.refl _ _) | (with_reducible assumption) | (with_reducible refine belowThru ?_ (by assumption)) | (with_reducible refine belowAlloc ?_) | (with_reducible refine Below.setCell ?_ (by first | omega | (simp; done) | (simp; omega)) _) | (with_reducible refine Below.drew ?_) | (with_reducible refine below_drewN ?_ _)))⟩
      · by_cases he2 : M < z1
        · have HZ : Hid (decide (modN zs M n) = false) := decide_eq_false (fun h => by have := (h k hlt).2; rw [h1] at this; dsimp only [Option.getD_some] at this; omega)
          clear h1 ht
          go_wp2
          go_ret
          exact ⟨by first | rfl | (rw [HZ.out]; first | rfl | simp), by (repeat' (first | (with_reducible exact Below.refl _ _) | (with_reducible assumption) | (with_reducible refine belowThru ?_ (by assumption)) | (with_reducible refine belowAlloc ?_) | (with_reducible refine Below.setCell ?_ (by first | omega | (simp; done) | (simp; omega)) _) | (with_reducible refine Below.drew ?_) | (with_reducible refine below_drewN ?_ _)))⟩
        · have ht' : Hid (modN zs M (k + 1)) := ht.out.snoc h1 (by omega) (by omega)
          clear h1 ht
          go_wp2
          go_roundw
          case rel => exact ⟨k + 1, hlt, by go_num, ht', by (repeat' (first | (with_reducible assumption) | ((with_reducible refine Blk.new ?_); first | rfl | (simp; done)) | (with_reducible refine Blk.later (by assumption) ?_) | (with_reducible refine Blk.alloc ?_) | (with_reducible refine Blk.drewN ?_) | (with_reducible refine Blk.drew ?_) | (with_reducible refine Blk.other ?_ (by first | omega | (simp; done) | (simp; omega))))), by (repeat' (first | (with_reducible exact Below.refl _ _) | (with_reducible assumption) | (with_reducible refine belowThru ?_ (by assumption)) | (with_reducible refine belowAlloc ?_) | (with_reducible refine Below.setCell ?_ (by first | omega | (simp; done) | (simp; omega)) _) | (with_reducible refine Below.drew ?_) | (with_reducible refine below_drewN ?_ _)))⟩
          case measure => simp [intOf]; omega
    · have e : k = n := by omega
      subst e
      have HZ : Hid (decide (modN zs M k) = true) := decide_eq_true ht.out
      clear ht
      go_wp2
      go_ret
      exact ⟨by first | rfl | (rw [HZ.out]; first | rfl | simp), by (repeat' (first | (with_reducible exact Below.refl _ _) | (with_reducible assumption) | (with_reducible refine belowThru ?_ (by assumption)) | (with_reducible refine belowAlloc ?_) | (with_reducible refine Below.setCell ?_ (by first | omega | (simp; done) | (simp; omega)) _) | (with_reducible refine Below.drew ?_) | (with_reducible refine below_drewN ?_ _)))⟩
theorem small_yes (W H M : Int) (hM0 : 0 ≤ M) (hM1 : M ≤ 1000000) (a : Option Addr) (n c : Nat) (zs : List Int) (hn : n ≤ maxLen) (h : modN zs M n) (w : World) (hR : Row w a n (iv zs)) :
    Calls Try.prog 46 #[.agg #[.int .i64 W, .int .i64 H, .slice a n c], .int .i64 M] w fun e w' => e = .returned (.bool true) ∧ Below w.heap.size w w' := by
  have := small_any W H M hM0 hM1 a n c zs hn w hR; rw [decide_eq_true h] at this; exact this
theorem small_no (W H M : Int) (hM0 : 0 ≤ M) (hM1 : M ≤ 1000000) (a : Option Addr) (n c : Nat) (zs : List Int) (hn : n ≤ maxLen) (h : ¬ modN zs M n) (w : World) (hR : Row w a n (iv zs)) :
    Calls Try.prog 46 #[.agg #[.int .i64 W, .int .i64 H, .slice a n c], .int .i64 M] w fun e w' => e = .returned (.bool false) ∧ Below w.heap.size w w' := by
  have := small_any W H M hM0 hM1 a n c zs hn w hR; rw [decide_eq_false h] at this; exact this
end Go.Proofs.Ytghmjdmiaajbnaa
/-
  A region that draws its order, by what holds whichever operations have come up: one step an operation, whatever the orders.
-/
namespace Go.Proofs.Ytghmjdmiaajbnaa
open Go.RowKit

variable {P : Program} {ops : Array Oper} {Q : Exit → Act → World → Prop}

theorem inv_mem {L : Array Bool} {i : Nat} (h : i ∈ Region.ready .any ops L) : i < ops.size ∧ L.getD i true = false ∧ ∃ o, ops[i]? = some o ∧ ∀ e ∈ o.after, Region.binds .any e = true → L.getD e.on false = true := by
  unfold Region.ready at h
  rw [List.mem_filter, List.mem_range, Bool.and_eq_true] at h
  obtain ⟨h1, h2, h3⟩ := h
  refine ⟨h1, by simpa using h2, ops[i], by simp [h1], fun e he hb => ?_⟩
  rw [Array.getElem?_eq_getElem h1] at h3
  simp only [Option.map_some, Option.getD_some, Array.all_eq_true_iff_forall_mem] at h3
  have := h3 e he
  rw [hb] at this
  simpa using this
theorem inv_ready {L : Array Bool} {i : Nat} {o : Oper} (h1 : L.getD i true = false) (h2 : ops[i]? = some o) (h3 : ∀ e ∈ o.after, Region.binds .any e = true → L.getD e.on false = true) : i ∈ Region.ready .any ops L := by
  unfold Region.ready
  have hi : i < ops.size := by
    rcases Nat.lt_or_ge i ops.size with h | h
    · exact h
    · rw [Array.getElem?_eq_none h] at h2; cases h2
  rw [List.mem_filter, List.mem_range, Bool.and_eq_true]
  refine ⟨hi, by simp [h1], ?_⟩
  rw [h2]
  simp only [Option.map_some, Option.getD_some, Array.all_eq_true_iff_forall_mem]
  intro e he
  cases hb : Region.binds .any e
  · rfl
  · simp [h3 e he hb]

/-- What an operation waits for has come up. -/
theorem inv_dep {L : Array Bool} {i : Nat} {o : Oper} (ho : ops[i]? = some o) (hall : ∀ e ∈ o.after, Region.binds .any e = true → L.getD e.on false = true) (j : Nat)
    (hd : ((ops[i]?).map (·.after.any fun e => Region.binds .any e && e.on == j)).getD false = true) : L.getD j false = true := by
  rw [ho] at hd
  simp only [Option.map_some, Option.getD_some, Array.any_eq_true'] at hd
  obtain ⟨e, he, hb⟩ := hd
  rw [Bool.and_eq_true] at hb
  have := hall e he hb.1
  rwa [show e.on = j by simpa using hb.2] at this
/-- Every operation waits for earlier ones only. -/
def Upward (ops : Array Oper) : Bool := (List.range ops.size).all fun i => ((ops[i]?).map (·.after.all fun e => !Region.binds .any e || decide (e.on < i))).getD false
theorem inv_all (hup : Upward ops = true) {L : Array Bool} (hs : L.size = ops.size) (hr : Region.ready .any ops L = []) : L = Array.replicate ops.size true := by
  have key : ∀ i, i < ops.size → L.getD i true = true := by
    intro i
    induction i using Nat.strongRecOn with
    | _ i ih =>
      intro hi
      cases hL : L.getD i true
      · exfalso
        have hm : i ∈ Region.ready .any ops L := by
          refine inv_ready hL (o := ops[i]) (by simp [hi]) fun e he hbd => ?_
          have hu := List.all_eq_true.1 hup i (List.mem_range.2 hi)
          rw [Array.getElem?_eq_getElem hi] at hu
          simp only [Option.map_some, Option.getD_some, Array.all_eq_true_iff_forall_mem] at hu
          have hlt : e.on < i := by have := hu e he; rw [hbd] at this; simpa using this
          have h1 := ih e.on hlt (by omega)
          have h2 : e.on < L.size := by omega
          simpa [Array.getD, h2] using h1
        rw [hr] at hm; cases hm
      · rfl
  apply Array.ext
  · simp [hs]
  · intro i h1 h2
    have := key i (by omega)
    simpa [Array.getD, h1] using this

theorem wpAny_inv (I : Array Bool → Act → World → Prop) (hup : Upward ops = true) (hsz : ∀ L a w, I L a w → L.size = ops.size)
    (step : ∀ L a w, I L a w → ∀ i, i ∈ Region.ready .any ops L → wpOp P ops Q i (fun a' w' => I (L.setIfInBounds i true) a' w') a w)
    (fin : ∀ a w, I (Array.replicate ops.size true) a w → Q .normal a w) :
    ∀ (fuel : Nat) (L : Array Bool) (a : Act) (w : World), I L a w → L.toList.count false ≤ fuel → wpAny P .any ops Q fuel L a w := by
  have done : ∀ L a w, I L a w → Region.ready .any ops L = [] → Q .normal a w := fun L a w h hr => fin a w (by rw [← inv_all hup (hsz L a w h) hr]; exact h)
  intro fuel
  induction fuel with
  | zero =>
    intro L a w h hc
    have hr : Region.ready .any ops L = [] := by
      apply List.eq_nil_iff_forall_not_mem.2
      intro i hi
      obtain ⟨h1, h2, -⟩ := inv_mem hi
      have hl : i < L.size := by rw [hsz L a w h]; exact h1
      have : L[i] = false := by simpa [Array.getD, hl] using h2
      have hm : false ∈ L.toList := by rw [← this]; simp
      have := List.count_pos_iff.2 hm
      omega
    exact ⟨hr, done L a w h hr⟩
  | succ fuel ih =>
    intro L a w h hc
    refine ⟨fun hr => done L a w h hr, fun i hi => ?_⟩
    obtain ⟨h1, h2, -⟩ := inv_mem hi
    have hl : i < L.size := by rw [hsz L a w h]; exact h1
    have hf : L[i] = false := by simpa [Array.getD, hl] using h2
    refine wpOp_mono (fun a' w' h' => ih _ a' w' h' ?_) (step L a w h i hi)
    have e : (L.setIfInBounds i true).toList = L.toList.set i true := by simp
    rw [e, List.count_set (by simpa using hl)]
    have hf' : L.toList[i]'(by simpa using hl) = false := by simpa using hf
    have hm : false ∈ L.toList := by rw [← hf']; exact List.getElem_mem _
    have := List.count_pos_iff.2 hm
    rw [hf']
    show L.toList.count false - 1 + 0 ≤ fuel
    omega

theorem wp_region_inv {id : Nat} {a0 : Act} {w : World} (I : Act → Array Bool → Act → World → Prop) (hm : P.follows .mixedOrders = true) (hup : Upward ops = true)
    (hsz : ∀ L a w, I a0 L a w → L.size = ops.size)
    (start : I a0 (Array.replicate ops.size false) a0 w.drew)
    (step : ∀ L a w, I a0 L a w → ∀ i, i ∈ Region.ready .any ops L → wpOp P ops Q i (fun a' w' => I a0 (L.setIfInBounds i true) a' w') a w)
    (fin : ∀ a w, I a0 (Array.replicate ops.size true) a w → Q .normal a w) : (Code.region id ops true).wp P Q a0 w :=
  wp_region_any hm (wpAny_inv (I a0) hup hsz step fin _ _ _ _ start (by simp))

theorem inv_op {i : Nat} {o : Oper} {K0 : Act → World → Prop} {a : Act} {w : World} (ho : ops[i]? = some o) (hw : Region.wanted o (yielded ops a.tmps) = true)
    (h : ∀ K, Hid (∀ a' w', K0 a' w' → K a' w') → o.wp P a w K Q) : wpOp P ops Q i K0 a w := by
  unfold wpOp
  rw [ho]
  simp only [hw, if_true]
  exact .inl (h K0 (Lib.hid fun _ _ h => h))
end Go.Proofs.Ytghmjdmiaajbnaa
/-
  Within a round of a loop over an iterator: a region that draws its order, by what holds whichever operations have come up.
-/
namespace Go.Proofs.Ytghmjdmiaajbnaa
open Go.RowKit
set_option linter.unusedVariables false
set_option linter.unusedSimpArgs false

theorem wp_region_inv_in {P : Program} {ops : Array Oper} {Q : Exit → Act → World → Prop} {n l id : Nat} {a0 : Act} {w : World} (I : Act → Array Bool → Act → World → Prop) (hm : P.follows .mixedOrders = true) (hup : Upward ops = true) (hnd : noDefer ops = true) (hout : ¬ LetsOut Q)
    (hsz : ∀ L a w, I a0 L a w → L.size = ops.size)
    (start : I a0 (Array.replicate ops.size false) a0 w.drew)
    (step : ∀ L a w, I a0 L a w → ∀ i, i ∈ Region.ready .any ops L → wpOp P ops Q i (fun a' w' => I a0 (L.setIfInBounds i true) a' w') a w)
    (fin : ∀ a w, I a0 (Array.replicate ops.size true) a w → Q .normal a w) : (Code.region id ops true).wpIn (Fence.wide.inRound l) n P Q a0 w :=
  wpIn_region_any hm (wpAny_in hnd hout _ _ _ _ (wpAny_inv (I a0) hup hsz step fin _ _ _ _ start (by simp)))
/-- What lay behind a number, and is no cells, is as it was. -/
theorem KeepsFrom.call {B : Nat} {X Y Z : World} (h : KeepsFrom B X Y) (hb : Below Y.heap.size Y Z) : KeepsFrom B X Z := h.trans (KeepsFrom.of_below hb)
theorem KeepsFrom.set {B : Nat} {X Y : World} (h : KeepsFrom B X Y) (a : Addr) (v : Value) : KeepsFrom B X (Y.setCell a v) := h.trans ((KeepsOthers.setCell _ _ _).from _)
theorem PixG.set {Bm b off len c : Nat} {Wd Hd : Int} {R : Nat → Int → Prop} {W : World} {g i : Nat} {v : Value} (h : PixG Bm b off len c Wd Hd R W) (h1 : Bm ≠ g) (h2 : b ≠ g) : PixG Bm b off len c Wd Hd R (W.setCell ⟨g, i, none⟩ v) := by
  obtain ⟨g0, g1, g2, g3⟩ := h
  have key : ∀ (k o : Nat), k ≠ g → (W.setCell ⟨g, i, none⟩ v).cell? ⟨k, o, none⟩ = W.cell? ⟨k, o, none⟩ := fun k o hk => World.cell?_of_block (w := W) (Below.heap_setCell W ⟨g, i, none⟩ v k (fun e => hk e))
  exact ⟨(key _ _ h1).trans g0, (key _ _ h1).trans g1, (key _ _ h1).trans g2, fun j hj => by obtain ⟨z, hz, cz⟩ := g3 j hj; exact ⟨z, hz, (key _ _ h2).trans cz⟩⟩
end Go.Proofs.Ytghmjdmiaajbnaa
