/-
  The texts that the laws of this seat share, merged: part 2.
-/
import Derived.BigQuiet
import Derived.Deep.CutRange
import Derived.Deep.DeepCutAuto
import Derived.Deep.Draws
import Derived.Deep.OwnRows
import Derived.Deep.QuietTactic
import Derived.Deep.RegionHeld3
import Derived.Laws.AppendOwn
import Derived.Lib.Hide
import Derived.LoopIn
import Derived.LoopNIn
import Derived.Maps.AppendAt
import Derived.OneCell
import Derived.OwnWalkIn
import Derived.RangeFuncBound
import Derived.RangeFuncCalls
import Derived.RangeFuncLeaves
import Derived.RangeFuncNested
import Derived.Shelf.Abstract
import Derived.Shelf.AbstractIn
import Derived.Shelf.RegionOpen
import Derived.StillTailTactics
import Derived.TacticsInMore
import Derived.Test.YtghmjdmiaajbnaaProg
import Derived.WalkKit
import Derived.WalkSmall
import Derived.WalkSpells
import Derived.Test.YtghmjdmiaajbnaaM1
/-
  Layer 2: the iterator over the pixels of an image.
-/
namespace Go.Proofs.Ytghmjdmiaajbnaa
open Go.RowKit Go.Shelf
set_option linter.unusedVariables false
set_option linter.unusedSimpArgs false

attribute [local go_sem] Oper.semAt_some

/-- What lies there of an image that is gone through: its box, and of each value what R says. -/
def PixG (Bm b off len c : Nat) (Wd Hd : Int) (R : Nat → Int → Prop) (W : World) : Prop :=
  W.cell? ⟨Bm, 0, none⟩ = some (.int .i64 Wd) ∧ W.cell? ⟨Bm, 1, none⟩ = some (.int .i64 Hd) ∧ W.cell? ⟨Bm, 2, none⟩ = some (.slice (some ⟨b, off, none⟩) len c) ∧ ∀ j, j < len → ∃ z, R j z ∧ W.cell? ⟨b, off + j, none⟩ = some (.int .i64 z)
/-- An element that the iterator hands on: an index below the length, and its value. -/
abbrev Pel (len : Nat) (R : Nat → Int → Prop) := { x : Nat × Int // x.1 < len ∧ R x.1 x.2 }
def pxEnc {len : Nat} {R : Nat → Int → Prop} (Wd : Int) (x : Pel len R) : Array Value := #[.agg #[.int .i64 ((x.1.1 : Int) % Wd), .int .i64 ((x.1.1 : Int) / Wd)], .int .i64 x.1.2]
/-- All of them have come, in order. -/
def PixAll {len : Nat} {R : Nat → Int → Prop} (k : Nat) (xs : List (Pel len R)) : Prop := xs.map (fun x => x.1.1) = List.range k
theorem PixAll.snoc {len : Nat} {R : Nat → Int → Prop} {k : Nat} {xs : List (Pel len R)} (h : PixAll k xs) (x : Pel len R) (hx : x.1.1 = k) : PixAll (k + 1) (xs ++ [x]) := by
  unfold PixAll at *
  rw [List.map_append, h, List.range_succ, List.map_singleton, hx]
theorem PixAll.length {len : Nat} {R : Nat → Int → Prop} {k : Nat} {xs : List (Pel len R)} (h : PixAll k xs) : xs.length = k := by
  have := congrArg List.length h
  simpa using this
theorem PixG.drew {Bm b off len c : Nat} {Wd Hd : Int} {R : Nat → Int → Prop} {W : World} (h : PixG Bm b off len c Wd Hd R W) : PixG Bm b off len c Wd Hd R W.drew := h

/-- The word of a round, in one piece. -/
def Went (J Jx : World → Prop) (g : Bool) (W : World) : Prop := (g = true ∧ J W) ∨ (g = false ∧ Jx W)

theorem small_div (k : Nat) (Wd : Int) (h : 1 ≤ Wd) (hk : (k : Int) ≤ 4096) : IntKind.i64.wrap ((k : Int) / Wd) = (k : Int) / Wd ∧ (k : Int).tmod Wd = (k : Int) % Wd ∧ 0 ≤ (k : Int) / Wd ∧ (k : Int) / Wd ≤ k ∧ 0 ≤ (k : Int) % Wd ∧ (k : Int) % Wd < Wd := by
  have a := Int.ediv_nonneg (show (0 : Int) ≤ k by omega) (show 0 ≤ Wd by omega)
  have b := Int.ediv_le_self Wd (show (0 : Int) ≤ k by omega)
  have c := Int.emod_nonneg (k : Int) (show Wd ≠ 0 by omega)
  have d := Int.emod_lt_of_pos (k : Int) (show 0 < Wd by omega)
  have f : (k : Int) % Wd ≤ k := by
    have := Int.mul_ediv_add_emod (k : Int) Wd
    have := Int.mul_nonneg (show 0 ≤ Wd by omega) a
    omega
  exact ⟨IntWalk.i64_in _ (by omega), Int.tmod_eq_emod_of_nonneg (by omega), a, b, c, d⟩

set_option maxRecDepth 100000 in
set_option maxHeartbeats 2000000 in
theorem pix1_in (n l Bm b off len c : Nat) (Wd Hd : Int) (R : Nat → Int → Prop) (hn : 1 ≤ n) (hW : 1 ≤ Wd) (hlen : len ≤ 4096) (J Jx : List (Pel len R) → World → Prop) (B : Nat)
    (hJ : AbidesFrom B J)
    (hY : ∀ pre x W, J pre W → pre.length < len → YieldAt Fence.wide (n - 1) Try.prog l (pxEnc Wd x) W fun e W' =>
      (e = .returned (.bool true) ∧ J (pre ++ [x]) W' ∧ (PixG Bm b off len c Wd Hd R W → PixG Bm b off len c Wd Hd R W')) ∨ (e = .returned (.bool false) ∧ Jx (pre ++ [x]) W'))
    (W : World) (hG : PixG Bm b off len c Wd Hd R W) (h0 : J [] W) :
    CallsIn Fence.wide n Try.prog 110 #[.func (.yield l) #[] #[], .pointer (some ⟨Bm, 0, none⟩)] W fun e W' => (∃ v, e = .returned v) ∧
      ((∃ xs, PixAll len xs ∧ J xs W') ∨ (∃ pre, True ∧ Jx pre W')) := by
  have HY := Lib.hid hY
  clear hY
  have hmx : Try.prog.follows .mixedOrders = true := by kernel_rfl
  obtain ⟨g0, g1, g2, g3⟩ := hG
  have HG := Lib.hid (⟨g0, g1, g2, g3⟩ : PixG Bm b off len c Wd Hd R W)
  clear g3
  refine callsIn_of_wp Try.func110 rfl trivial ?_ rfl
  simp only [Try.ntmps110, List.size_toArray, List.length_cons, List.length_nil, Nat.reduceAdd, Nat.reduceSub, Array.replicate_succ, Array.replicate_zero, List.push_toArray, List.append_toArray, List.nil_append, List.cons_append]
  gi_wp2
  clear g0 g1 g2
  gi_loopw [8] (fun i wr => ∃ k : Nat, k ≤ len ∧ i = .int .i64 k ∧ ∃ pre, PixAll k pre ∧ J pre wr ∧ Hid (PixG Bm b off len c Wd Hd R wr))
    (fun i _ => len - (intOf i).toNat)
  case atStart => exact ⟨0, Nat.zero_le _, rfl, [], rfl, h0, HG⟩
  case round =>
    obtain ⟨k, hk, rfl, pre, hpre, hJs, HG'⟩ := hrel
    clear HG h0
    by_cases hlt : k < len
    · obtain ⟨c0, c1, c2, c3⟩ := HG'.out
      obtain ⟨z, hz, cz⟩ := c3 k hlt
      clear c3
      obtain ⟨v1, v2, v3, v4, v5, v6⟩ := small_div k Wd hW (by omega)
      have hne : ¬ Wd = 0 := by omega
      have hJd : J pre wr.drew := hJ pre wr wr.drew none hJs ⟨rfl, rfl, rfl, Nat.le_refl _, fun _ _ _ => rfl⟩ (fun r e => by cases e)
      obtain ⟨fn, tmps, assign, body, hy, hR⟩ := HY.out pre ⟨(k, z), hlt, hz⟩ wr.drew hJd (by rw [hpre.length]; exact hlt)
      dsimp only [pxEnc] at hy
      have hR' : RoundIn Fence.wide (n - 1) Try.prog l fn tmps assign body wr.drew (fun e W' => ∃ g, e = .returned (.bool g) ∧ Went (fun W' => J (pre ++ [⟨(k, z), hlt, hz⟩]) W' ∧ Hid (PixG Bm b off len c Wd Hd R W')) (fun W' => Jx (pre ++ [⟨(k, z), hlt, hz⟩]) W') g W') := by
        refine hR.mono ?_
        rintro e W3 (⟨rfl, hJ3, hk3⟩ | ⟨rfl, hJx3⟩)
        · exact ⟨true, rfl, .inl ⟨rfl, hJ3, Lib.hid (hk3 HG'.out.drew)⟩⟩
        · exact ⟨false, rfl, .inr ⟨rfl, hJx3⟩⟩
      clear hR
      gi_wp2
      gi_region_with_o (refine hR'.mono ?_; rintro e W3 ⟨g, rfl, hW3⟩)
      all_goals
        rcases hW3 with ⟨rfl, hJ3, hG3⟩ | ⟨rfl, hJx3⟩
        · gi_wp2
          go_roundw
          case rel => exact ⟨k + 1, by omega, by go_num, _, hpre.snoc _ rfl, hJ3, hG3⟩
          case measure => simp [intOf]; omega
        · gi_wp2
          refine bodyPost_ret (results_none rfl _ _ _) rfl ?_
          exact ⟨⟨_, rfl⟩, .inr ⟨_, trivial, hJx3⟩⟩
    · obtain rfl : k = len := by omega
      gi_wp2
      go_end0
      exact ⟨⟨_, rfl⟩, .inl ⟨pre, hpre, hJs⟩⟩

set_option maxHeartbeats 1000000 in
theorem pixels_any (W H : Int) (a : Option Addr) (n c : Nat) (w : World) :
    Calls Try.prog 69 #[.agg #[.int .i64 W, .int .i64 H, .slice a n c]] w fun e w' => e = .returned (.func (.func 110) #[] #[.pointer (some ⟨w.heap.size, 0, none⟩)]) ∧ w' = w.alloc (.cells #[.int .i64 W, .int .i64 H, .slice a n c] 86) := by
  go_enter Try.func69, Try.ntmps69
  go_wp2
  go_ret
  exact ⟨rfl, rfl⟩

/-- What a loop over the pixels may count on. -/
theorem pix_stops (n Bm b off len c : Nat) (Wd Hd : Int) (R : Nat → Int → Prop) (hn : 1 ≤ n) (hW : 1 ≤ Wd) (hlen : len ≤ 4096) (w : World) (hB : Bm < w.heap.size) (hb : b < w.heap.size) (hG : PixG Bm b off len c Wd Hd R w) :
    SeqStopsK Fence.wide n Try.prog 110 #[.pointer (some ⟨Bm, 0, none⟩)] (pxEnc (len := len) (R := R) Wd) (fun A C => PixG Bm b off len c Wd Hd R A → PixG Bm b off len c Wd Hd R C) (PixAll len) (fun _ => True) len w := fun l J Jx W hW' hJ _ hY h0 => by
  have hG' : PixG Bm b off len c Wd Hd R W := by
    obtain ⟨g0, g1, g2, g3⟩ := hG
    exact ⟨cell_later hW' g0, cell_later hW' g1, cell_later hW' g2, fun j hj => by obtain ⟨z, hz, cz⟩ := g3 j hj; exact ⟨z, hz, cell_later hW' cz⟩⟩
  exact pix1_in n l Bm b off len c Wd Hd R hn hW hlen J Jx _ hJ hY W hG' h0
end Go.Proofs.Ytghmjdmiaajbnaa
/-
  A region that draws its order within a round of a loop over an iterator, out of the same region's plain calculus.
-/
namespace Go.Proofs.Ytghmjdmiaajbnaa
open Go.RowKit
set_option linter.unusedVariables false
set_option linter.unusedSimpArgs false

variable {P : Program} {ops : Array Oper} {Q : Exit → Act → World → Prop} {md : Region.Mode}

theorem rowsIn_of_rows {n l : Nat} {row : String} {args : Array Value} {w : World} {R : Value → World → Prop} (h : Rows P row args w R) : RowsIn (Fence.wide.inRound l) n P row args w R :=
  fun c cs _ => let ⟨v, w', r, s⟩ := h c cs; ⟨v, w', r, stepsIn_wide.2 s⟩
theorem callsIn_of_calls {n l : Nat} {f : FuncId} {args : Array Value} {w : World} {R : Ending → World → Prop} (h : Calls P f args w R) : CallsIn (Fence.wide.inRound l) n P f args w R := CallsIn.inRound l (callsIn_wide.2 h)
/-- No operation of the region defers. -/
def noDefer (ops : Array Oper) : Bool := ops.all fun o => match o.op with | .defer _ => false | _ => true
theorem noDefer_spec (h : noDefer ops = true) {i : Nat} {o : Oper} (hi : ops[i]? = some o) : ∀ c, o.op ≠ .defer c := by
  intro c e
  obtain ⟨hlt, rfl⟩ := Array.getElem?_eq_some_iff.1 hi
  have := (Array.all_eq_true.1 h) i hlt
  rw [e] at this
  cases this
theorem upon_in {n l : Nat} {o : Oper} {a : Act} {K : Act → World → Prop} {r : Result Next} (h : o.upon P a K Q r) : o.uponIn (Fence.wide.inRound l) n P a K Q r := by
  cases r with
  | ok x w' =>
    cases x <;> simp only [Oper.upon] at h <;> simp only [Oper.uponIn] <;> first
      | exact h
      | exact ⟨fun h => (by cases h), callsIn_of_calls h⟩
      | exact ⟨fun h => (by cases h), rowsIn_of_rows h⟩
  | halt x w' => cases x <;> simp only [Oper.upon] at h <;> simp only [Oper.uponIn] <;> exact h
theorem wpOp_in {n l : Nat} {i : Nat} {K : Act → World → Prop} {a : Act} {w : World} (hnd : noDefer ops = true) (hout : ¬ LetsOut Q) (h : wpOp P ops Q i K a w) : wpOpIn (Fence.wide.inRound l) n P ops Q i K a w := by
  unfold wpOp at h
  unfold wpOpIn
  split
  · rename_i ho; simp only [ho] at h; exact h
  · rename_i o ho
    simp only [ho] at h
    split
    · rename_i hw
      simp only [hw, if_true] at h
      rcases h with h | h
      · refine ⟨fun _ _ => trivial, ?_⟩
        rw [Oper.semAt_eq _ _ _ (noDefer_spec hnd ho)]
        exact upon_in h
      · exact absurd h.2 hout
    · rename_i hw
      simp only [hw] at h
      exact ⟨fun _ _ => trivial, h⟩
theorem wpAny_in {n l : Nat} (hnd : noDefer ops = true) (hout : ¬ LetsOut Q) : ∀ (fuel : Nat) (listed : Array Bool) (a : Act) (w : World), wpAny P md ops Q fuel listed a w → wpAnyIn (Fence.wide.inRound l) n P md ops Q fuel listed a w
  | 0, _, _, _, h => h
  | fuel + 1, listed, a, w, h => ⟨h.1, fun i hi => wpOpIn_mono (fun a w h => wpAny_in hnd hout fuel _ a w h) (wpOp_in hnd hout (h.2 i hi))⟩
/-- Within a round: what is held of the world is shown once behind the draw, and anew behind each call and store. -/
theorem held_in {n l id : Nat} {a : Act} {w : World} (S : World → Prop) (hm : P.follows .mixedOrders = true) (hnd : noDefer ops = true) (hout : ¬ LetsOut Q) (hS : S w.drew)
    (h : S w.drew → wpAnyH P .any ops Q S ops.size (Array.replicate ops.size false) a w.drew) : (Code.region id ops true).wpIn (Fence.wide.inRound l) n P Q a w :=
  wpIn_region_any hm (wpAny_in hnd hout _ _ _ _ (wpAny_of_held _ _ _ _ (h hS)))
end Go.Proofs.Ytghmjdmiaajbnaa
/-
  Layer 2: new images out of the values for their places.
-/
namespace Go.Proofs.Ytghmjdmiaajbnaa
open Go.RowKit Go.Shelf
set_option linter.unusedVariables false
set_option linter.unusedSimpArgs false

attribute [local go_sem] Oper.semAt_some

theorem Blk.own {X Y : World} {b : Nat} {c : Array Value} {t : TypeId} {row : Option Nat} (h : Blk X b c t) (hg : X.grownBy Y row) (hr : ∀ r, row = some r → ∃ o : Obj, X.heap[r]? = some o ∧ o.isCells = false) : Blk Y b c t :=
  (hg.block b h.lt (fun e => by
    obtain ⟨o, ho, hc⟩ := hr b e.symm
    have : X.heap[b]? = _ := h
    rw [this] at ho; cases ho; cases hc)).trans h
theorem made_ints (N : Nat) : madeCells #[.int .i64 0] N = ints (List.replicate N 0) := by
  unfold madeCells ints
  apply Array.ext
  · simp
  · intro i h1 h2
    simp [Nat.mod_one]
theorem run_make_ints (N : Nat) (h : N ≤ 1099511627776) (w : World) : (Instr.makeSlice 22 (.int .i64 (N : Int)) (.int .i64 (N : Int))).run Try.prog w = .ok (.slice (some ⟨w.heap.size, 0, none⟩) N N) (w.alloc (.cells (ints (List.replicate N 0)) 3)) := by
  rw [← made_ints]
  exact run_make_row' 22 3 (.int .i64 0) 8 Try.underlying22 (by kernel_rfl) rfl .i64 .i64 N (by omega) (by omega) w
theorem ints_set (zs : List Int) (p : Nat) (v : Int) : (ints zs).setIfInBounds p (.int .i64 v) = ints (zs.set p v) := by
  unfold ints
  apply Array.ext'
  simp [List.map_set]

theorem alloc5 (w : World) (c0 : Array Value) (t0 : TypeId) (c1 : Array Value) (t1 : TypeId) (c2 : Array Value) (t2 : TypeId) (c3 : Array Value) (t3 : TypeId) (c4 : Array Value) (t4 : TypeId) :
    ∃ W0, ((((w.alloc (.cells c0 t0)).alloc (.cells c1 t1)).alloc (.cells c2 t2)).alloc (.cells c3 t3)).alloc (.cells c4 t4) = W0 ∧ Blk W0 w.heap.size c0 t0 ∧ Blk W0 (w.heap.size + 1) c1 t1 ∧ Blk W0 (w.heap.size + 1 + 1) c2 t2 ∧ Blk W0 (w.heap.size + 1 + 1 + 1) c3 t3 ∧ Blk W0 (w.heap.size + 1 + 1 + 1 + 1) c4 t4 ∧ Below w.heap.size w W0 ∧ W0.heap.size = w.heap.size + 1 + 1 + 1 + 1 + 1 :=
  ⟨_, rfl, Blk.alloc (Blk.alloc (Blk.alloc (Blk.alloc (Blk.new rfl)))), Blk.alloc (Blk.alloc (Blk.alloc (Blk.new (by simp)))), Blk.alloc (Blk.alloc (Blk.new (by simp))), Blk.alloc (Blk.new (by simp)), Blk.new (by simp), by (repeat' (first | (with_reducible exact Below.refl _ _) | (with_reducible assumption) | (with_reducible refine belowThru ?_ (by assumption)) | (with_reducible refine belowAlloc ?_) | (with_reducible refine Below.setCell ?_ (by first | omega | (simp; done) | (simp; omega)) _) | (with_reducible refine Below.drew ?_) | (with_reducible refine below_drewN ?_ _))), by simp⟩
theorem cell_putObj {W : World} {l : Nat} {o o' : Obj} {a : Addr} {v : Value} (ho : W.heap[l]? = some o) (hc : o.isCells = false) (h : W.cell? a = some v) : (W.putObj l o').cell? a = some v := by
  rw [World.cell?_of_block (w := W)]
  · exact h
  · refine World.putObj_heap_other (fun e => ?_)
    unfold World.cell? at h
    rw [e, ho] at h
    cases o <;> simp_all [Obj.isCells]
theorem PixG.putObj {Bm b off len c : Nat} {Wd Hd : Int} {R : Nat → Int → Prop} {W : World} {l : Nat} {o o' : Obj} (h : PixG Bm b off len c Wd Hd R W) (ho : W.heap[l]? = some o) (hc : o.isCells = false) : PixG Bm b off len c Wd Hd R (W.putObj l o') := by
  obtain ⟨g0, g1, g2, g3⟩ := h
  exact ⟨cell_putObj ho hc g0, cell_putObj ho hc g1, cell_putObj ho hc g2, fun j hj => by obtain ⟨z, hz, cz⟩ := g3 j hj; exact ⟨z, hz, cell_putObj ho hc cz⟩⟩

theorem PixG.alloc {Bm b off len c : Nat} {Wd Hd : Int} {R : Nat → Int → Prop} {W : World} (h : PixG Bm b off len c Wd Hd R W) (o : Obj) : PixG Bm b off len c Wd Hd R (W.alloc o) := by
  obtain ⟨g0, g1, g2, g3⟩ := h
  exact ⟨cell_alloc g0, cell_alloc g1, cell_alloc g2, fun j hj => by obtain ⟨z, hz, cz⟩ := g3 j hj; exact ⟨z, hz, cell_alloc cz⟩⟩
theorem PixG.later {Bm b off len c : Nat} {Wd Hd : Int} {R : Nat → Int → Prop} {W W' : World} (hb : Below W.heap.size W W') (h : PixG Bm b off len c Wd Hd R W) : PixG Bm b off len c Wd Hd R W' := by
  obtain ⟨g0, g1, g2, g3⟩ := h
  exact ⟨cell_later hb g0, cell_later hb g1, cell_later hb g2, fun j hj => by obtain ⟨z, hz, cz⟩ := g3 j hj; exact ⟨z, hz, cell_later hb cz⟩⟩

/-- What is written so far of a new image. -/
def Put (N : Nat) (V : Nat → Int) (pre : List (Pel N (fun _ _ => True))) (zs : List Int) : Prop := zs.length = N ∧ ∀ x ∈ pre, zs[x.1.1]? = some (inR (V x.1.1) (-2147483648) 2147483648)
theorem Put.snoc {N : Nat} {V : Nat → Int} {pre : List (Pel N (fun _ _ => True))} {zs : List Int} (h : Put N V pre zs) (x : Pel N (fun _ _ => True)) : Put N V (pre ++ [x]) (zs.set x.1.1 (inR (V x.1.1) (-2147483648) 2147483648)) := by
  refine ⟨by rw [List.length_set]; exact h.1, fun y hy => ?_⟩
  by_cases e : x.1.1 = y.1.1
  · rw [e, List.getElem?_set_self (by rw [h.1]; exact y.2.1)]
  · rw [List.getElem?_set_ne e]
    rcases List.mem_append.1 hy with k | k
    · exact h.2 y k
    · rw [List.mem_singleton] at k; subst k; exact absurd rfl e
theorem Put.all {N : Nat} {V : Nat → Int} {xs : List (Pel N (fun _ _ => True))} {zs : List Int} (h : Put N V xs zs) (ha : PixAll N xs) : zs = (List.range N).map fun k => inR (V k) (-2147483648) 2147483648 := by
  apply List.ext_getElem?
  intro i
  by_cases hi : i < N
  · have hm : i ∈ xs.map (fun x => x.1.1) := by rw [ha]; exact List.mem_range.2 hi
    obtain ⟨x, hx, rfl⟩ := List.mem_map.1 hm
    rw [h.2 x hx]; simp [hi]
  · rw [List.getElem?_eq_none (by rw [h.1]; omega), List.getElem?_eq_none (by simp; omega)]

set_option maxRecDepth 100000 in
set_option maxHeartbeats 4000000 in
theorem build_in (n : Nat) (hn : 3 ≤ n) (W H : Int) (N : Nat) (f : FuncId) (cap : Array Value) (V : Nat → Int) (hN : W * H = (N : Int)) (w0 : 1 ≤ W) (w1 : W ≤ 16) (h0 : 1 ≤ H) (h1 : H ≤ 16) (N1 : N ≤ 256)
    (ef : ∀ args w, (callFunc f args).run Try.prog w = .ok (.enter f args) w) (w : World)
    (HV : Hid (∀ k, k < N → ∀ W1, Below w.heap.size w W1 → Calls Try.prog f (#[.agg #[.int .i64 ((k : Int) % W), .int .i64 ((k : Int) / W)]] ++ cap) W1 fun e W2 => e = .returned (.int .i64 (V k)) ∧ Below W1.heap.size W1 W2)) :
    CallsIn Fence.wide n Try.prog 53 #[.int .i64 W, .int .i64 H, .func (.func f) #[] cap] w fun e w' => ∃ b, e = .returned (.agg #[.int .i64 W, .int .i64 H, .slice (some ⟨b, 0, none⟩) N N]) ∧ w.heap.size ≤ b ∧ Blk w' b (ints ((List.range N).map fun k => inR (V k) (-2147483648) 2147483648)) 3 ∧ Below w.heap.size w w' := by
  have hmk := run_make_ints N (by omega)
  have hw : IntKind.i64.wrap (N : Int) = (N : Int) := IntWalk.i64_in _ (by omega)
  refine callsIn_of_wp_marks Try.func53 rfl trivial ?_ rfl
  simp only [Try.ntmps53, List.size_toArray, List.length_cons, List.length_nil, Nat.reduceAdd, Nat.reduceSub, Array.replicate_succ, Array.replicate_zero, List.push_toArray, List.append_toArray, List.nil_append, List.cons_append]
  have n1 : 1 ≤ n := by omega
  have n2 : 1 ≤ n - 1 - 1 := by omega
  have hmx : Try.prog.follows .mixedOrders = true := by kernel_rfl
  gi_wp2_with ((try (refine ⟨trivial, ?_⟩)); gi_at_call 69; refine (callsIn_wide.2 (pixels_any _ _ _ _ _ _)).mono ?_; rintro e w' ⟨rfl, rfl⟩)
  obtain ⟨W0, hW0, k0, k1, k2, k3, k4, hB0, hsz⟩ := alloc5 w #[.func (.func f) #[] cap] 87 #[.int .i64 0, .int .i64 0, .slice none 0 0] 24 (ints (List.replicate N 0)) 3 #[.int .i64 W, .int .i64 H, .slice (some ⟨w.heap.size + 1 + 1, 0, none⟩) N N] 86 #[.int .i64 W, .int .i64 H, .slice (some ⟨w.heap.size + 1 + 1, 0, none⟩) N N] 86
  rw [hW0]
  clear hW0
  have hG0 : PixG (w.heap.size + 1 + 1 + 1 + 1) (w.heap.size + 1 + 1) 0 N N W H (fun _ _ => True) W0 :=
    ⟨k4.cells 0, k4.cells 1, k4.cells 2, fun j hj => ⟨0, trivial, by rw [k2.cells, ints_get, Nat.zero_add, List.getElem?_replicate, if_pos hj]; rfl⟩⟩
  refine wpIn_rangeFunc_ownH rfl n1 (gf := 110) (lb := #[.pointer (some ⟨w.heap.size + 1 + 1 + 1 + 1, 0, none⟩)]) rfl trivial (enters_of Try.func110 (by kernel_rfl) rfl)
    (pix_stops (n - 1) (w.heap.size + 1 + 1 + 1 + 1) (w.heap.size + 1 + 1) 0 N N W H (fun _ _ => True) (by omega) w0 (by omega) W0 (by omega) (by omega) hG0)
    (fun hAB hBC hA => hBC (hAB hA))
    (fun W1 l o o' hl ho hc _ hG => PixG.putObj hG ho hc)
    (Below.refl _ _) (fun _ => rfl)
    (fun pre W1 => (∃ zs, Put N V pre zs ∧ Blk W1 (w.heap.size + 1 + 1) (ints zs) 3) ∧ (Blk W1 w.heap.size #[.func (.func f) #[] cap] 87 ∧ Blk W1 (w.heap.size + 1) #[.int .i64 0, .int .i64 0, .slice none 0 0] 24 ∧ Blk W1 (w.heap.size + 1 + 1 + 1) #[.int .i64 W, .int .i64 H, .slice (some ⟨w.heap.size + 1 + 1, 0, none⟩) N N] 86 ∧ Blk W1 (w.heap.size + 1 + 1 + 1 + 1) #[.int .i64 W, .int .i64 H, .slice (some ⟨w.heap.size + 1 + 1, 0, none⟩) N N] 86) ∧ Below w.heap.size w W1)
    (fun _ _ _ => False)
    (fun s X Y row hs hg hr => by
      obtain ⟨⟨zs, hp, kz⟩, ⟨b0, b1, b3, b4⟩, hb⟩ := hs
      have hr' := fun r e => (hr r e).2
      exact ⟨⟨zs, hp, kz.own hg hr'⟩, ⟨b0.own hg hr', b1.own hg hr', b3.own hg hr', b4.own hg hr'⟩, ownFrom_below (β := Unit) (Nat.le_refl _) hB0.size () X Y row hb hg hr⟩)
    (fun _ _ _ _ _ hs _ _ => hs)
    ⟨⟨_, ⟨List.length_replicate, fun _ h => by cases h⟩, k2⟩, ⟨k0, k1, k3, k4⟩, hB0⟩
    (fun x a' W1 => ∃ Bx, Blk W1 Bx #[.int .i64 ((x.1.1 : Int) % W), .int .i64 ((x.1.1 : Int) / W)] 83 ∧ w.heap.size + 1 + 1 + 1 + 1 < Bx ∧ a' = { tmps := #[.int .i64 W, .int .i64 H, .func (.func f) #[] cap, undef, undef, .pointer (some ⟨w.heap.size, 0, none⟩), .pointer (some ⟨w.heap.size + 1, 0, none⟩), .pointer (some ⟨w.heap.size + 1 + 1 + 1, 0, none⟩), .pointer (some ⟨Bx, 0, none⟩), .int .i64 W, .int .i64 H, .int .i64 W, .int .i64 H, .int .i64 N, .slice (some ⟨w.heap.size + 1 + 1, 0, none⟩) N N, .agg #[.int .i64 W, .int .i64 H, .slice (some ⟨w.heap.size + 1 + 1, 0, none⟩) N N], .agg #[.int .i64 W, .int .i64 H, .slice (some ⟨w.heap.size + 1 + 1, 0, none⟩) N N], .func (.func 110) #[] #[.pointer (some ⟨w.heap.size + 1 + 1 + 1 + 1, 0, none⟩)], .agg #[.int .i64 ((x.1.1 : Int) % W), .int .i64 ((x.1.1 : Int) / W)], .int .i64 x.1.2, undef, undef, undef, undef, undef, undef, undef, undef, undef, undef, undef], defers := [] })
    (fun x a' _ X Y row hs hg hr => by obtain ⟨Bx, h1, h2, h3⟩ := hs; exact ⟨Bx, h1.own hg (fun r e => (hr r e).2), h2, h3⟩)
    ?assign ?body ?done ?stop
  case assign =>
    rintro l pre x W1 K ⟨⟨zs, hp, kz⟩, ⟨b0, b1, b3, b4⟩, hb⟩ hK
    simp only [pxEnc]
    gi_wp2
    exact hK _ _ ((KeepsOthers.alloc _ _).from _) (fun hG => hG.alloc _) ⟨⟨zs, hp, kz.alloc⟩, ⟨b0.alloc, b1.alloc, b3.alloc, b4.alloc⟩, hb.alloc hb.size _⟩ ⟨W1.heap.size, Blk.new rfl, by have := b4.lt; omega, rfl⟩
  case body =>
    rintro l pre x a' W1 hl _ ⟨⟨zs, hp, k3⟩, ⟨k0, kr, k1, k4⟩, hB⟩ ⟨Bx, k2, hx, rfl⟩ hlt
    obtain ⟨⟨k, z⟩, hk, ht⟩ := x
    have hp' := hp.snoc ⟨(k, z), hk, ht⟩
    dsimp only at hk k2 hp' ⊢
    have hkN : (k : Int) < (N : Int) := by omega
    have hk0 : (0 : Int) ≤ (k : Int) := by omega
    obtain ⟨v1, v2, v3, v4, v5, v6⟩ := small_div k W w0 (by omega)
    have HI := Lib.hid (fun w' => index_any W H ((k : Int) % W) ((k : Int) / W) k (some ⟨w.heap.size + 1 + 1, 0, none⟩) N N (Lib.hid (by have := Int.mul_ediv_add_emod (k : Int) W; rw [Int.mul_comm]; exact this)) v3 (by
      have : (k : Int) / W < H := Int.ediv_lt_of_lt_mul (by omega) (by rw [Int.mul_comm, hN]; omega)
      omega) (by omega) (by omega) v5 (by omega) w')
    obtain ⟨z0, hz0⟩ : ∃ z0, (ints zs)[k]? = some (.int .i64 z0) := ⟨zs[k]'(by rw [hp.1]; exact hk), by rw [ints_get, List.getElem?_eq_getElem (by rw [hp.1]; exact hk)]; rfl⟩
    have HV1 := Lib.hid (HV.out k hk)
    obtain ⟨a0, b0⟩ := k0.read; obtain ⟨a1, b1⟩ := k1.read; obtain ⟨a2, b2⟩ := k2.read; obtain ⟨a3, b3⟩ := k3.read; obtain ⟨a4, b4⟩ := k4.read
    have hw1 := k4.lt
    have HB1 := Lib.hid hB
    clear v1 v2 v3 v4 v5 v6 hmk hw hN hG0
    gi_wp2
    refine held_in (fun w' => (Blk w' w.heap.size #[.func (.func f) #[] cap] 87 ∧ (∀ i : Nat, w'.cell? ⟨w.heap.size, i, none⟩ = (#[.func (.func f) #[] cap] : Array Value)[i]?)) ∧ (Blk w' (w.heap.size + 1 + 1 + 1) #[.int .i64 W, .int .i64 H, .slice (some ⟨w.heap.size + 1 + 1, 0, none⟩) N N] 86 ∧ (∀ i : Nat, w'.cell? ⟨w.heap.size + 1 + 1 + 1, i, none⟩ = (#[.int .i64 W, .int .i64 H, .slice (some ⟨w.heap.size + 1 + 1, 0, none⟩) N N] : Array Value)[i]?)) ∧ (Blk w' Bx #[.int .i64 ((k : Int) % W), .int .i64 ((k : Int) / W)] 83 ∧ (∀ i : Nat, w'.cell? ⟨Bx, i, none⟩ = (#[.int .i64 ((k : Int) % W), .int .i64 ((k : Int) / W)] : Array Value)[i]?)) ∧ Below w.heap.size w w') hmx (by kernel_rfl) (by rintro ⟨_, _, h⟩; exact h) ⟨k0.drew.full, k1.drew.full, k2.drew.full, hB.drew⟩ (fun hHeld => ?_)
    refine wpAnyH_take (i := 0) (v := ?_) rfl (by kernel_rfl) (by kernel_rfl) (by kernel_rfl) (fun _ _ _ h => h) (Or.inl ⟨by rfl, ?hT0⟩) (by assumption) ?_
    case hT0 => ((intro w hSw; (try dsimp only at hSw); go_simp); try (with_reducible rfl))
    try simp only [Act.put, List.setIfInBounds_toArray, List.set_cons_zero, List.set_cons_succ]
    refine wpAnyH_take (i := 1) (v := ?_) rfl (by kernel_rfl) (by kernel_rfl) (by kernel_rfl) (fun _ _ _ h => h) (Or.inl ⟨by rfl, ?hT1⟩) (by assumption) ?_
    case hT1 => ((intro w hSw; (try dsimp only at hSw); go_simp); try (with_reducible rfl))
    try simp only [Act.put, List.setIfInBounds_toArray, List.set_cons_zero, List.set_cons_succ]
    refine wpAnyH_take (i := 2) (v := ?_) rfl (by kernel_rfl) (by kernel_rfl) (by kernel_rfl) (fun _ _ _ h => h) (Or.inl ⟨by rfl, ?hT2⟩) (by assumption) ?_
    case hT2 => ((intro w hSw; (try dsimp only at hSw); go_simp); try (with_reducible rfl))
    try simp only [Act.put, List.setIfInBounds_toArray, List.set_cons_zero, List.set_cons_succ]
    refine wpAnyH_take (i := 3) (v := ?_) rfl (by kernel_rfl) (by kernel_rfl) (by kernel_rfl) (fun _ _ _ h => h) (Or.inl ⟨by rfl, ?hT3⟩) (by assumption) ?_
    case hT3 => ((intro w hSw; (try dsimp only at hSw); go_simp); try (with_reducible rfl))
    try simp only [Act.put, List.setIfInBounds_toArray, List.set_cons_zero, List.set_cons_succ]
    refine wpAnyH_take (i := 5) (v := ?_) rfl (by kernel_rfl) (by kernel_rfl) (by kernel_rfl) (fun _ _ _ h => h) (Or.inl ⟨by rfl, ?hT4⟩) (by assumption) ?_
    case hT4 => ((intro w hSw; (try dsimp only at hSw); go_simp); try (with_reducible rfl))
    try simp only [Act.put, List.setIfInBounds_toArray, List.set_cons_zero, List.set_cons_succ]
    refine wpAnyH_take (i := 6) (v := ?_) rfl (by kernel_rfl) (by kernel_rfl) (by kernel_rfl) (fun _ _ _ h => h) (Or.inl ⟨by rfl, ?hT5⟩) (by assumption) ?_
    case hT5 => ((intro w hSw; (try dsimp only at hSw); go_simp); try (with_reducible rfl))
    try simp only [Act.put, List.setIfInBounds_toArray, List.set_cons_zero, List.set_cons_succ]
    refine wpAnyH_ready (rs := [4]) (by kernel_rfl) (by simp) ?_
    refine AllReadyH.cons rfl (fun K hK => ?_) AllReadyH.nil
    go_simp
    (go_at_call 96; (with_reducible refine (HI.out _).mono ?_); rintro e wA ⟨rfl, hb⟩)
    refine hK.out _ _ ?_ (fun hHeldN => ?_)
    · (try dsimp only); (((first | (apply hold3; (focus assumption); intro p0 p1 p2 pB) | skip); refine ⟨Blk.full ?_, Blk.full ?_, Blk.full ?_, ?_⟩; all_goals (first | ((repeat' (first | (with_reducible assumption) | ((with_reducible refine Blk.new ?_); first | rfl | (simp; done)) | (with_reducible refine Blk.later (by assumption) ?_) | (with_reducible refine Blk.alloc ?_) | (with_reducible refine Blk.drewN ?_) | (with_reducible refine Blk.drew ?_) | (with_reducible refine Blk.other ?_ (by first | omega | (simp; done) | (simp; omega))))); done) | ((repeat' (first | (with_reducible exact Below.refl _ _) | (with_reducible assumption) | (with_reducible refine belowThru ?_ (by assumption)) | (with_reducible refine belowAlloc ?_) | (with_reducible refine Below.setCell ?_ (by first | omega | (simp; done) | (simp; omega)) _) | (with_reducible refine Below.drew ?_) | (with_reducible refine below_drewN ?_ _))); done))))
    clear hK K hHeld
    have hHeld := hHeldN
    clear hHeldN
    try simp only [Act.put, List.setIfInBounds_toArray, List.set_cons_zero, List.set_cons_succ]
    have hA : Below W1.heap.size W1 wA := ((Below.refl _ W1).drew).trans hb
    clear hb
    refine wpAnyH_ready (rs := [7]) (by kernel_rfl) (by simp) ?_
    refine AllReadyH.cons rfl (fun K hK => ?_) AllReadyH.nil
    go_simp
    (go_at_fn f; (with_reducible refine (HV1.out _ (HB1.out.trans (hA.mono HB1.out.size))).mono ?_); rintro e wB ⟨rfl, hb⟩)
    refine hK.out _ _ ?_ (fun hHeldN => ?_)
    · (try dsimp only); (((first | (apply hold3; (focus assumption); intro p0 p1 p2 pB) | skip); refine ⟨Blk.full ?_, Blk.full ?_, Blk.full ?_, ?_⟩; all_goals (first | ((repeat' (first | (with_reducible assumption) | ((with_reducible refine Blk.new ?_); first | rfl | (simp; done)) | (with_reducible refine Blk.later (by assumption) ?_) | (with_reducible refine Blk.alloc ?_) | (with_reducible refine Blk.drewN ?_) | (with_reducible refine Blk.drew ?_) | (with_reducible refine Blk.other ?_ (by first | omega | (simp; done) | (simp; omega))))); done) | ((repeat' (first | (with_reducible exact Below.refl _ _) | (with_reducible assumption) | (with_reducible refine belowThru ?_ (by assumption)) | (with_reducible refine belowAlloc ?_) | (with_reducible refine Below.setCell ?_ (by first | omega | (simp; done) | (simp; omega)) _) | (with_reducible refine Below.drew ?_) | (with_reducible refine below_drewN ?_ _))); done))))
    clear hK K hHeld
    have hHeld := hHeldN
    clear hHeldN
    try simp only [Act.put, List.setIfInBounds_toArray, List.set_cons_zero, List.set_cons_succ]
    have hAB : Below W1.heap.size W1 wB := hA.trans (hb.mono hA.size)
    clear hb hA
    refine wpAnyH_ready (rs := [8]) (by kernel_rfl) (by simp) ?_
    refine AllReadyH.cons rfl (fun K hK => ?_) AllReadyH.nil
    go_simp
    (go_at_call 55; (with_reducible refine (bring_any _ _ _ _).mono ?_); rintro e w1 ⟨rfl, rfl⟩)
    refine hK.out _ _ ?_ (fun hHeldN => ?_)
    · (try dsimp only); (((first | (apply hold3; (focus assumption); intro p0 p1 p2 pB) | skip); refine ⟨Blk.full ?_, Blk.full ?_, Blk.full ?_, ?_⟩; all_goals (first | ((repeat' (first | (with_reducible assumption) | ((with_reducible refine Blk.new ?_); first | rfl | (simp; done)) | (with_reducible refine Blk.later (by assumption) ?_) | (with_reducible refine Blk.alloc ?_) | (with_reducible refine Blk.drewN ?_) | (with_reducible refine Blk.drew ?_) | (with_reducible refine Blk.other ?_ (by first | omega | (simp; done) | (simp; omega))))); done) | ((repeat' (first | (with_reducible exact Below.refl _ _) | (with_reducible assumption) | (with_reducible refine belowThru ?_ (by assumption)) | (with_reducible refine belowAlloc ?_) | (with_reducible refine Below.setCell ?_ (by first | omega | (simp; done) | (simp; omega)) _) | (with_reducible refine Below.drew ?_) | (with_reducible refine below_drewN ?_ _))); done))))
    clear hK K hHeld
    have hHeld := hHeldN
    clear hHeldN
    try simp only [Act.put, List.setIfInBounds_toArray, List.set_cons_zero, List.set_cons_succ]
    refine wpAnyH_take (i := 9) (v := ?_) rfl (by kernel_rfl) (by kernel_rfl) (by kernel_rfl) (fun _ _ _ h => h) (Or.inl ⟨by rfl, ?hT6⟩) (by assumption) ?_
    case hT6 => ((intro w hSw; (try dsimp only at hSw); go_simp); try (with_reducible rfl))
    try simp only [Act.put, List.setIfInBounds_toArray, List.set_cons_zero, List.set_cons_succ]
    have k3' := Blk.later hAB k3
    obtain ⟨a3', b3'⟩ := k3'.read
    refine wpAnyH_ready (rs := [10]) (by kernel_rfl) (by simp) ?_
    refine AllReadyH.cons rfl (fun K hK => ?_) AllReadyH.nil
    go_simp
    refine hK.out _ _ ?_ (fun hHeldN => ?_)
    · (try dsimp only); (((first | (apply hold3; (focus assumption); intro p0 p1 p2 pB) | skip); refine ⟨Blk.full ?_, Blk.full ?_, Blk.full ?_, ?_⟩; all_goals (first | ((repeat' (first | (with_reducible assumption) | ((with_reducible refine Blk.new ?_); first | rfl | (simp; done)) | (with_reducible refine Blk.later (by assumption) ?_) | (with_reducible refine Blk.alloc ?_) | (with_reducible refine Blk.drewN ?_) | (with_reducible refine Blk.drew ?_) | (with_reducible refine Blk.other ?_ (by first | omega | (simp; done) | (simp; omega))))); done) | ((repeat' (first | (with_reducible exact Below.refl _ _) | (with_reducible assumption) | (with_reducible refine belowThru ?_ (by assumption)) | (with_reducible refine belowAlloc ?_) | (with_reducible refine Below.setCell ?_ (by first | omega | (simp; done) | (simp; omega)) _) | (with_reducible refine Below.drew ?_) | (with_reducible refine below_drewN ?_ _))); done))))
    clear hK K hHeld
    have hHeld := hHeldN
    clear hHeldN
    try simp only [Act.put, List.setIfInBounds_toArray, List.set_cons_zero, List.set_cons_succ]
    refine wpAnyH_done (by kernel_rfl) ?_ _
    gi_wp2
    obtain ⟨⟨q0, -⟩, ⟨q1, -⟩, -, qB⟩ := hHeld
    have q3 : Blk (wB.setCell ⟨w.heap.size + 1 + 1, k, none⟩ (.int .i64 (inR (V k) (-2147483648) 2147483648))) (w.heap.size + 1 + 1) (ints (zs.set k (inR (V k) (-2147483648) 2147483648))) 3 := by rw [← ints_set]; exact Blk.set k3'
    have q4 := Blk.other (a := ⟨w.heap.size + 1 + 1, k, none⟩) (v := .int .i64 (inR (V k) (-2147483648) 2147483648)) (Blk.later hAB k4) (by simp; omega)
    have qr := Blk.other (a := ⟨w.heap.size + 1 + 1, k, none⟩) (v := .int .i64 (inR (V k) (-2147483648) 2147483648)) (Blk.later hAB kr) (by simp)
    refine ⟨(KeepsFrom.of_below hAB).trans ((KeepsOthers.setCell _ _ _).from _), fun _ => ⟨q4.cells 0, q4.cells 1, q4.cells 2, fun j hj => ?_⟩, ⟨⟨_, hp', q3⟩, ⟨q0, qr, q1, q4⟩, qB⟩⟩
    have hl := hp'.1
    exact ⟨(zs.set k (inR (V k) (-2147483648) 2147483648))[j]'(by omega), trivial, by rw [q3.cells, ints_get, Nat.zero_add, List.getElem?_eq_getElem (by omega)]; rfl⟩
  case done =>
    rintro D xs W1 hD hall ⟨⟨zs, hp, kz⟩, ⟨b0, b1, b3, b4⟩, hb⟩ hK
    obtain ⟨e1, f1⟩ := b1.read
    obtain ⟨e3, f3⟩ := b3.read
    rw [hp.all hall] at kz
    have kr : Blk (((W1.setCell ⟨w.heap.size + 1, 0, none⟩ (.int .i64 W)).setCell ⟨w.heap.size + 1, 1, none⟩ (.int .i64 H)).setCell ⟨w.heap.size + 1, 2, none⟩ (.slice (some ⟨w.heap.size + 1 + 1, 0, none⟩) N N)) (w.heap.size + 1) #[.int .i64 W, .int .i64 H, .slice (some ⟨w.heap.size + 1 + 1, 0, none⟩) N N] 24 := Blk.set (Blk.set (Blk.set b1))
    have kz' : Blk (((W1.setCell ⟨w.heap.size + 1, 0, none⟩ (.int .i64 W)).setCell ⟨w.heap.size + 1, 1, none⟩ (.int .i64 H)).setCell ⟨w.heap.size + 1, 2, none⟩ (.slice (some ⟨w.heap.size + 1 + 1, 0, none⟩) N N)) (w.heap.size + 1 + 1) (ints ((List.range N).map fun k => inR (V k) (-2147483648) 2147483648)) 3 := by (repeat' (first | (with_reducible assumption) | ((with_reducible refine Blk.new ?_); first | rfl | (simp; done)) | (with_reducible refine Blk.later (by assumption) ?_) | (with_reducible refine Blk.alloc ?_) | (with_reducible refine Blk.drewN ?_) | (with_reducible refine Blk.drew ?_) | (with_reducible refine Blk.other ?_ (by first | omega | (simp; done) | (simp; omega)))))
    have hK' := (((KeepsOthers.setCell W1 ⟨w.heap.size + 1, 0, none⟩ (.int .i64 W)).trans (KeepsOthers.setCell _ ⟨w.heap.size + 1, 1, none⟩ (.int .i64 H))).trans (KeepsOthers.setCell _ ⟨w.heap.size + 1, 2, none⟩ (.slice (some ⟨w.heap.size + 1 + 1, 0, none⟩) N N))).same D _ hK rfl
    have hb' : Below w.heap.size w (((W1.setCell ⟨w.heap.size + 1, 0, none⟩ (.int .i64 W)).setCell ⟨w.heap.size + 1, 1, none⟩ (.int .i64 H)).setCell ⟨w.heap.size + 1, 2, none⟩ (.slice (some ⟨w.heap.size + 1 + 1, 0, none⟩) N N)) := by (repeat' (first | (with_reducible exact Below.refl _ _) | (with_reducible assumption) | (with_reducible refine belowThru ?_ (by assumption)) | (with_reducible refine belowAlloc ?_) | (with_reducible refine Below.setCell ?_ (by first | omega | (simp; done) | (simp; omega)) _) | (with_reducible refine Below.drew ?_) | (with_reducible refine below_drewN ?_ _)))
    gi_wp2
    obtain ⟨Wf, hWf⟩ : ∃ Wf, ((W1.setCell ⟨w.heap.size + 1, 0, none⟩ (.int .i64 W)).setCell ⟨w.heap.size + 1, 1, none⟩ (.int .i64 H)).setCell ⟨w.heap.size + 1, 2, none⟩ (.slice (some ⟨w.heap.size + 1 + 1, 0, none⟩) N N) = Wf := ⟨_, rfl⟩
    rw [hWf] at kr kz' hK' hb' ⊢
    clear hWf
    have kr2 := kr.own (grownBy_putObj' Wf D (.deferred none)) (fun r e => by cases e; exact ⟨_, hK', rfl⟩)
    have kz2 := kz'.own (grownBy_putObj' Wf D (.deferred none)) (fun r e => by cases e; exact ⟨_, hK', rfl⟩)
    have er := kr2.read.1
    refine ⟨by simp, .inl ⟨_, _, rfl, run_takeDeferred hK', ?_⟩⟩
    refine ⟨.agg #[.int .i64 W, .int .i64 H, .slice (some ⟨w.heap.size + 1 + 1, 0, none⟩) N N], ?_, _, rfl, by omega, kz2, hb'.trans (belowK_b (w := w) (Nat.le_refl _) Wf D _ _ (by omega) hK' rfl rfl)⟩
    simp only [results, Try.results53]
    go_simp
  case stop =>
    rintro D c pre W1 _ _ h _
    exact h.elim

/-- The new image of the values that a function gives for its places. -/
theorem build_any (W H : Int) (N : Nat) (f : FuncId) (cap : Array Value) (V : Nat → Int) (hN : W * H = (N : Int)) (w0 : 1 ≤ W) (w1 : W ≤ 16) (h0 : 1 ≤ H) (h1 : H ≤ 16) (N1 : N ≤ 256)
    (ef : ∀ args w, (callFunc f args).run Try.prog w = .ok (.enter f args) w) (w : World)
    (HV : Hid (∀ k, k < N → ∀ W1, Below w.heap.size w W1 → Calls Try.prog f (#[.agg #[.int .i64 ((k : Int) % W), .int .i64 ((k : Int) / W)]] ++ cap) W1 fun e W2 => e = .returned (.int .i64 (V k)) ∧ Below W1.heap.size W1 W2)) :
    Calls Try.prog 53 #[.int .i64 W, .int .i64 H, .func (.func f) #[] cap] w fun e w' => ∃ b, e = .returned (.agg #[.int .i64 W, .int .i64 H, .slice (some ⟨b, 0, none⟩) N N]) ∧ w.heap.size ≤ b ∧ Blk w' b (ints ((List.range N).map fun k => inR (V k) (-2147483648) 2147483648)) 3 ∧ Below w.heap.size w w' :=
  (callsIn_wide (n := 9)).1 (build_in 9 (by omega) W H N f cap V hN w0 w1 h0 h1 N1 ef w HV)
end Go.Proofs.Ytghmjdmiaajbnaa
/-
  Layer 2: warped, turned and flipped images, by the code: the value of a place.
-/
namespace Go.Proofs.Ytghmjdmiaajbnaa
open Go.RowKit
set_option linter.unusedVariables false
set_option linter.unusedSimpArgs false

theorem okI_at {W H : Int} {zs : List Int} (hI : okI W H zs) {x y : Int} (hp : inP W H x y) : okV (pixAt W zs x y) := by
  obtain ⟨p, e, hlt, -, -⟩ := inP_at hI.1.1 hI.1.2 hp
  have hl : p < zs.length := by have := hI.2.1; omega
  unfold pixAt
  rw [e, Int.toNat_natCast, List.getElem?_eq_getElem hl]
  exact hI.2.2 _ (List.getElem_mem hl)
theorem inR_ok {v : Int} (h : okV v) : inR v (-2147483648) 2147483648 = v := by unfold inR; obtain ⟨a, b⟩ := h; omega

set_option maxRecDepth 100000 in
set_option maxHeartbeats 2000000 in
theorem turn1_any (W H x y : Int) (a : Option Addr) (n c : Nat) (zs : List Int) (hI : okI W H zs) (hp : inP W H y (H - 1 - x)) (x0 : 0 ≤ x) (x1 : x ≤ 64) (bm : Nat) (w : World)
    (hR : Row w a n (iv zs)) (km : Blk w bm #[.int .i64 W, .int .i64 H, .slice a n c] 24) :
    Calls Try.prog 94 #[.agg #[.int .i64 x, .int .i64 y], .pointer (some ⟨bm, 0, none⟩)] w fun e w' => e = .returned (.int .i64 (pixAt W zs y (H - 1 - x))) ∧ Below w.heap.size w w' := by
  have HA := Lib.hid (fun w hR => at_z W H y (H - 1 - x) a n c zs hI hp w hR)
  have HR := Lib.hid hR
  obtain ⟨⟨-, h0, h1⟩, -⟩ := hI
  have k1 := km.alloc (o := .cells #[.int .i64 x, .int .i64 y] 83)
  obtain ⟨a1, b1⟩ := k1.read
  have z1 := km.lt
  clear hR hp km
  go_enter Try.func94, Try.ntmps94
  go_wp2_with (go_at_call 57; (with_reducible refine (HA.out _ (HR.out.later (by (repeat' (first | (with_reducible exact Below.refl _ _) | (with_reducible assumption) | (with_reducible refine belowThru ?_ (by assumption)) | (with_reducible refine belowAlloc ?_) | (with_reducible refine Below.setCell ?_ (by first | omega | (simp; done) | (simp; omega)) _) | (with_reducible refine Below.drew ?_) | (with_reducible refine below_drewN ?_ _)))))).mono ?_); rintro e w1 ⟨rfl, hb⟩; (try (have zk := k1.lt; (first | ((with_reducible refine Blk.keepG hb k1 (fun h => ?_) ?_); (focus ((repeat' (first | (with_reducible assumption) | ((with_reducible refine Blk.new ?_); first | rfl | (simp; done)) | (with_reducible refine Blk.later (by assumption) ?_) | (with_reducible refine Blk.alloc ?_) | (with_reducible refine Blk.drewN ?_) | (with_reducible refine Blk.drew ?_) | (with_reducible refine Blk.other ?_ (by first | omega | (simp; done) | (simp; omega))))); done)); clear k1; intro k1) | (with_reducible replace k1 := Blk.later hb (Blk.set (Blk.set k1))) | (with_reducible replace k1 := Blk.later hb (Blk.set k1))); clear a1 b1; obtain ⟨a1, b1⟩ := k1.read; have zl := k1.lt)))
  go_ret
  exact ⟨rfl, by (repeat' (first | (with_reducible exact Below.refl _ _) | (with_reducible assumption) | (with_reducible refine belowThru ?_ (by assumption)) | (with_reducible refine belowAlloc ?_) | (with_reducible refine Below.setCell ?_ (by first | omega | (simp; done) | (simp; omega)) _) | (with_reducible refine Below.drew ?_) | (with_reducible refine below_drewN ?_ _)))⟩
end Go.Proofs.Ytghmjdmiaajbnaa
/-
  Layer 2: warped, turned and flipped images, by the code.
-/
namespace Go.Proofs.Ytghmjdmiaajbnaa
open Go.RowKit
set_option linter.unusedVariables false
set_option linter.unusedSimpArgs false

/-- A new slice of these numbers, in memory of its own. -/
def New (B : Nat) (w' : World) (a : Option Addr) (n : Nat) (zs : List Int) : Prop :=
  zs.length = n ∧ ((a = none ∧ n = 0) ∨ ∃ b, a = some ⟨b, 0, none⟩ ∧ B ≤ b ∧ Blk w' b (ints zs) 3)
/-- An image and an error are returned, the image in memory of its own; what was there is as it was. -/
def RetI (W H : Int) (zs : List Int) (E : Int) (w : World) (e : Ending) (w' : World) : Prop :=
  ∃ (a : Option Addr) (n c : Nat), e = .returned (.tuple #[.agg #[.int .i64 W, .int .i64 H, .slice a n c], .int .i64 E]) ∧ New w.heap.size w' a n zs ∧ Below w.heap.size w w'
theorem RetI.none {E : Int} {w w' : World} (h : Below w.heap.size w w') : RetI 0 0 [] E w (.returned (.tuple #[.agg #[.int .i64 0, .int .i64 0, .slice none 0 0], .int .i64 E])) w' := ⟨Option.none, 0, 0, rfl, ⟨rfl, .inl ⟨rfl, rfl⟩⟩, h⟩
theorem RetI.made {W H E : Int} {zs : List Int} {w w' : World} {b n c : Nat} (hn : zs.length = n) (hB : w.heap.size ≤ b) (k : Blk w' b (ints zs) 3) (h : Below w.heap.size w w') :
    RetI W H zs E w (.returned (.tuple #[.agg #[.int .i64 W, .int .i64 H, .slice (some ⟨b, 0, Option.none⟩) n c], .int .i64 E])) w' := ⟨_, _, _, rfl, ⟨hn, .inr ⟨b, rfl, hB, k⟩⟩, h⟩
theorem icheck_ok {W H : Int} {zs : List Int} (h : okI W H zs) (a : Option Addr) (n c : Nat) (hn : n ≤ maxLen) (w : World) (hR : Row w a n (iv zs)) :
    Calls Try.prog 51 #[.agg #[.int .i64 W, .int .i64 H, .slice a n c]] w fun e w' => e = .returned (.int .i64 0) ∧ Below w.heap.size w w' := by
  have := icheck_any W H a n c zs hn w hR; rw [ckI_ok h] at this; exact this
/-- The numbers of a new image. -/
def made (N : Nat) (V : Nat → Int) : List Int := (List.range N).map V
theorem made_length (N : Nat) (V : Nat → Int) : (made N V).length = N := by simp [made]
theorem made_in (N : Nat) (V : Nat → Int) (h : ∀ k, k < N → okV (V k)) : ((List.range N).map fun k => inR (V k) (-2147483648) 2147483648) = made N V :=
  List.map_congr_left (fun k hk => inR_ok (h k (List.mem_range.1 hk)))
theorem place_in {W H : Int} {N k : Nat} (hW : okS W) (hH : okS H) (hN : W * H = (N : Int)) (hk : k < N) : (0 ≤ (k : Int) % W ∧ (k : Int) % W < W) ∧ 0 ≤ (k : Int) / W ∧ (k : Int) / W < H := by
  obtain ⟨w0, w1⟩ := hW
  refine ⟨⟨Int.emod_nonneg _ (by omega), Int.emod_lt_of_pos _ (by omega)⟩, Int.ediv_nonneg (by omega) (by omega), Int.ediv_lt_of_lt_mul (by omega) ?_⟩
  rw [Int.mul_comm, hN]; omega

set_option maxRecDepth 100000 in
set_option maxHeartbeats 4000000 in
theorem turn_ok (W H : Int) (a : Option Addr) (n c : Nat) (zs : List Int) (hI : okI W H zs) (hn : n ≤ maxLen) (w : World) (hR : Row w a n (iv zs)) :
    Calls Try.prog 49 #[.agg #[.int .i64 W, .int .i64 H, .slice a n c]] w (RetI H W (made zs.length fun k => pixAt W zs ((k : Int) / H) (H - 1 - (k : Int) % H)) 0 w) := by
  have HK := Lib.hid (icheck_ok hI a n c hn)
  have HR := Lib.hid hR
  have hN : H * W = (zs.length : Int) := by rw [hI.2.1, Int.mul_comm]
  have hW := hI.1.1
  have hH := hI.1.2
  have hm := okS_mul hH hW
  have HP : Hid (∀ k, k < zs.length → inP W H ((k : Int) / H) (H - 1 - (k : Int) % H)) := fun k hk => by
    have := place_in hH hW hN hk
    unfold inP; omega
  clear hR hn
  go_enter Try.func49, Try.ntmps49
  go_upto_region 4 with (go_at_call 51; (with_reducible refine (HK.out _ (HR.out.later (by (repeat' (first | (with_reducible exact Below.refl _ _) | (with_reducible assumption) | (with_reducible refine belowThru ?_ (by assumption)) | (with_reducible refine belowAlloc ?_) | (with_reducible refine Below.setCell ?_ (by first | omega | (simp; done) | (simp; omega)) _) | (with_reducible refine Below.drew ?_) | (with_reducible refine below_drewN ?_ _)))))).mono ?_); rintro e w1 ⟨rfl, hb⟩; (first | ((with_reducible have k0 := Blk.later hb (Blk.alloc (Blk.new rfl))); (with_reducible have k1 := Blk.later hb (Blk.new rfl)); simp only [World.size_alloc] at k1; obtain ⟨a0, b0⟩ := k0.read; have zl := k0.lt; obtain ⟨a1, b1⟩ := k1.read; have zl := k1.lt) | ((try (have zk := k0.lt; (first | ((with_reducible refine Blk.keepG hb k0 (fun h => ?_) ?_); (focus ((repeat' (first | (with_reducible assumption) | ((with_reducible refine Blk.new ?_); first | rfl | (simp; done)) | (with_reducible refine Blk.later (by assumption) ?_) | (with_reducible refine Blk.alloc ?_) | (with_reducible refine Blk.drewN ?_) | (with_reducible refine Blk.drew ?_) | (with_reducible refine Blk.other ?_ (by first | omega | (simp; done) | (simp; omega))))); done)); clear k0; intro k0) | (with_reducible replace k0 := Blk.later hb (Blk.set (Blk.set k0))) | (with_reducible replace k0 := Blk.later hb (Blk.set k0))); clear a0 b0; obtain ⟨a0, b0⟩ := k0.read; have zl := k0.lt)); (try (have zk := k1.lt; (first | ((with_reducible refine Blk.keepG hb k1 (fun h => ?_) ?_); (focus ((repeat' (first | (with_reducible assumption) | ((with_reducible refine Blk.new ?_); first | rfl | (simp; done)) | (with_reducible refine Blk.later (by assumption) ?_) | (with_reducible refine Blk.alloc ?_) | (with_reducible refine Blk.drewN ?_) | (with_reducible refine Blk.drew ?_) | (with_reducible refine Blk.other ?_ (by first | omega | (simp; done) | (simp; omega))))); done)); clear k1; intro k1) | (with_reducible replace k1 := Blk.later hb (Blk.set (Blk.set k1))) | (with_reducible replace k1 := Blk.later hb (Blk.set k1))); clear a1 b1; obtain ⟨a1, b1⟩ := k1.read; have zl := k1.lt)))))
  have HV := Lib.hid (fun (k : Nat) (hk : k < zs.length) W1 (hW1 : Below _ _ W1) => turn1_any W H ((k : Int) % H) ((k : Int) / H) a n c zs hI (HP.out k hk) (place_in hH hW hN hk).1.1 (by have := place_in hH hW hN hk; unfold okS at hH; omega) w.heap.size W1 (HR.out.later (by (repeat' (first | (with_reducible exact Below.refl _ _) | (with_reducible assumption) | (with_reducible refine belowThru ?_ (by assumption)) | (with_reducible refine belowAlloc ?_) | (with_reducible refine Below.setCell ?_ (by first | omega | (simp; done) | (simp; omega)) _) | (with_reducible refine Below.drew ?_) | (with_reducible refine below_drewN ?_ _))))) (Blk.later hW1 k0))
  have HB := Lib.hid (build_any H W zs.length 94 #[.pointer (some ⟨w.heap.size, 0, none⟩)] (fun k => pixAt W zs ((k : Int) / H) (H - 1 - (k : Int) % H)) hN hH.1 hH.2 hW.1 hW.2 (by omega) (enters_of Try.func94 (by kernel_rfl) rfl) _ HV)
  rw [made_in _ _ (fun k hk => okI_at hI (HP.out k hk))] at HB
  clear HV
  go_wp2_with (go_at_call 53; (with_reducible refine (HB.out).mono ?_); rintro e w2 ⟨B, rfl, hB0, kB, hb⟩; (try (have zk := k0.lt; (first | ((with_reducible refine Blk.keepG hb k0 (fun h => ?_) ?_); (focus ((repeat' (first | (with_reducible assumption) | ((with_reducible refine Blk.new ?_); first | rfl | (simp; done)) | (with_reducible refine Blk.later (by assumption) ?_) | (with_reducible refine Blk.alloc ?_) | (with_reducible refine Blk.drewN ?_) | (with_reducible refine Blk.drew ?_) | (with_reducible refine Blk.other ?_ (by first | omega | (simp; done) | (simp; omega))))); done)); clear k0; intro k0) | (with_reducible replace k0 := Blk.later hb (Blk.set (Blk.set k0))) | (with_reducible replace k0 := Blk.later hb (Blk.set k0))); clear a0 b0; obtain ⟨a0, b0⟩ := k0.read; have zl := k0.lt)); (try (have zk := k1.lt; (first | ((with_reducible refine Blk.keepG hb k1 (fun h => ?_) ?_); (focus ((repeat' (first | (with_reducible assumption) | ((with_reducible refine Blk.new ?_); first | rfl | (simp; done)) | (with_reducible refine Blk.later (by assumption) ?_) | (with_reducible refine Blk.alloc ?_) | (with_reducible refine Blk.drewN ?_) | (with_reducible refine Blk.drew ?_) | (with_reducible refine Blk.other ?_ (by first | omega | (simp; done) | (simp; omega))))); done)); clear k1; intro k1) | (with_reducible replace k1 := Blk.later hb (Blk.set (Blk.set k1))) | (with_reducible replace k1 := Blk.later hb (Blk.set k1))); clear a1 b1; obtain ⟨a1, b1⟩ := k1.read; have zl := k1.lt)))
  exact bodyPost_ret (v := .tuple #[.agg #[.int .i64 H, .int .i64 W, .slice (some ⟨B, 0, none⟩) zs.length zs.length], .int .i64 0]) (by simp only [results, Try.results49]; go_simp) rfl (RetI.made (made_length _ _) (by omega) (by (repeat' (first | (with_reducible assumption) | ((with_reducible refine Blk.new ?_); first | rfl | (simp; done)) | (with_reducible refine Blk.later (by assumption) ?_) | (with_reducible refine Blk.alloc ?_) | (with_reducible refine Blk.drewN ?_) | (with_reducible refine Blk.drew ?_) | (with_reducible refine Blk.other ?_ (by first | omega | (simp; done) | (simp; omega)))))) (by (repeat' (first | (with_reducible exact Below.refl _ _) | (with_reducible assumption) | (with_reducible refine belowThru ?_ (by assumption)) | (with_reducible refine belowAlloc ?_) | (with_reducible refine Below.setCell ?_ (by first | omega | (simp; done) | (simp; omega)) _) | (with_reducible refine Below.drew ?_) | (with_reducible refine below_drewN ?_ _)))))
end Go.Proofs.Ytghmjdmiaajbnaa
/-
  Layer 2: an image in new memory; whether images are equal; an image whose values are changed.
-/
namespace Go.Proofs.Ytghmjdmiaajbnaa
open Go.RowKit
set_option linter.unusedVariables false
set_option linter.unusedSimpArgs false

set_option maxHeartbeats 2000000 in
theorem sameInts_any (a b : Option Addr) (n m c d : Nat) (xs ys : List Int) (hn : n ≤ maxLen) (w : World) (hR : Row w a n (iv xs)) (hS : Row w b m (iv ys)) :
    Calls Try.prog 23 #[.slice a n c, .slice b m d] w fun e w' => e = .returned (.bool (decide (xs = ys))) ∧ Below w.heap.size w w' := by
  unfold maxLen at hn
  have hx : xs.length = n := by have := hR.1; rwa [iv_length] at this
  have hy : ys.length = m := by have := hS.1; rwa [iv_length] at this
  by_cases hl : n = m
  · subst hl
    have HX := Lib.hid hx; have HY := Lib.hid hy; have HR := Lib.hid hR; have HS := Lib.hid hS
    clear hx hy hR hS
    go_enter Try.func23, Try.ntmps23
    go_wp2
    go_loopw [5] (fun i wr => ∃ k : Nat, k ≤ n ∧ i = .int .i64 k ∧ Hid (xs.take k = ys.take k) ∧ Below w.heap.size w wr) (fun i _ => n - (intOf i).toNat)
    case atStart => exact ⟨0, Nat.zero_le _, rfl, (show xs.take 0 = ys.take 0 by simp), by (repeat' (first | (with_reducible exact Below.refl _ _) | (with_reducible assumption) | (with_reducible refine belowThru ?_ (by assumption)) | (with_reducible refine belowAlloc ?_) | (with_reducible refine Below.setCell ?_ (by first | omega | (simp; done) | (simp; omega)) _) | (with_reducible refine Below.drew ?_) | (with_reducible refine below_drewN ?_ _)))⟩
    case round =>
      obtain ⟨k, hk, rfl, ht, hB⟩ := hrel
      by_cases hlt : k < n
      · obtain ⟨b1, o1, z1, rfl, l1, h1, c1⟩ := HR.out.int hlt
        obtain ⟨b2, o2, z2, rfl, l2, h2, c2⟩ := HS.out.int hlt
        have c1 := cell_later hB c1
        have c2 := cell_later hB c2
        have p0 : (0 : Int) ≤ (k : Int) := by omega
        have p1 : (k : Int) < (n : Int) := by omega
        by_cases he : z1 = z2
        · subst he
          have ht' : Hid (xs.take (k + 1) = ys.take (k + 1)) := by show _ = _; rw [List.take_add_one, List.take_add_one, h1, h2, ht.out]
          clear h1 h2
          go_wp2_with fail
          go_quiet (fail)
          go_wp2
          go_roundw
          case rel => exact ⟨k + 1, hlt, by go_num, ht', by (repeat' (first | (with_reducible exact Below.refl _ _) | (with_reducible assumption) | (with_reducible refine belowThru ?_ (by assumption)) | (with_reducible refine belowAlloc ?_) | (with_reducible refine Below.setCell ?_ (by first | omega | (simp; done) | (simp; omega)) _) | (with_reducible refine Below.drew ?_) | (with_reducible refine below_drewN ?_ _)))⟩
          case measure => simp [intOf]; omega
        · have hd : (z1 != z2) = true := by simpa using he
          have hz : decide (xs = ys) = false := decide_eq_false (fun e => he (by rw [e, h2] at h1; exact (Option.some.inj h1).symm))
          clear h1 h2 he
          go_wp2_with fail
          go_quiet (fail)
          go_wp2
          go_ret
          exact ⟨by first | rfl | (rw [hz]; rfl), by (repeat' (first | (with_reducible exact Below.refl _ _) | (with_reducible assumption) | (with_reducible refine belowThru ?_ (by assumption)) | (with_reducible refine belowAlloc ?_) | (with_reducible refine Below.setCell ?_ (by first | omega | (simp; done) | (simp; omega)) _) | (with_reducible refine Below.drew ?_) | (with_reducible refine below_drewN ?_ _)))⟩
      · have hz : decide (xs = ys) = true := decide_eq_true (by
          have h := ht.out
          rwa [List.take_of_length_le (by rw [HX.out]; omega), List.take_of_length_le (by rw [HY.out]; omega)] at h)
        go_wp2
        go_ret
        exact ⟨by first | rfl | (rw [hz]; rfl), by (repeat' (first | (with_reducible exact Below.refl _ _) | (with_reducible assumption) | (with_reducible refine belowThru ?_ (by assumption)) | (with_reducible refine belowAlloc ?_) | (with_reducible refine Below.setCell ?_ (by first | omega | (simp; done) | (simp; omega)) _) | (with_reducible refine Below.drew ?_) | (with_reducible refine below_drewN ?_ _)))⟩
  · have hd : ((n : Int) != (m : Int)) = true := by simp; omega
    rw [decide_eq_false (fun e : xs = ys => hl (by rw [← hx, ← hy, e]))]
    clear hR hS hx hy
    go_enter Try.func23, Try.ntmps23
    go_wp2
    go_ret
    exact ⟨rfl, by (repeat' (first | (with_reducible exact Below.refl _ _) | (with_reducible assumption) | (with_reducible refine belowThru ?_ (by assumption)) | (with_reducible refine belowAlloc ?_) | (with_reducible refine Below.setCell ?_ (by first | omega | (simp; done) | (simp; omega)) _) | (with_reducible refine Below.drew ?_) | (with_reducible refine below_drewN ?_ _)))⟩

set_option maxHeartbeats 2000000 in
theorem same_yes (W H : Int) (a b : Option Addr) (n m c d : Nat) (zs : List Int) (hn : n ≤ maxLen) (w : World) (hR : Row w a n (iv zs)) (hS : Row w b m (iv zs)) :
    Calls Try.prog 35 #[.agg #[.int .i64 W, .int .i64 H, .slice a n c], .agg #[.int .i64 W, .int .i64 H, .slice b m d]] w fun e w' => e = .returned (.bool true) ∧ Below w.heap.size w w' := by
  have HS : Hid (∀ w, Row w a n (iv zs) → Row w b m (iv zs) → Calls Try.prog 23 #[.slice a n c, .slice b m d] w fun e w' => e = .returned (.bool true) ∧ Below w.heap.size w w') := fun w hR hS => by
    have := sameInts_any a b n m c d zs zs hn w hR hS
    rw [decide_eq_true rfl] at this; exact this
  have H1 := Lib.hid hR; have H2 := Lib.hid hS
  clear hR hS hn
  go_enter Try.func35, Try.ntmps35
  go_wp2_with (go_at_call 23; (with_reducible refine (HS.out _ (H1.out.later (by (repeat' (first | (with_reducible exact Below.refl _ _) | (with_reducible assumption) | (with_reducible refine belowThru ?_ (by assumption)) | (with_reducible refine belowAlloc ?_) | (with_reducible refine Below.setCell ?_ (by first | omega | (simp; done) | (simp; omega)) _) | (with_reducible refine Below.drew ?_) | (with_reducible refine below_drewN ?_ _))))) (H2.out.later (by (repeat' (first | (with_reducible exact Below.refl _ _) | (with_reducible assumption) | (with_reducible refine belowThru ?_ (by assumption)) | (with_reducible refine belowAlloc ?_) | (with_reducible refine Below.setCell ?_ (by first | omega | (simp; done) | (simp; omega)) _) | (with_reducible refine Below.drew ?_) | (with_reducible refine below_drewN ?_ _)))))).mono ?_); rintro e w1 ⟨rfl, hb⟩)
  go_ret
  exact ⟨rfl, by (repeat' (first | (with_reducible exact Below.refl _ _) | (with_reducible assumption) | (with_reducible refine belowThru ?_ (by assumption)) | (with_reducible refine belowAlloc ?_) | (with_reducible refine Below.setCell ?_ (by first | omega | (simp; done) | (simp; omega)) _) | (with_reducible refine Below.drew ?_) | (with_reducible refine below_drewN ?_ _)))⟩

/-! ### An image in new memory -/
theorem info_tin : (Try.prog.info? 3).map (fun i => (i.zero, i.size, i.bytes)) = some (some (.int .i64 0), 1, 8) := by kernel_rfl
theorem oneCell_iv (zs : List Int) : ∀ u ∈ iv zs, u.oneCell' = true := by
  intro u hu
  obtain ⟨z, -, rfl⟩ := List.mem_map.1 hu
  rfl
theorem Row.set {w : World} {a : Option Addr} {n : Nat} {vs : List Value} (h : Row w a n vs) {p : Addr} {v : Value} (hp : ∀ ad, a = some ad → p.block ≠ ad.block) : Row (w.setCell p v) a n vs :=
  ⟨h.1, fun hn => by
    obtain ⟨b, off, ha, hlt, hc⟩ := h.2 hn
    have hne := hp _ ha
    exact ⟨b, off, ha, by simpa [World.setCell] using hlt, fun j hj => (World.cell?_of_block (w := w) (Below.heap_setCell w p v b (fun e => hne e.symm))).trans (hc j hj)⟩⟩
theorem add_pl (b off i : Nat) : (⟨b, off, none⟩ : Addr).add i = ⟨b, off + i, none⟩ := by
  unfold Addr.add; split <;> simp_all
/-- A slice of numbers in a block of numbers that is known. -/
def Own (w : World) (a : Option Addr) (n : Nat) (zs : List Int) : Prop :=
  zs.length = n ∧ ((a = none ∧ n = 0) ∨ ∃ (g : Nat) (cur : Array Value), a = some ⟨g, 0, none⟩ ∧ Blk w g cur 3 ∧ ∀ j, j < n → cur[j]? = (iv zs)[j]?)
theorem Own.row {w : World} {a : Option Addr} {n : Nat} {zs : List Int} (h : Own w a n zs) : Row w a n (iv zs) := by
  obtain ⟨hl, h⟩ := h
  refine ⟨by rw [iv_length]; exact hl, fun hn => ?_⟩
  rcases h with ⟨-, rfl⟩ | ⟨g, cur, rfl, k, hc⟩
  · exact absurd hn (by omega)
  · exact ⟨g, 0, rfl, k.lt, fun j hj => by rw [Nat.zero_add, k.cells, hc j hj]⟩
theorem Own.later {w w' : World} (hb : Below w.heap.size w w') {a : Option Addr} {n : Nat} {zs : List Int} (h : Own w a n zs) : Own w' a n zs :=
  ⟨h.1, h.2.imp id (fun ⟨g, cur, e, k, hc⟩ => ⟨g, cur, e, Blk.later hb k, hc⟩)⟩
theorem Own.drew {w : World} {a : Option Addr} {n : Nat} {zs : List Int} (h : Own w a n zs) : Own w.drew a n zs := h
theorem Own.alloc {w : World} {o : Obj} {a : Option Addr} {n : Nat} {zs : List Int} (h : Own w a n zs) : Own (w.alloc o) a n zs :=
  ⟨h.1, h.2.imp id (fun ⟨g, cur, e, k, hc⟩ => ⟨g, cur, e, k.alloc, hc⟩)⟩
theorem Own.set {w : World} {a : Option Addr} {n : Nat} {zs : List Int} (h : Own w a n zs) {b i : Nat} {c : Array Value} {t : TypeId} (k : Blk w b c t) (ht : t ≠ 3) (v : Value) : Own (w.setCell ⟨b, i, none⟩ v) a n zs :=
  ⟨h.1, h.2.imp id (fun ⟨g, cur, e, kg, hc⟩ => ⟨g, cur, e, Blk.other kg (fun e2 => by
    have e3 : g = b := e2
    subst e3
    have k1 : w.heap[g]? = some (.cells cur 3 (0, 0)) := kg
    have k2 : w.heap[g]? = some (.cells c t (0, 0)) := k
    rw [k1] at k2
    cases k2
    exact ht rfl), hc⟩)⟩
theorem Own.set3 {w : World} {a : Option Addr} {n : Nat} {zs : List Int} (h : Own w a n zs) {b : Nat} {c : Array Value} {t : TypeId} (k : Blk w b c t) (ht : t ≠ 3) (x y z : Value) : Own (((w.setCell ⟨b, 0, none⟩ x).setCell ⟨b, 1, none⟩ y).setCell ⟨b, 2, none⟩ z) a n zs :=
  ((h.set k ht x).set (Blk.set k) ht y).set (Blk.set (Blk.set k)) ht z
end Go.Proofs.Ytghmjdmiaajbnaa
