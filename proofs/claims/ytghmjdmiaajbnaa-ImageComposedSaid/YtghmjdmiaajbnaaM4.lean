/-
  The texts that the laws of this seat share, merged: part 4.
-/
import Derived.BigQuiet
import Derived.Deep.Draws
import Derived.Deep.QuietTactic
import Derived.Deep.RegionHeld3
import Derived.Laws.AppendOwn
import Derived.Lib.Hide
import Derived.LoopIn
import Derived.LoopNIn
import Derived.OneCell
import Derived.OwnWalkIn
import Derived.RangeFuncBound
import Derived.RangeFuncCalls
import Derived.RangeFuncLeaves
import Derived.RangeFuncNested
import Derived.Shelf.Abstract
import Derived.Shelf.AbstractIn
import Derived.Shelf.RegionOpen
import Derived.TacticsInMore
import Derived.Test.YtghmjdmiaajbnaaProg
import Derived.WalkKit
import Derived.WalkSmall
import Derived.WalkSpells
import Derived.Test.YtghmjdmiaajbnaaM2
/-
  Layer 2: the iterator over the offsets of a kernel or a shape.
-/
namespace Go.Proofs.Ytghmjdmiaajbnaa
open Go.RowKit Go.Shelf
set_option linter.unusedVariables false
set_option linter.unusedSimpArgs false

attribute [local go_sem] Oper.semAt_some

/-- The boxes that the iterator reads. -/
def OffG (Bw Bh : Nat) (Wd Hd : Int) (W : World) : Prop :=
  W.cell? ⟨Bw, 0, none⟩ = some (.int .i64 Wd) ∧ W.cell? ⟨Bh, 0, none⟩ = some (.int .i64 Hd)
def ofEnc {len : Nat} (Wd Hd : Int) (x : Pel len (fun _ _ => True)) : Array Value := #[.int .i64 x.1.1, .agg #[.int .i64 ((x.1.1 : Int) % Wd - Wd / 2), .int .i64 ((x.1.1 : Int) / Wd - Hd / 2)]]

set_option maxRecDepth 100000 in
set_option maxHeartbeats 2000000 in
theorem offs1_in (n l Bw Bh len : Nat) (Wd Hd : Int) (hn : 1 ≤ n) (hW : 1 ≤ Wd) (hW2 : Wd ≤ 64) (hH : 1 ≤ Hd) (hH2 : Hd ≤ 64) (hm : Wd * Hd = (len : Int)) (hlen : len ≤ 4096) (J Jx : List (Pel len (fun _ _ => True)) → World → Prop) (B : Nat)
    (hJ : AbidesFrom B J)
    (hY : ∀ pre x W, J pre W → pre.length < len → YieldAt Fence.wide (n - 1) Try.prog l (ofEnc Wd Hd x) W fun e W' =>
      (e = .returned (.bool true) ∧ J (pre ++ [x]) W' ∧ (OffG Bw Bh Wd Hd W → OffG Bw Bh Wd Hd W')) ∨ (e = .returned (.bool false) ∧ Jx (pre ++ [x]) W'))
    (W : World) (hG : OffG Bw Bh Wd Hd W) (h0 : J [] W) :
    CallsIn Fence.wide n Try.prog 107 #[.func (.yield l) #[] #[], .pointer (some ⟨Bw, 0, none⟩), .pointer (some ⟨Bh, 0, none⟩)] W fun e W' => (∃ v, e = .returned v) ∧
      ((∃ xs, PixAll len xs ∧ J xs W') ∨ (∃ pre, True ∧ Jx pre W')) := by
  have HY := Lib.hid hY
  clear hY
  have hmx : Try.prog.follows .mixedOrders = true := by kernel_rfl
  obtain ⟨g0, g1⟩ := hG
  have HG := Lib.hid (⟨g0, g1⟩ : OffG Bw Bh Wd Hd W)
  have hw : IntKind.i64.wrap (Wd * Hd) = (len : Int) := by rw [hm]; exact IntWalk.i64_in _ (by omega)
  have t7 : Wd.tdiv 2 = Wd / 2 := Int.tdiv_eq_ediv_of_nonneg (by omega)
  have t8 : Hd.tdiv 2 = Hd / 2 := Int.tdiv_eq_ediv_of_nonneg (by omega)
  have v7 : IntKind.i64.wrap (Wd / 2) = Wd / 2 := IntWalk.i64_in _ (by omega)
  have v8 : IntKind.i64.wrap (Hd / 2) = Hd / 2 := IntWalk.i64_in _ (by omega)
  clear hm
  refine callsIn_of_wp Try.func107 rfl trivial ?_ rfl
  simp only [Try.ntmps107, List.size_toArray, List.length_cons, List.length_nil, Nat.reduceAdd, Nat.reduceSub, Array.replicate_succ, Array.replicate_zero, List.push_toArray, List.append_toArray, List.nil_append, List.cons_append]
  gi_wp2
  clear g0 g1
  gi_loopw [8] (fun i wr => ∃ k : Nat, k ≤ len ∧ i = .int .i64 k ∧ ∃ pre, PixAll k pre ∧ J pre wr ∧ Hid (OffG Bw Bh Wd Hd wr))
    (fun i _ => len - (intOf i).toNat)
  case atStart => exact ⟨0, Nat.zero_le _, rfl, [], rfl, h0, HG⟩
  case round =>
    obtain ⟨k, hk, rfl, pre, hpre, hJs, HG'⟩ := hrel
    clear HG h0
    by_cases hlt : k < len
    · obtain ⟨c0, c1⟩ := HG'.out
      obtain ⟨v1, v2, v3, v4, v5, v6⟩ := small_div k Wd hW (by omega)
      have v9 : IntKind.i64.wrap ((k : Int) % Wd - Wd / 2) = (k : Int) % Wd - Wd / 2 := IntWalk.i64_in _ (by omega)
      have va : IntKind.i64.wrap ((k : Int) / Wd - Hd / 2) = (k : Int) / Wd - Hd / 2 := IntWalk.i64_in _ (by omega)
      have hne : ¬ Wd = 0 := by omega
      have hJd : J pre wr.drew := hJ pre wr wr.drew none hJs ⟨rfl, rfl, rfl, Nat.le_refl _, fun _ _ _ => rfl⟩ (fun r e => by cases e)
      obtain ⟨fn, tmps, assign, body, hy, hR⟩ := HY.out pre ⟨(k, 0), hlt, trivial⟩ wr.drew hJd (by rw [hpre.length]; exact hlt)
      dsimp only [ofEnc] at hy
      have hR' : RoundIn Fence.wide (n - 1) Try.prog l fn tmps assign body wr.drew (fun e W' => ∃ g, e = .returned (.bool g) ∧ Went (fun W' => J (pre ++ [⟨(k, 0), hlt, trivial⟩]) W' ∧ Hid (OffG Bw Bh Wd Hd W')) (fun W' => Jx (pre ++ [⟨(k, 0), hlt, trivial⟩]) W') g W') := by
        refine hR.mono ?_
        rintro e W3 (⟨rfl, hJ3, hk3⟩ | ⟨rfl, hJx3⟩)
        · exact ⟨true, rfl, .inl ⟨rfl, hJ3, Lib.hid (hk3 HG'.out)⟩⟩
        · exact ⟨false, rfl, .inr ⟨rfl, hJx3⟩⟩
      clear hR
      gi_wp2
      gi_region_with_o (refine hR'.mono ?_; rintro e W3 ⟨g, rfl, hW3⟩)
      all_goals
        rcases hW3 with ⟨rfl, hJ3, hG3⟩ | ⟨rfl, hJx3⟩
        · gi_wp2
          go_roundw
          case rel => exact ⟨k + 1, by omega, by go_num, _, hpre.snoc _ rfl, hJ3, hG3⟩
          case measure => simp [intOf]; omega
        · gi_wp2
          refine bodyPost_ret (results_none rfl _ _ _) rfl ?_
          exact ⟨⟨_, rfl⟩, .inr ⟨_, trivial, hJx3⟩⟩
    · obtain rfl : k = len := by omega
      gi_wp2
      go_end0
      exact ⟨⟨_, rfl⟩, .inl ⟨pre, hpre, hJs⟩⟩

set_option maxHeartbeats 1000000 in
theorem offsets_any (Wd Hd : Int) (w : World) :
    Calls Try.prog 63 #[.int .i64 Wd, .int .i64 Hd] w fun e w' => e = .returned (.func (.func 107) #[] #[.pointer (some ⟨w.heap.size, 0, none⟩), .pointer (some ⟨w.heap.size + 1, 0, none⟩)]) ∧ w' = (w.alloc (.cells #[.int .i64 Wd] 3)).alloc (.cells #[.int .i64 Hd] 3) := by
  go_enter Try.func63, Try.ntmps63
  go_wp2
  go_ret
  exact ⟨rfl, rfl⟩

/-- What a loop over the offsets may count on. -/
theorem offs_stops (n Bw Bh len : Nat) (Wd Hd : Int) (hn : 1 ≤ n) (hW : 1 ≤ Wd) (hW2 : Wd ≤ 64) (hH : 1 ≤ Hd) (hH2 : Hd ≤ 64) (hm : Wd * Hd = (len : Int)) (hlen : len ≤ 4096) (w : World) (hBw : Bw < w.heap.size) (hBh : Bh < w.heap.size) (hG : OffG Bw Bh Wd Hd w) :
    SeqStopsK Fence.wide n Try.prog 107 #[.pointer (some ⟨Bw, 0, none⟩), .pointer (some ⟨Bh, 0, none⟩)] (ofEnc (len := len) Wd Hd) (fun A C => OffG Bw Bh Wd Hd A → OffG Bw Bh Wd Hd C) (PixAll len) (fun _ => True) len w := fun l J Jx W hW' hJ _ hY h0 => by
  exact offs1_in n l Bw Bh len Wd Hd hn hW hW2 hH hH2 hm hlen J Jx _ hJ hY W ⟨cell_later hW' hG.1, cell_later hW' hG.2⟩ h0
end Go.Proofs.Ytghmjdmiaajbnaa
