/-
  The texts that the laws of this seat share, merged: part 16.
-/
import Derived.BigQuiet
import Derived.Carry
import Derived.Deep.CutRange
import Derived.Deep.DeepCutAuto
import Derived.Deep.Draws
import Derived.Deep.LoopGhost
import Derived.Deep.OwnRows
import Derived.Deep.QuietTactic
import Derived.Deep.RegionHeld3
import Derived.Laws.AppendOwn
import Derived.Laws.EntriesVeiled
import Derived.Laws.StructEq
import Derived.Lib.Hide
import Derived.LoopIn
import Derived.LoopNIn
import Derived.MapKept
import Derived.Maps.AppendAt
import Derived.OneCell
import Derived.Orders
import Derived.OwnWalkIn
import Derived.RangeFuncBound
import Derived.RangeFuncCalls
import Derived.RangeFuncLeaves
import Derived.RangeFuncNested
import Derived.Shelf.Abstract
import Derived.Shelf.AbstractIn
import Derived.Shelf.RegionOpen
import Derived.StillTailTactics
import Derived.TacticsIn
import Derived.TacticsInMore
import Derived.Test.YtghmjdmiaajbnaaProg
import Derived.WalkKit
import Derived.WalkSmall
import Derived.WalkSpells
import Derived.WideLaws
import Derived.Test.YtghmjdmiaajbnaaM11
import Derived.Test.YtghmjdmiaajbnaaM13
import Derived.Test.YtghmjdmiaajbnaaM15
/-
  Layer 2: the literals of the statements' own examples.
-/
namespace Go.Proofs.Ytghmjdmiaajbnaa
open Go.RowKit
set_option linter.unusedVariables false
set_option linter.unusedSimpArgs false

theorem Row.of_bools {w : World} {b : Nat} {t : TypeId} (h : Blk w b #[.bool true, .bool true, .bool true] t) : Row w (some ⟨b, 0, none⟩) 3 (bv [true, true, true]) :=
  ⟨rfl, fun _ => ⟨b, 0, rfl, h.lt, fun j _ => by rw [h.cells, Nat.zero_add]; simp [bv]⟩⟩
set_option maxHeartbeats 1000000 in
theorem line3 (b : Nat) (w : World) : Calls Try.prog 21 #[.slice (some ⟨b, 0, none⟩) 3 3] w fun e w' => e = .returned (.agg #[.int .i64 3, .int .i64 1, .slice (some ⟨b, 0, none⟩) 3 3]) ∧ Below w.heap.size w w' := by
  go_enter Try.func21, Try.ntmps21
  go_wp2
  exact bodyPost_ret (v := .agg #[.int .i64 3, .int .i64 1, .slice (some ⟨b, 0, none⟩) 3 3]) (by simp [results, Try.results21, go_sem]) rfl ⟨rfl, by (repeat' (first | (with_reducible exact Below.refl _ _) | (with_reducible assumption) | (with_reducible refine belowThru ?_ (by assumption)) | (with_reducible refine belowAlloc ?_) | (with_reducible refine Below.setCell ?_ (by first | omega | (simp; done) | (simp; omega)) _) | (with_reducible refine Below.drew ?_) | (with_reducible refine below_drewN ?_ _)))⟩
/-- Labels of an image whose pixels are all alone. -/
theorem label_ok (W H : Int) (a : Option Addr) (n c : Nat) (zs : List Int) (hI : okI W H zs) (hn : n ≤ maxLen)
    (hlone : ∀ k : Nat, k < n → zs[k]?.getD 0 ≠ 0 → ∀ (j : Nat) (ox oy : Int), offs4[j]? = some (ox, oy) → inP W H ((k : Int) % W + ox) ((k : Int) / W + oy) → pixAt W zs ((k : Int) % W + ox) ((k : Int) / W + oy) = 0)
    (w : World) (hR : Row w a n (iv zs)) :
    Calls Try.prog 27 #[.agg #[.int .i64 W, .int .i64 H, .slice a n c], .bool false] w (RetB W H (labS zs n n).1 (labS zs n n).2 0 w) := by
  have hl : zs.length = n := by have := hR.1; rwa [iv_length] at this
  have hmul := okS_mul hI.1.1 hI.1.2
  have hL := hI.2.1
  obtain ⟨bb, off, rfl, hbb, hlen, hc⟩ := row_vals2 hI hR (by omega)
  refine ((callsIn_wide (n := 9)).1 (label_in 9 (by omega) W H bb off n c zs hI hl hlone w hbb hc hR (Lib.hid (fun w1 h1 => icheck_ok hI _ n c hn w1 (hR.later h1))))).mono ?_
  rintro e w' ⟨g, rfl, hg, kz, hb⟩
  exact ⟨_, _, _, rfl, ⟨labS_length zs n n, .inr ⟨g, rfl, hg, kz⟩⟩, hb⟩
theorem a_lone : ∀ k : Nat, k < 4 → ([1, 0, 0, 9] : List Int)[k]?.getD 0 ≠ 0 → ∀ (j : Nat) (ox oy : Int), offs4[j]? = some (ox, oy) → inP 2 2 ((k : Int) % 2 + ox) ((k : Int) / 2 + oy) → pixAt 2 [1, 0, 0, 9] ((k : Int) % 2 + ox) ((k : Int) / 2 + oy) = 0 := by
  intro k hk hz j ox oy ho hp
  have hj : j < 4 := by
    by_cases h : j < 4
    · exact h
    · rw [List.getElem?_eq_none (by show 4 ≤ j; omega)] at ho; cases ho
  have hk2 : k = 0 ∨ k = 1 ∨ k = 2 ∨ k = 3 := by omega
  have hj2 : j = 0 ∨ j = 1 ∨ j = 2 ∨ j = 3 := by omega
  rcases hk2 with rfl | rfl | rfl | rfl <;> rcases hj2 with rfl | rfl | rfl | rfl <;> (cases ho) <;> first | rfl | (exact absurd rfl hz) | (exact absurd hp (by decide))
theorem a_label (a : Option Addr) (c : Nat) (w : World) (hR : Row w a 4 (iv [1, 0, 0, 9])) :
    Calls Try.prog 27 #[.agg #[.int .i64 2, .int .i64 2, .slice a 4 c], .bool false] w (RetB 2 2 [1, 0, 0, 2] 2 0 w) := by
  have h := label_ok 2 2 a 4 c [1, 0, 0, 9] (by decide) (by decide) a_lone w hR
  rwa [show (labS [1, 0, 0, 9] 4 4).1 = [1, 0, 0, 2] by kernel_rfl, show (labS [1, 0, 0, 9] 4 4).2 = 2 by kernel_rfl] at h
theorem New.one {B : Nat} {w : World} {a : Option Addr} {n : Nat} {zs : List Int} (h : New B w a n zs) : n = zs.length := h.1.symm
theorem rows_r123 (B b0 : Nat) (w : World) (q : Blk w B #[.slice (some ⟨b0, 0, none⟩) 3 3] 22) (k0 : Blk w b0 #[.int .i64 1, .int .i64 2, .int .i64 3] 3) :
    Calls Try.prog 16 #[.slice (some ⟨B, 0, none⟩) 1 1] w fun e w' => ∃ (a : Option Addr) (c : Nat), e = .returned (.agg #[.int .i64 3, .int .i64 1, .slice a 3 c]) ∧ Row w' a 3 (iv [1, 2, 3]) ∧ Below w.heap.size w w' :=
  rows_any B 1 [(b0, [1, 2, 3])] (b0, [1, 2, 3]) rfl rfl (by decide) (by simp only [List.forall_mem_cons]; exact ⟨by decide, by simp⟩) w ⟨q, (by simp only [List.forall_mem_cons]; exact ⟨k0, by simp⟩)⟩
theorem rows_r514 (B b0 : Nat) (w : World) (q : Blk w B #[.slice (some ⟨b0, 0, none⟩) 3 3] 22) (k0 : Blk w b0 #[.int .i64 5, .int .i64 1, .int .i64 4] 3) :
    Calls Try.prog 16 #[.slice (some ⟨B, 0, none⟩) 1 1] w fun e w' => ∃ (a : Option Addr) (c : Nat), e = .returned (.agg #[.int .i64 3, .int .i64 1, .slice a 3 c]) ∧ Row w' a 3 (iv [5, 1, 4]) ∧ Below w.heap.size w w' :=
  rows_any B 1 [(b0, [5, 1, 4])] (b0, [5, 1, 4]) rfl rfl (by decide) (by simp only [List.forall_mem_cons]; exact ⟨by decide, by simp⟩) w ⟨q, (by simp only [List.forall_mem_cons]; exact ⟨k0, by simp⟩)⟩
theorem rows_r3077 (B b0 : Nat) (w : World) (q : Blk w B #[.slice (some ⟨b0, 0, none⟩) 4 4] 22) (k0 : Blk w b0 #[.int .i64 3, .int .i64 0, .int .i64 7, .int .i64 7] 3) :
    Calls Try.prog 16 #[.slice (some ⟨B, 0, none⟩) 1 1] w fun e w' => ∃ (a : Option Addr) (c : Nat), e = .returned (.agg #[.int .i64 4, .int .i64 1, .slice a 4 c]) ∧ Row w' a 4 (iv [3, 0, 7, 7]) ∧ Below w.heap.size w w' :=
  rows_any B 1 [(b0, [3, 0, 7, 7])] (b0, [3, 0, 7, 7]) rfl rfl (by decide) (by simp only [List.forall_mem_cons]; exact ⟨by decide, by simp⟩) w ⟨q, (by simp only [List.forall_mem_cons]; exact ⟨k0, by simp⟩)⟩
theorem rows_r10_09 (B b0 b1 : Nat) (w : World) (q : Blk w B #[.slice (some ⟨b0, 0, none⟩) 2 2, .slice (some ⟨b1, 0, none⟩) 2 2] 22) (k0 : Blk w b0 #[.int .i64 1, .int .i64 0] 3) (k1 : Blk w b1 #[.int .i64 0, .int .i64 9] 3) :
    Calls Try.prog 16 #[.slice (some ⟨B, 0, none⟩) 2 2] w fun e w' => ∃ (a : Option Addr) (c : Nat), e = .returned (.agg #[.int .i64 2, .int .i64 2, .slice a 4 c]) ∧ Row w' a 4 (iv [1, 0, 0, 9]) ∧ Below w.heap.size w w' :=
  rows_any B 2 [(b0, [1, 0]), (b1, [0, 9])] (b0, [1, 0]) rfl rfl (by decide) (by simp only [List.forall_mem_cons]; exact ⟨by decide, by decide, by simp⟩) w ⟨q, (by simp only [List.forall_mem_cons]; exact ⟨k0, k1, by simp⟩)⟩
theorem rows_r312205 (B b0 : Nat) (w : World) (q : Blk w B #[.slice (some ⟨b0, 0, none⟩) 6 6] 22) (k0 : Blk w b0 #[.int .i64 3, .int .i64 1, .int .i64 2, .int .i64 2, .int .i64 0, .int .i64 5] 3) :
    Calls Try.prog 16 #[.slice (some ⟨B, 0, none⟩) 1 1] w fun e w' => ∃ (a : Option Addr) (c : Nat), e = .returned (.agg #[.int .i64 6, .int .i64 1, .slice a 6 c]) ∧ Row w' a 6 (iv [3, 1, 2, 2, 0, 5]) ∧ Below w.heap.size w w' :=
  rows_any B 1 [(b0, [3, 1, 2, 2, 0, 5])] (b0, [3, 1, 2, 2, 0, 5]) rfl rfl (by decide) (by simp only [List.forall_mem_cons]; exact ⟨by decide, by simp⟩) w ⟨q, (by simp only [List.forall_mem_cons]; exact ⟨k0, by simp⟩)⟩
theorem rows_r123_456 (B b0 b1 : Nat) (w : World) (q : Blk w B #[.slice (some ⟨b0, 0, none⟩) 3 3, .slice (some ⟨b1, 0, none⟩) 3 3] 22) (k0 : Blk w b0 #[.int .i64 1, .int .i64 2, .int .i64 3] 3) (k1 : Blk w b1 #[.int .i64 4, .int .i64 5, .int .i64 6] 3) :
    Calls Try.prog 16 #[.slice (some ⟨B, 0, none⟩) 2 2] w fun e w' => ∃ (a : Option Addr) (c : Nat), e = .returned (.agg #[.int .i64 3, .int .i64 2, .slice a 6 c]) ∧ Row w' a 6 (iv [1, 2, 3, 4, 5, 6]) ∧ Below w.heap.size w w' :=
  rows_any B 2 [(b0, [1, 2, 3]), (b1, [4, 5, 6])] (b0, [1, 2, 3]) rfl rfl (by decide) (by simp only [List.forall_mem_cons]; exact ⟨by decide, by decide, by simp⟩) w ⟨q, (by simp only [List.forall_mem_cons]; exact ⟨k0, k1, by simp⟩)⟩
theorem rows_r7 (B b0 : Nat) (w : World) (q : Blk w B #[.slice (some ⟨b0, 0, none⟩) 1 1] 22) (k0 : Blk w b0 #[.int .i64 7] 3) :
    Calls Try.prog 16 #[.slice (some ⟨B, 0, none⟩) 1 1] w fun e w' => ∃ (a : Option Addr) (c : Nat), e = .returned (.agg #[.int .i64 1, .int .i64 1, .slice a 1 c]) ∧ Row w' a 1 (iv [7]) ∧ Below w.heap.size w w' :=
  rows_any B 1 [(b0, [7])] (b0, [7]) rfl rfl (by decide) (by simp only [List.forall_mem_cons]; exact ⟨by decide, by simp⟩) w ⟨q, (by simp only [List.forall_mem_cons]; exact ⟨k0, by simp⟩)⟩
theorem rows_r12_34 (B b0 b1 : Nat) (w : World) (q : Blk w B #[.slice (some ⟨b0, 0, none⟩) 2 2, .slice (some ⟨b1, 0, none⟩) 2 2] 22) (k0 : Blk w b0 #[.int .i64 1, .int .i64 2] 3) (k1 : Blk w b1 #[.int .i64 3, .int .i64 4] 3) :
    Calls Try.prog 16 #[.slice (some ⟨B, 0, none⟩) 2 2] w fun e w' => ∃ (a : Option Addr) (c : Nat), e = .returned (.agg #[.int .i64 2, .int .i64 2, .slice a 4 c]) ∧ Row w' a 4 (iv [1, 2, 3, 4]) ∧ Below w.heap.size w w' :=
  rows_any B 2 [(b0, [1, 2]), (b1, [3, 4])] (b0, [1, 2]) rfl rfl (by decide) (by simp only [List.forall_mem_cons]; exact ⟨by decide, by decide, by simp⟩) w ⟨q, (by simp only [List.forall_mem_cons]; exact ⟨k0, k1, by simp⟩)⟩
theorem is_rm12m1 (B b0 : Nat) (a : Option Addr) (c : Nat) (w : World) (hR : Row w a 3 (iv [-1, 2, -1])) (q : Blk w B #[.slice (some ⟨b0, 0, none⟩) 3 3] 22) (k0 : Blk w b0 #[.int .i64 (-1), .int .i64 2, .int .i64 (-1)] 3) :
    Calls Try.prog 19 #[.agg #[.int .i64 3, .int .i64 1, .slice a 3 c], .int .i64 0, .slice (some ⟨B, 0, none⟩) 1 1] w fun e w' => e = .returned (.bool true) ∧ Below w.heap.size w w' :=
  is_true 3 1 a 3 c [-1, 2, -1] B 1 [(b0, [-1, 2, -1])] (b0, [-1, 2, -1]) rfl rfl (by decide) (by simp only [List.forall_mem_cons]; exact ⟨by decide, by simp⟩) rfl rfl rfl (by decide) w hR ⟨q, (by simp only [List.forall_mem_cons]; exact ⟨k0, by simp⟩)⟩
theorem is_r554 (B b0 : Nat) (a : Option Addr) (c : Nat) (w : World) (hR : Row w a 3 (iv [5, 5, 4])) (q : Blk w B #[.slice (some ⟨b0, 0, none⟩) 3 3] 22) (k0 : Blk w b0 #[.int .i64 5, .int .i64 5, .int .i64 4] 3) :
    Calls Try.prog 19 #[.agg #[.int .i64 3, .int .i64 1, .slice a 3 c], .int .i64 0, .slice (some ⟨B, 0, none⟩) 1 1] w fun e w' => e = .returned (.bool true) ∧ Below w.heap.size w w' :=
  is_true 3 1 a 3 c [5, 5, 4] B 1 [(b0, [5, 5, 4])] (b0, [5, 5, 4]) rfl rfl (by decide) (by simp only [List.forall_mem_cons]; exact ⟨by decide, by simp⟩) rfl rfl rfl (by decide) w hR ⟨q, (by simp only [List.forall_mem_cons]; exact ⟨k0, by simp⟩)⟩
theorem is_r1012 (B b0 : Nat) (a : Option Addr) (c : Nat) (w : World) (hR : Row w a 4 (iv [1, 0, 1, 2])) (q : Blk w B #[.slice (some ⟨b0, 0, none⟩) 4 4] 22) (k0 : Blk w b0 #[.int .i64 1, .int .i64 0, .int .i64 1, .int .i64 2] 3) :
    Calls Try.prog 19 #[.agg #[.int .i64 4, .int .i64 1, .slice a 4 c], .int .i64 0, .slice (some ⟨B, 0, none⟩) 1 1] w fun e w' => e = .returned (.bool true) ∧ Below w.heap.size w w' :=
  is_true 4 1 a 4 c [1, 0, 1, 2] B 1 [(b0, [1, 0, 1, 2])] (b0, [1, 0, 1, 2]) rfl rfl (by decide) (by simp only [List.forall_mem_cons]; exact ⟨by decide, by simp⟩) rfl rfl rfl (by decide) w hR ⟨q, (by simp only [List.forall_mem_cons]; exact ⟨k0, by simp⟩)⟩
theorem is_r10_02 (B b0 b1 : Nat) (a : Option Addr) (c : Nat) (w : World) (hR : Row w a 4 (iv [1, 0, 0, 2])) (q : Blk w B #[.slice (some ⟨b0, 0, none⟩) 2 2, .slice (some ⟨b1, 0, none⟩) 2 2] 22) (k0 : Blk w b0 #[.int .i64 1, .int .i64 0] 3) (k1 : Blk w b1 #[.int .i64 0, .int .i64 2] 3) :
    Calls Try.prog 19 #[.agg #[.int .i64 2, .int .i64 2, .slice a 4 c], .int .i64 0, .slice (some ⟨B, 0, none⟩) 2 2] w fun e w' => e = .returned (.bool true) ∧ Below w.heap.size w w' :=
  is_true 2 2 a 4 c [1, 0, 0, 2] B 2 [(b0, [1, 0]), (b1, [0, 2])] (b0, [1, 0]) rfl rfl (by decide) (by simp only [List.forall_mem_cons]; exact ⟨by decide, by decide, by simp⟩) rfl rfl rfl (by decide) w hR ⟨q, (by simp only [List.forall_mem_cons]; exact ⟨k0, k1, by simp⟩)⟩
theorem is_r111222 (B b0 : Nat) (a : Option Addr) (c : Nat) (w : World) (hR : Row w a 6 (iv [1, 1, 1, 2, 2, 2])) (q : Blk w B #[.slice (some ⟨b0, 0, none⟩) 6 6] 22) (k0 : Blk w b0 #[.int .i64 1, .int .i64 1, .int .i64 1, .int .i64 2, .int .i64 2, .int .i64 2] 3) :
    Calls Try.prog 19 #[.agg #[.int .i64 6, .int .i64 1, .slice a 6 c], .int .i64 0, .slice (some ⟨B, 0, none⟩) 1 1] w fun e w' => e = .returned (.bool true) ∧ Below w.heap.size w w' :=
  is_true 6 1 a 6 c [1, 1, 1, 2, 2, 2] B 1 [(b0, [1, 1, 1, 2, 2, 2])] (b0, [1, 1, 1, 2, 2, 2]) rfl rfl (by decide) (by simp only [List.forall_mem_cons]; exact ⟨by decide, by simp⟩) rfl rfl rfl (by decide) w hR ⟨q, (by simp only [List.forall_mem_cons]; exact ⟨k0, by simp⟩)⟩
theorem is_r41_52_63 (B b0 b1 b2 : Nat) (a : Option Addr) (c : Nat) (w : World) (hR : Row w a 6 (iv [4, 1, 5, 2, 6, 3])) (q : Blk w B #[.slice (some ⟨b0, 0, none⟩) 2 2, .slice (some ⟨b1, 0, none⟩) 2 2, .slice (some ⟨b2, 0, none⟩) 2 2] 22) (k0 : Blk w b0 #[.int .i64 4, .int .i64 1] 3) (k1 : Blk w b1 #[.int .i64 5, .int .i64 2] 3) (k2 : Blk w b2 #[.int .i64 6, .int .i64 3] 3) :
    Calls Try.prog 19 #[.agg #[.int .i64 2, .int .i64 3, .slice a 6 c], .int .i64 0, .slice (some ⟨B, 0, none⟩) 3 3] w fun e w' => e = .returned (.bool true) ∧ Below w.heap.size w w' :=
  is_true 2 3 a 6 c [4, 1, 5, 2, 6, 3] B 3 [(b0, [4, 1]), (b1, [5, 2]), (b2, [6, 3])] (b0, [4, 1]) rfl rfl (by decide) (by simp only [List.forall_mem_cons]; exact ⟨by decide, by decide, by decide, by simp⟩) rfl rfl rfl (by decide) w hR ⟨q, (by simp only [List.forall_mem_cons]; exact ⟨k0, k1, k2, by simp⟩)⟩
theorem is_rm4 (B b0 : Nat) (a : Option Addr) (c : Nat) (w : World) (hR : Row w a 1 (iv [-4])) (q : Blk w B #[.slice (some ⟨b0, 0, none⟩) 1 1] 22) (k0 : Blk w b0 #[.int .i64 (-4)] 3) :
    Calls Try.prog 19 #[.agg #[.int .i64 1, .int .i64 1, .slice a 1 c], .int .i64 0, .slice (some ⟨B, 0, none⟩) 1 1] w fun e w' => e = .returned (.bool true) ∧ Below w.heap.size w w' :=
  is_true 1 1 a 1 c [-4] B 1 [(b0, [-4])] (b0, [-4]) rfl rfl (by decide) (by simp only [List.forall_mem_cons]; exact ⟨by decide, by simp⟩) rfl rfl rfl (by decide) w hR ⟨q, (by simp only [List.forall_mem_cons]; exact ⟨k0, by simp⟩)⟩
end Go.Proofs.Ytghmjdmiaajbnaa
