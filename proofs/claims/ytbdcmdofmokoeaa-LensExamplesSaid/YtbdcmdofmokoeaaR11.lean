/-
  The texts that the laws of this seat share, merged: part 11.
-/
import Derived.BigQuiet
import Derived.Deep.CutBlock
import Derived.Deep.CutRange
import Derived.Deep.DeepCutAuto
import Derived.Deep.Draws
import Derived.Deep.LoopGhost
import Derived.Deep.QuietTactic
import Derived.Deep.RegionHeld3
import Derived.Deep.RegionLaw
import Derived.IntWalk
import Derived.Laws.AppendOwn
import Derived.Laws.Bits64b
import Derived.Laws.BitsAll
import Derived.Laws.BitsAllLaws
import Derived.Lib.Hide
import Derived.Lib.ItoaNum
import Derived.LoopIn
import Derived.LoopNIn
import Derived.LoopTactic
import Derived.Maps.AppendAt
import Derived.OneCell
import Derived.Orders
import Derived.OwnWalkIn
import Derived.RangeFuncBound
import Derived.RangeFuncCalls
import Derived.RangeFuncLeaves
import Derived.RangeFuncNested
import Derived.Shelf.Abstract
import Derived.Shelf.AbstractIn
import Derived.Shelf.Bits.Mul64
import Derived.Shelf.RegionOpen
import Derived.Shelf.Small.Bits
import Derived.Shelf.Spec.BitsCarry
import Derived.Shelf.Strconv.Itoa0
import Derived.StillTailTactics
import Derived.TacticsInMore
import Derived.Test.YtbdcmdofmokoeaaProg
import Derived.WalkKit
import Derived.WalkLawsBesides
import Derived.WalkSmall
import Derived.WalkSpells
import Derived.Test.YtbdcmdofmokoeaaR4
import Derived.Test.YtbdcmdofmokoeaaR7
import Derived.Test.YtbdcmdofmokoeaaR8
import Derived.Test.YtbdcmdofmokoeaaR9
import Derived.Test.YtbdcmdofmokoeaaR10
/-
  LensStripes: the walk.
-/
namespace Go.Proofs.Ytbdcmdofmokoeaa
open Go.RowKit
set_option linter.unusedVariables false
set_option linter.unusedSimpArgs false

/-! ### Gray codes, both sides -/
set_option maxHeartbeats 1000000 in
theorem jgray_yes (k : Nat) (hk : k ≤ 255) (w : World) :
    Calls Try.prog 25 #[.int .i64 (k : Int)] w fun e w' => e = .returned (.tuple #[.int .i64 (grayN k : Int), .int .i64 0]) ∧ Below w.heap.size w w' := by
  have HW : Hid (∀ (B : Nat) (w : World), w.cell? ⟨B, 0, none⟩ = some (.int .i64 k) → Calls Try.prog 54 #[.int .i64 0, .int .i64 255, .slice (some ⟨B, 0, none⟩) 1 1] w fun e w' => e = .returned (.bool true) ∧ Below w.heap.size w w') := by
    intro B w h; have := jwithin_one 0 255 k B w h; rwa [decide_eq_true (show 0 ≤ (k : Int) ∧ (k : Int) ≤ 255 by omega)] at this
  go_enter Try.func25, Try.ntmps25
  go_wp2_with (first
    | (go_at_call 54; ((with_reducible refine (HW.out _ _ (by simp [go_sem])).mono ?_); rintro e w1 ⟨rfl, hb⟩))
    | (go_at_call 63; ((with_reducible refine (gray_any k hk _).mono ?_); rintro e w2 ⟨rfl, rfl⟩)))
  go_ret2
  exact ⟨rfl, by (repeat' (first | (with_reducible exact Below.refl _ _) | (with_reducible assumption) | (with_reducible refine belowThru ?_ (by assumption)) | (with_reducible refine belowAlloc ?_) | (with_reducible refine Below.setCell ?_ (by first | omega | (simp; done) | (simp; omega)) _) | (with_reducible refine Below.drew ?_) | (with_reducible refine below_drewN ?_ _)))⟩
set_option maxHeartbeats 1000000 in
theorem jgray_no (k : Int) (hk : ¬ (0 ≤ k ∧ k ≤ 255)) (w : World) :
    Calls Try.prog 25 #[.int .i64 k] w fun e w' => e = .returned (.tuple #[.int .i64 0, .int .i64 2]) ∧ Below w.heap.size w w' := by
  have HW : Hid (∀ (B : Nat) (w : World), w.cell? ⟨B, 0, none⟩ = some (.int .i64 k) → Calls Try.prog 54 #[.int .i64 0, .int .i64 255, .slice (some ⟨B, 0, none⟩) 1 1] w fun e w' => e = .returned (.bool false) ∧ Below w.heap.size w w') := by
    intro B w h; have := jwithin_one 0 255 k B w h; rwa [decide_eq_false hk] at this
  clear hk
  go_enter Try.func25, Try.ntmps25
  go_wp2_with (go_at_call 54; ((with_reducible refine (HW.out _ _ (by simp [go_sem])).mono ?_); rintro e w1 ⟨rfl, hb⟩))
  go_ret2
  exact ⟨rfl, by (repeat' (first | (with_reducible exact Below.refl _ _) | (with_reducible assumption) | (with_reducible refine belowThru ?_ (by assumption)) | (with_reducible refine belowAlloc ?_) | (with_reducible refine Below.setCell ?_ (by first | omega | (simp; done) | (simp; omega)) _) | (with_reducible refine Below.drew ?_) | (with_reducible refine below_drewN ?_ _)))⟩
/-! ### Lists that are compared, and copied -/
set_option maxHeartbeats 2000000 in
theorem sameInts_any (a b : Option Addr) (n m c d : Nat) (xs ys : List Int) (hn : n ≤ maxLen) (w : World) (hR : Row w a n (iv xs)) (hS : Row w b m (iv ys)) :
    Calls Try.prog 62 #[.slice a n c, .slice b m d] w fun e w' => e = .returned (.bool (decide (xs = ys))) ∧ Below w.heap.size w w' := by
  unfold maxLen at hn
  have hx : xs.length = n := by have := hR.1; rwa [iv_length] at this
  have hy : ys.length = m := by have := hS.1; rwa [iv_length] at this
  by_cases hl : n = m
  · subst hl
    have HX := Lib.hid hx; have HY := Lib.hid hy; have HR := Lib.hid hR; have HS := Lib.hid hS
    clear hx hy hR hS
    go_enter Try.func62, Try.ntmps62
    go_wp2
    go_loopw [5] (fun i wr => ∃ k : Nat, k ≤ n ∧ i = .int .i64 k ∧ Hid (xs.take k = ys.take k) ∧ Below w.heap.size w wr) (fun i _ => n - (intOf i).toNat)
    case atStart => exact ⟨0, Nat.zero_le _, rfl, (show xs.take 0 = ys.take 0 by simp), by (repeat' (first | (with_reducible exact Below.refl _ _) | (with_reducible assumption) | (with_reducible refine belowThru ?_ (by assumption)) | (with_reducible refine belowAlloc ?_) | (with_reducible refine Below.setCell ?_ (by first | omega | (simp; done) | (simp; omega)) _) | (with_reducible refine Below.drew ?_) | (with_reducible refine below_drewN ?_ _)))⟩
    case round =>
      obtain ⟨k, hk, rfl, ht, hB⟩ := hrel
      by_cases hlt : k < n
      · obtain ⟨b1, o1, z1, rfl, l1, h1, c1⟩ := HR.out.int hlt
        obtain ⟨b2, o2, z2, rfl, l2, h2, c2⟩ := HS.out.int hlt
        have c1 := cell_later hB c1
        have c2 := cell_later hB c2
        have p0 : (0 : Int) ≤ (k : Int) := by omega
        have p1 : (k : Int) < (n : Int) := by omega
        by_cases he : z1 = z2
        · subst he
          have ht' : Hid (xs.take (k + 1) = ys.take (k + 1)) := by show _ = _; rw [List.take_add_one, List.take_add_one, h1, h2, ht.out]
          clear h1 h2
          go_wp2_with fail
          go_quiet (fail)
          go_wp2
          go_roundw
          case rel => exact ⟨k + 1, hlt, by go_num, ht', by (repeat' (first | (with_reducible exact Below.refl _ _) | (with_reducible assumption) | (with_reducible refine belowThru ?_ (by assumption)) | (with_reducible refine belowAlloc ?_) | (with_reducible refine Below.setCell ?_ (by first | omega | (simp; done) | (simp; omega)) _) | (with_reducible refine Below.drew ?_) | (with_reducible refine below_drewN ?_ _)))⟩
          case measure => simp [intOf]; omega
        · have hd : (z1 != z2) = true := by simpa using he
          have hz : decide (xs = ys) = false := decide_eq_false (fun e => he (by rw [e, h2] at h1; exact (Option.some.inj h1).symm))
          clear h1 h2 he
          go_wp2_with fail
          go_quiet (fail)
          go_wp2
          go_ret
          exact ⟨by first | rfl | (rw [hz]; rfl), by (repeat' (first | (with_reducible exact Below.refl _ _) | (with_reducible assumption) | (with_reducible refine belowThru ?_ (by assumption)) | (with_reducible refine belowAlloc ?_) | (with_reducible refine Below.setCell ?_ (by first | omega | (simp; done) | (simp; omega)) _) | (with_reducible refine Below.drew ?_) | (with_reducible refine below_drewN ?_ _)))⟩
      · have hz : decide (xs = ys) = true := decide_eq_true (by
          have h := ht.out
          rwa [List.take_of_length_le (by rw [HX.out]; omega), List.take_of_length_le (by rw [HY.out]; omega)] at h)
        go_wp2
        go_ret
        exact ⟨by first | rfl | (rw [hz]; rfl), by (repeat' (first | (with_reducible exact Below.refl _ _) | (with_reducible assumption) | (with_reducible refine belowThru ?_ (by assumption)) | (with_reducible refine belowAlloc ?_) | (with_reducible refine Below.setCell ?_ (by first | omega | (simp; done) | (simp; omega)) _) | (with_reducible refine Below.drew ?_) | (with_reducible refine below_drewN ?_ _)))⟩
  · have hd : ((n : Int) != (m : Int)) = true := by simp; omega
    rw [decide_eq_false (fun e : xs = ys => hl (by rw [← hx, ← hy, e]))]
    clear hR hS hx hy
    go_enter Try.func62, Try.ntmps62
    go_wp2
    go_ret
    exact ⟨rfl, by (repeat' (first | (with_reducible exact Below.refl _ _) | (with_reducible assumption) | (with_reducible refine belowThru ?_ (by assumption)) | (with_reducible refine belowAlloc ?_) | (with_reducible refine Below.setCell ?_ (by first | omega | (simp; done) | (simp; omega)) _) | (with_reducible refine Below.drew ?_) | (with_reducible refine below_drewN ?_ _)))⟩

end Go.Proofs.Ytbdcmdofmokoeaa
/-
  Layer 4: the chapter's examples, one by one.
-/
namespace Go.Proofs.Ytbdcmdofmokoeaa
open Go.RowKit Go.Shelf
set_option linter.unusedVariables false
set_option linter.unusedSimpArgs false

theorem okT_three {p q r : Int × Int} (h0 : InT p) (h1 : InT q) (h2 : InT r) (l0 : Lt2 p q) (l1 : Lt2 q r) : okT [p, q, r] := by
  refine ⟨⟨by simp, by simp⟩, fun i x hi hx => ?_, fun i x y hi hx hy => ?_⟩
  · have : i < 3 := hi
    obtain rfl | rfl | rfl : i = 0 ∨ i = 1 ∨ i = 2 := by omega
    all_goals (cases hx; assumption)
  · have : i + 1 < 3 := hi
    obtain rfl | rfl : i = 0 ∨ i = 1 := by omega
    all_goals (cases hx; cases hy; assumption)
theorem okF_lit {q : Rat} (h : fits q) {n d : Int} (h1 : fn q = n) (h2 : fd q = d) : okF n d := by rw [← h1, ← h2]; exact okF_q h
theorem okT_tab : okT tab := okT_three (by unfold InT; decide) (by unfold InT; decide) (by unfold InT; decide) (by unfold Lt2; decide) (by unfold Lt2; decide)
theorem okT_bat : okT (tab.map swp) := okT_three (by unfold InT; decide) (by unfold InT; decide) (by unfold InT; decide) (by unfold Lt2; decide) (by unfold Lt2; decide)
theorem okF_whole (n : Int) (h : -4611686018427387903 ≤ n ∧ n ≤ 4611686018427387903) : okF n 1 := okF_lit (q := (n : Rat)) (by unfold fits; rw [show fn (n : Rat) = n from rfl, show fd (n : Rat) = 1 from rfl]; omega) rfl rfl
theorem c_cor (b : Nat) (w : World) (h : KRow w (some ⟨b, 0, none⟩) 3 tab) :
    Calls Try.prog 15 #[.slice (some ⟨b, 0, none⟩) 3 3, .agg #[.int .i64 32, .int .i64 1]] w fun e w' => e = .returned (.tuple #[.agg #[.int .i64 36, .int .i64 1], .int .i64 0]) ∧ Below w.heap.size w w' := by
  have hx : okX tab 32 1 := ⟨okF_whole 32 (by omega), by decide, by decide, by decide⟩
  have hs : Seg tab 32 1 1 := ⟨by decide, fun t ht => by obtain rfl : t = 0 := (by omega); decide, by decide⟩
  have e0 := coE_ok okT_tab hx
  have e1 : coN tab 32 1 = 36 := by unfold coN; rw [if_pos e0, coQ_of okT_tab (by decide) hs]; kernel_rfl
  have e2 : coD tab 32 1 = 1 := by unfold coD; rw [if_pos e0, coQ_of okT_tab (by decide) hs]; kernel_rfl
  have k := cor_any tab 32 1 ⟨by decide, by decide⟩ (some ⟨b, 0, none⟩) 3 3 w (by decide) h
  unfold cofV at k
  rw [e0, e1, e2] at k
  exact k
theorem c_dis (b : Nat) (w : World) (h : KRow w (some ⟨b, 0, none⟩) 3 tab) :
    Calls Try.prog 36 #[.slice (some ⟨b, 0, none⟩) 3 3, .agg #[.int .i64 36, .int .i64 1]] w fun e w' => e = .returned (.tuple #[.agg #[.int .i64 32, .int .i64 1], .int .i64 0]) ∧ Below w.heap.size w w' := by
  have hx : okX (tab.map swp) 36 1 := ⟨okF_whole 36 (by omega), by decide, by decide, by decide⟩
  have hs : Seg (tab.map swp) 36 1 1 := ⟨by decide, fun t ht => by obtain rfl : t = 0 := (by omega); decide, by decide⟩
  have e0 := coE_ok okT_bat hx
  have e1 : coN (tab.map swp) 36 1 = 32 := by unfold coN; rw [if_pos e0, coQ_of okT_bat (by decide) hs]; kernel_rfl
  have e2 : coD (tab.map swp) 36 1 = 1 := by unfold coD; rw [if_pos e0, coQ_of okT_bat (by decide) hs]; kernel_rfl
  have k := dis_any tab 36 1 ⟨by decide, by decide⟩ (by decide) (some ⟨b, 0, none⟩) 3 3 w (by decide) h
  unfold cofV at k
  rw [e0, e1, e2] at k
  exact k
theorem c_val (w : World) : Calls Try.prog 39 #[.agg #[.int .i64 64, .int .i64 10, .int .i64 2], .int .i64 100] w fun e w' => e = .returned (.tuple #[.int .i64 35, .int .i64 0]) ∧ Below w.heap.size w w' := by
  have k := value_any 64 10 2 100 w
  rwa [show vaV 64 10 2 100 = 35 by kernel_rfl, show vaE 64 10 2 100 = 0 by kernel_rfl] at k
theorem c_rad (w : World) : Calls Try.prog 40 #[.agg #[.int .i64 64, .int .i64 10, .int .i64 2], .int .i64 35] w fun e w' => e = .returned (.tuple #[.int .i64 92, .int .i64 111, .int .i64 0]) ∧ Below w.heap.size w w' := by
  have k := radi_any 64 10 2 35 w
  rwa [show raLo 64 10 2 35 = 92 by kernel_rfl, show raHi 64 10 2 35 = 111 by kernel_rfl, show raeE 64 10 2 35 = 0 by kernel_rfl] at k
theorem c_cal (b : Nat) (w : World) (h : Blk w b #[.int .i64 0, .int .i64 10, .int .i64 100, .int .i64 104, .int .i64 10, .int .i64 10, .int .i64 196, .int .i64 200] 45) :
    Calls Try.prog 21 #[.slice (some ⟨b, 0, none⟩) 2 2] w fun e w' => e = .returned (.tuple #[.agg #[.int .i64 92, .int .i64 1, .int .i64 100, .int .i64 1, .int .i64 100, .int .i64 1, .int .i64 104, .int .i64 1], .int .i64 0]) ∧ Below w.heap.size w w' := by
  have k := calib_any (some ⟨b, 0, none⟩) 2 2 duo w (duo_row h)
  rw [show caE duo = 0 by kernel_rfl, show caV duo = #[.int .i64 92, .int .i64 1, .int .i64 100, .int .i64 1, .int .i64 100, .int .i64 1, .int .i64 104, .int .i64 1] by kernel_rfl] at k
  exact k
theorem c_ran (b : Nat) (w : World) (h : Blk w b #[.int .i64 0, .int .i64 10, .int .i64 100, .int .i64 104, .int .i64 10, .int .i64 10, .int .i64 196, .int .i64 200] 45) :
    Calls Try.prog 19 #[.slice (some ⟨b, 0, none⟩) 2 2, .int .i64 2, .int .i64 1] w fun e w' => e = .returned (.tuple #[.agg #[.int .i64 288, .int .i64 1, .int .i64 300, .int .i64 1], .int .i64 0]) ∧ Below w.heap.size w w' := by
  have k := range_any (some ⟨b, 0, none⟩) 2 2 2 1 duo w (duo_row h)
  rw [show raE 2 1 duo = 0 by kernel_rfl, show raC 2 1 duo = #[.int .i64 288, .int .i64 1, .int .i64 300, .int .i64 1] by kernel_rfl] at k
  exact k
def tri : List Vw := [(0, 10, 100, 104), (10, 10, 196, 200), (20, 10, 301, 310)]
theorem c_app (ty : TypeId) (b x : Nat) (W : World) (h : Blk W b #[.int .i64 0, .int .i64 10, .int .i64 100, .int .i64 104, .int .i64 10, .int .i64 10, .int .i64 196, .int .i64 200] 45) (h2 : Blk W x #[.int .i64 20, .int .i64 10, .int .i64 301, .int .i64 310] 45) :
    ∃ r w', (Builtin.append_ #[38, 38] ty #[.slice (some ⟨b, 0, none⟩) 2 2, .slice (some ⟨x, 0, none⟩) 1 1]).run Try.prog W = .ok r w' ∧ ∃ (a : Option Addr) (c : Nat), r = .slice a 3 c ∧ 3 ≤ c ∧ VRow w' a 3 tri ∧ Below b W w' := by
  have hb := h.lt
  have ho : OwnV b W (.slice (some ⟨b, 0, none⟩) 2 2) duo := OwnV.two h (Nat.le_refl _)
  obtain ⟨a0, c0, e0, hr, -⟩ := (OwnV.one h2 (Nat.zero_le x)).row
  cases e0
  obtain ⟨v', w', hrun, hown, hbel⟩ := run_append_vw ty ho hr (by decide) (by decide) (by omega)
  obtain ⟨a', c', rfl, hr', hc'⟩ := hown.row
  exact ⟨_, w', hrun, a', c', rfl, hc', hr', hbel⟩
theorem c_bad (a : Option Addr) (c : Nat) (hc : 3 ≤ c) (w : World) (h : VRow w a 3 tri) :
    Calls Try.prog 22 #[.slice a 3 c] w fun e w' => e = .returned (.tuple #[.int .i64 2, .int .i64 0]) ∧ Below w.heap.size w w' := by
  have k := bad_any a 3 c tri hc w h
  rwa [show baV tri = 2 by kernel_rfl, show ckV tri = 0 by kernel_rfl] at k
theorem okP_one (n : Int) (h : -4611686018427387903 ≤ n ∧ n ≤ 4611686018427387903) : OkP ((n : Rat), (n : Rat)) := by
  have hf : fits (n : Rat) := by unfold fits; rw [show fn (n : Rat) = n from rfl, show fd (n : Rat) = 1 from rfl]; omega
  exact ⟨hf, hf, Rat.le_refl⟩
theorem c_dep (w : World) : Calls Try.prog 26 #[.agg #[.int .i64 96, .int .i64 1, .int .i64 96, .int .i64 1, .int .i64 100, .int .i64 1, .int .i64 100, .int .i64 1], .agg #[.int .i64 96, .int .i64 1, .int .i64 96, .int .i64 1, .int .i64 100, .int .i64 1, .int .i64 100, .int .i64 1], .int .i64 10, .agg #[.int .i64 148, .int .i64 1, .int .i64 148, .int .i64 1], .agg #[.int .i64 124, .int .i64 1, .int .i64 124, .int .i64 1]] w fun e w' => e = .returned (.tuple #[.agg #[.int .i64 40, .int .i64 1, .int .i64 40, .int .i64 1], .int .i64 0]) ∧ Below w.heap.size w w' := by
  have o96 := okP_one 96 (by omega); have o100 := okP_one 100 (by omega)
  have k := dep_q (base := 10) (by decide) o96 (by decide) o100 o96 (by decide) o100 (okP_one 148 (by omega)) (okP_one 124 (by omega)) w
  rw [show depO 10 (((96 : Int) : Rat), ((96 : Int) : Rat)) (((100 : Int) : Rat), ((100 : Int) : Rat)) (((96 : Int) : Rat), ((96 : Int) : Rat)) (((100 : Int) : Rat), ((100 : Int) : Rat)) (((148 : Int) : Rat), ((148 : Int) : Rat)) (((124 : Int) : Rat), ((124 : Int) : Rat)) = .ok (((40 : Int) : Rat), ((40 : Int) : Rat)) by kernel_rfl] at k
  exact k
theorem c_str (x y : Nat) (w : World) (h1 : Blk w x #[.int .i64 90, .int .i64 50, .int .i64 20] 3) (h2 : Blk w y #[.int .i64 10, .int .i64 48, .int .i64 70] 3) :
    Calls Try.prog 51 #[.slice (some ⟨x, 0, none⟩) 3 3, .slice (some ⟨y, 0, none⟩) 3 3, .int .i64 5] w fun e w' => (∃ (v : Option Addr) (d : Nat), e = .returned (.tuple #[.slice v 2 d, .int .i64 0]) ∧ Row w' v 2 (iv [4, 7])) ∧ Below w.heap.size w w' := by
  have ho : okStr 5 [90, 50, 20] [10, 48, 70] := ⟨⟨by decide, by decide⟩, rfl, fun z hz => by simp at hz; omega, fun z hz => by simp at hz; omega, by decide, by decide⟩
  have k := stripes_ok 5 (some ⟨x, 0, none⟩) (some ⟨y, 0, none⟩) 3 3 3 [90, 50, 20] [10, 48, 70] w (Row.of_blk h1) (Row.of_blk h2) ho
  refine k.mono ?_
  rintro e w' ⟨v, d, rfl, hr, hb⟩
  rw [show stripes (2 * 5) [90, 50, 20] [10, 48, 70] (2 ^ 3) = [4, 7] by kernel_rfl] at hr ⊢
  exact ⟨⟨v, d, rfl, hr⟩, hb⟩
theorem c_same (v : Option Addr) (d x : Nat) (w : World) (h1 : Row w v 2 (iv [4, 7])) (h2 : Blk w x #[.int .i64 4, .int .i64 7] 3) :
    Calls Try.prog 62 #[.slice v 2 d, .slice (some ⟨x, 0, none⟩) 2 2] w fun e w' => e = .returned (.bool true) ∧ Below w.heap.size w w' := by
  refine (sameInts_any v (some ⟨x, 0, none⟩) 2 2 d 2 [4, 7] [4, 7] (by unfold maxLen; omega) w h1 (Row.of_blk h2)).mono ?_
  rintro e w' ⟨rfl, hb⟩
  exact ⟨by simp, hb⟩
end Go.Proofs.Ytbdcmdofmokoeaa
/-
  Layer 4: the statements' own examples: the walk.
-/
namespace Go.Proofs.Ytbdcmdofmokoeaa
open Go.RowKit Go.Shelf
set_option linter.unusedVariables false
set_option linter.unusedSimpArgs false

theorem holdK2 {w : World} {b0 b1 : Nat} {c0 c1 : Array Value} {t0 t1 : TypeId} {D0 D1 E G : Prop} (h : (Blk w b0 c0 t0 ∧ D0) ∧ (Blk w b1 c1 t1 ∧ D1) ∧ E) (g : Blk w b0 c0 t0 → Blk w b1 c1 t1 → E → G) : G := g h.1.1 h.2.1.1 h.2.2
theorem holdK3 {w : World} {b0 b1 b2 : Nat} {c0 c1 c2 : Array Value} {t0 t1 t2 : TypeId} {D0 D1 D2 E G : Prop} (h : (Blk w b0 c0 t0 ∧ D0) ∧ (Blk w b1 c1 t1 ∧ D1) ∧ (Blk w b2 c2 t2 ∧ D2) ∧ E) (g : Blk w b0 c0 t0 → Blk w b1 c1 t1 → Blk w b2 c2 t2 → E → G) : G := g h.1.1 h.2.1.1 h.2.2.1.1 h.2.2.2
/-- What holds of the region whichever operations have come up. -/
def AlJ (w11 w13 w17 Wp : World) (i98 i99 i100 i101 i102 i97 i103 i104 i14 i9 : Value) (b9 : Act) (L9 : Array Bool) (a9 : Act) (w9 : World) : Prop :=
  ∃ (gg0 gg1 gg2 gg3 gg4 gg5 gg6 gg7 gg8 gg9 gg10 : Bool) (x8 : Nat), L9 = #[gg0, gg1, gg2, gg3, gg4, gg5, gg6, gg7, gg8, gg9, gg10] ∧ a9 = ((((((((((b9).put (some 98) (cond gg0 (.agg #[.int .i64 96, .int .i64 1, .int .i64 96, .int .i64 1, .int .i64 100, .int .i64 1, .int .i64 100, .int .i64 1]) (i98))).put (some 99) (cond gg1 (.agg #[.int .i64 96, .int .i64 1, .int .i64 96, .int .i64 1, .int .i64 100, .int .i64 1, .int .i64 100, .int .i64 1]) (i99))).put (some 100) (cond gg2 (.agg #[.int .i64 148, .int .i64 1, .int .i64 148, .int .i64 1]) (i100))).put (some 101) (cond gg3 (.agg #[.int .i64 124, .int .i64 1, .int .i64 124, .int .i64 1]) (i101))).put (some 102) (cond gg4 (.tuple #[.agg #[.int .i64 40, .int .i64 1, .int .i64 40, .int .i64 1], .int .i64 0]) (i102))).put (some 97) (cond gg5 (.tuple #[.agg #[.int .i64 40, .int .i64 1, .int .i64 40, .int .i64 1], .int .i64 0]) (i97))).put (some 103) (cond gg6 (.agg #[.int .i64 40, .int .i64 1, .int .i64 40, .int .i64 1]) (i103))).put (some 104) (cond gg7 (.int .i64 0) (i104))).put (some 14) (cond gg8 (.pointer (some ⟨x8, 0, none⟩)) (i14))).put (some 9) (cond gg10 (.int .i64 0) (i9)) ∧ Blk w9 (w17.heap.size) #[.int .i64 96, .int .i64 1, .int .i64 96, .int .i64 1, .int .i64 100, .int .i64 1, .int .i64 100, .int .i64 1] 41 ∧ Blk w9 (w11.heap.size) #[.int .i64 92, .int .i64 1, .int .i64 100, .int .i64 1, .int .i64 100, .int .i64 1, .int .i64 104, .int .i64 1] 41 ∧ Blk w9 (w13.heap.size) #[.int .i64 288, .int .i64 1, .int .i64 300, .int .i64 1] 35 ∧ Below Wp.heap.size Wp w9 ∧ Wp.heap.size ≤ w9.heap.size ∧ (gg8 = true → Blk w9 x8 (cond gg9 #[.int .i64 40, .int .i64 1, .int .i64 40, .int .i64 1] #[.int .i64 0, .int .i64 0, .int .i64 0, .int .i64 0]) 35 ∧ Wp.heap.size ≤ x8) ∧ (gg9 = true → gg8 = true)
set_option maxRecDepth 100000 in
set_option maxHeartbeats 16000000 in
theorem alive_true (w : World) :
    Calls Try.prog 23 #[] w fun e w' => e = .returned (.bool true) ∧ Below w.heap.size w w' := by
  have W32 := Lib.hid (whole_any 32)
  have W36 := Lib.hid (whole_any 36)
  have S96_96 := Lib.hid (span_any 96 96)
  have S100_100 := Lib.hid (span_any 100 100)
  have S148_148 := Lib.hid (span_any 148 148)
  have S124_124 := Lib.hid (span_any 124 124)
  have S92_100 := Lib.hid (span_any 92 100)
  have S100_104 := Lib.hid (span_any 100 104)
  have S288_300 := Lib.hid (span_any 288 300)
  have S40_40 := Lib.hid (span_any 40 40)
  have CO := Lib.hid c_cor
  have DI := Lib.hid c_dis
  have VA := Lib.hid c_val
  have RA := Lib.hid c_rad
  have CA := Lib.hid c_cal
  have RN := Lib.hid c_ran
  have FB := Lib.hid c_bad
  have DE := Lib.hid c_dep
  have ST := Lib.hid c_str
  have AP := Lib.hid c_app
  have TA := Lib.hid table_any
  have TW := Lib.hid two_any
  go_enter Try.func23, Try.ntmps23
  go_wp2_with fail
  refine (TA.out _).mono ?_
  rintro e w1 ⟨⟨bt, rfl, hK⟩, hb⟩
  have hBw : Below w.heap.size w w1 := by (repeat' (first | (with_reducible exact Below.refl _ _) | (with_reducible assumption) | (with_reducible refine belowThru ?_ (by assumption)) | (with_reducible refine belowAlloc ?_) | (with_reducible refine Below.setCell ?_ (by first | omega | (simp; done) | (simp; omega)) _) | (with_reducible refine Below.drew ?_) | (with_reducible refine below_drewN ?_ _)))
  have hzw1 := hBw.size
  clear hb
  go_wp2_with fail
  refine (W32.out _).mono ?_
  rintro e w2 ⟨rfl, hb⟩
  replace hK := hK.later hb
  replace hBw : Below w.heap.size w w2 := belowThru (by (repeat' (first | (with_reducible exact Below.refl _ _) | (with_reducible assumption) | (with_reducible refine belowThru ?_ (by assumption)) | (with_reducible refine belowAlloc ?_) | (with_reducible refine Below.setCell ?_ (by first | omega | (simp; done) | (simp; omega)) _) | (with_reducible refine Below.drew ?_) | (with_reducible refine below_drewN ?_ _)))) hb
  have hzw2 := hBw.size
  clear hb
  go_wp2_with fail
  refine (CO.out _ _ hK).mono ?_
  rintro e w3 ⟨rfl, hb⟩
  replace hBw : Below w.heap.size w w3 := belowThru (by (repeat' (first | (with_reducible exact Below.refl _ _) | (with_reducible assumption) | (with_reducible refine belowThru ?_ (by assumption)) | (with_reducible refine belowAlloc ?_) | (with_reducible refine Below.setCell ?_ (by first | omega | (simp; done) | (simp; omega)) _) | (with_reducible refine Below.drew ?_) | (with_reducible refine below_drewN ?_ _)))) hb
  have hzw3 := hBw.size
  clear hb
  clear hK
  go_wp2_with fail
  refine (TA.out _).mono ?_
  rintro e w4 ⟨⟨bt, rfl, hK⟩, hb⟩
  have kn0 : Blk w4 (w3.heap.size) #[.int .i64 36, .int .i64 1] 23 := Blk.later hb (by (repeat' (first | (with_reducible assumption) | (with_reducible refine Blk.set2 ?_) | ((with_reducible refine Blk.new ?_); first | rfl | (simp; done)) | (with_reducible refine Blk.later (by assumption) ?_) | (with_reducible refine Blk.alloc ?_) | (with_reducible refine Blk.drewN ?_) | (with_reducible refine Blk.drew ?_) | (with_reducible refine Blk.other ?_ (by first | omega | (simp; done) | (simp; omega))))))
  have k0 := kn0; clear kn0; obtain ⟨a0, b0⟩ := k0.read; have y0 := k0.lt
  replace hBw : Below w.heap.size w w4 := belowThru (by (repeat' (first | (with_reducible exact Below.refl _ _) | (with_reducible assumption) | (with_reducible refine belowThru ?_ (by assumption)) | (with_reducible refine belowAlloc ?_) | (with_reducible refine Below.setCell ?_ (by first | omega | (simp; done) | (simp; omega)) _) | (with_reducible refine Below.drew ?_) | (with_reducible refine below_drewN ?_ _)))) hb
  have hzw4 := hBw.size
  clear hb
  go_wp2_with fail
  refine (W36.out _).mono ?_
  rintro e w5 ⟨rfl, hb⟩
  replace hK := hK.later hb
  have kn0 : Blk w5 (w3.heap.size) #[.int .i64 36, .int .i64 1] 23 := Blk.later hb (by (repeat' (first | (with_reducible assumption) | (with_reducible refine Blk.set2 ?_) | ((with_reducible refine Blk.new ?_); first | rfl | (simp; done)) | (with_reducible refine Blk.later (by assumption) ?_) | (with_reducible refine Blk.alloc ?_) | (with_reducible refine Blk.drewN ?_) | (with_reducible refine Blk.drew ?_) | (with_reducible refine Blk.other ?_ (by first | omega | (simp; done) | (simp; omega))))))
  clear k0 a0 b0 y0
  have k0 := kn0; clear kn0; obtain ⟨a0, b0⟩ := k0.read; have y0 := k0.lt
  replace hBw : Below w.heap.size w w5 := belowThru (by (repeat' (first | (with_reducible exact Below.refl _ _) | (with_reducible assumption) | (with_reducible refine belowThru ?_ (by assumption)) | (with_reducible refine belowAlloc ?_) | (with_reducible refine Below.setCell ?_ (by first | omega | (simp; done) | (simp; omega)) _) | (with_reducible refine Below.drew ?_) | (with_reducible refine below_drewN ?_ _)))) hb
  have hzw5 := hBw.size
  clear hb
  go_wp2_with fail
  refine (DI.out _ _ hK).mono ?_
  rintro e w6 ⟨rfl, hb⟩
  have kn0 : Blk w6 (w3.heap.size) #[.int .i64 36, .int .i64 1] 23 := Blk.later hb (by (repeat' (first | (with_reducible assumption) | (with_reducible refine Blk.set2 ?_) | ((with_reducible refine Blk.new ?_); first | rfl | (simp; done)) | (with_reducible refine Blk.later (by assumption) ?_) | (with_reducible refine Blk.alloc ?_) | (with_reducible refine Blk.drewN ?_) | (with_reducible refine Blk.drew ?_) | (with_reducible refine Blk.other ?_ (by first | omega | (simp; done) | (simp; omega))))))
  clear k0 a0 b0 y0
  have k0 := kn0; clear kn0; obtain ⟨a0, b0⟩ := k0.read; have y0 := k0.lt
  replace hBw : Below w.heap.size w w6 := belowThru (by (repeat' (first | (with_reducible exact Below.refl _ _) | (with_reducible assumption) | (with_reducible refine belowThru ?_ (by assumption)) | (with_reducible refine belowAlloc ?_) | (with_reducible refine Below.setCell ?_ (by first | omega | (simp; done) | (simp; omega)) _) | (with_reducible refine Below.drew ?_) | (with_reducible refine below_drewN ?_ _)))) hb
  have hzw6 := hBw.size
  clear hb
  clear hK
  go_wp2_with fail
  refine (VA.out _).mono ?_
  rintro e w7 ⟨rfl, hb⟩
  have kn0 : Blk w7 (w3.heap.size) #[.int .i64 36, .int .i64 1] 23 := Blk.later hb (by (repeat' (first | (with_reducible assumption) | (with_reducible refine Blk.set2 ?_) | ((with_reducible refine Blk.new ?_); first | rfl | (simp; done)) | (with_reducible refine Blk.later (by assumption) ?_) | (with_reducible refine Blk.alloc ?_) | (with_reducible refine Blk.drewN ?_) | (with_reducible refine Blk.drew ?_) | (with_reducible refine Blk.other ?_ (by first | omega | (simp; done) | (simp; omega))))))
  have kn1 : Blk w7 (w6.heap.size) #[.int .i64 32, .int .i64 1] 23 := Blk.later hb (by (repeat' (first | (with_reducible assumption) | (with_reducible refine Blk.set2 ?_) | ((with_reducible refine Blk.new ?_); first | rfl | (simp; done)) | (with_reducible refine Blk.later (by assumption) ?_) | (with_reducible refine Blk.alloc ?_) | (with_reducible refine Blk.drewN ?_) | (with_reducible refine Blk.drew ?_) | (with_reducible refine Blk.other ?_ (by first | omega | (simp; done) | (simp; omega))))))
  clear k0 a0 b0 y0
  have k0 := kn0; clear kn0; obtain ⟨a0, b0⟩ := k0.read; have y0 := k0.lt
  have k1 := kn1; clear kn1; obtain ⟨a1, b1⟩ := k1.read; have y1 := k1.lt
  replace hBw : Below w.heap.size w w7 := belowThru (by (repeat' (first | (with_reducible exact Below.refl _ _) | (with_reducible assumption) | (with_reducible refine belowThru ?_ (by assumption)) | (with_reducible refine belowAlloc ?_) | (with_reducible refine Below.setCell ?_ (by first | omega | (simp; done) | (simp; omega)) _) | (with_reducible refine Below.drew ?_) | (with_reducible refine below_drewN ?_ _)))) hb
  have hzw7 := hBw.size
  clear hb
  go_wp2_with fail
  refine (RA.out _).mono ?_
  rintro e w8 ⟨rfl, hb⟩
  have kn0 : Blk w8 (w3.heap.size) #[.int .i64 36, .int .i64 1] 23 := Blk.later hb (by (repeat' (first | (with_reducible assumption) | (with_reducible refine Blk.set2 ?_) | ((with_reducible refine Blk.new ?_); first | rfl | (simp; done)) | (with_reducible refine Blk.later (by assumption) ?_) | (with_reducible refine Blk.alloc ?_) | (with_reducible refine Blk.drewN ?_) | (with_reducible refine Blk.drew ?_) | (with_reducible refine Blk.other ?_ (by first | omega | (simp; done) | (simp; omega))))))
  have kn1 : Blk w8 (w6.heap.size) #[.int .i64 32, .int .i64 1] 23 := Blk.later hb (by (repeat' (first | (with_reducible assumption) | (with_reducible refine Blk.set2 ?_) | ((with_reducible refine Blk.new ?_); first | rfl | (simp; done)) | (with_reducible refine Blk.later (by assumption) ?_) | (with_reducible refine Blk.alloc ?_) | (with_reducible refine Blk.drewN ?_) | (with_reducible refine Blk.drew ?_) | (with_reducible refine Blk.other ?_ (by first | omega | (simp; done) | (simp; omega))))))
  clear k0 a0 b0 y0
  clear k1 a1 b1 y1
  have k0 := kn0; clear kn0; obtain ⟨a0, b0⟩ := k0.read; have y0 := k0.lt
  have k1 := kn1; clear kn1; obtain ⟨a1, b1⟩ := k1.read; have y1 := k1.lt
  replace hBw : Below w.heap.size w w8 := belowThru (by (repeat' (first | (with_reducible exact Below.refl _ _) | (with_reducible assumption) | (with_reducible refine belowThru ?_ (by assumption)) | (with_reducible refine belowAlloc ?_) | (with_reducible refine Below.setCell ?_ (by first | omega | (simp; done) | (simp; omega)) _) | (with_reducible refine Below.drew ?_) | (with_reducible refine below_drewN ?_ _)))) hb
  have hzw8 := hBw.size
  clear hb
  go_wp2_with fail
  obtain ⟨Wp, rfl⟩ : ∃ Wp, Wp = w8 := ⟨_, rfl⟩
  clear a0 b0 y0; have y0 := k0.lt
  clear a1 b1 y1; have y1 := k1.lt
  go_cut [75] (fun s75 wx => s75 = .bool false ∧ Below Wp.heap.size Wp wx)
  case first =>
    go_region_held3 (fun w' => (Blk w' (w3.heap.size) #[.int .i64 36, .int .i64 1] 23 ∧ (∀ i : Nat, w'.cell? ⟨w3.heap.size, i, none⟩ = (#[.int .i64 36, .int .i64 1] : Array Value)[i]?)) ∧ (Blk w' (w6.heap.size) #[.int .i64 32, .int .i64 1] 23 ∧ (∀ i : Nat, w'.cell? ⟨w6.heap.size, i, none⟩ = (#[.int .i64 32, .int .i64 1] : Array Value)[i]?)) ∧ Below Wp.heap.size Wp w')
      (((first | (apply holdK2; (focus assumption); intro p0 p1 pB) | skip); refine ⟨Blk.full ?_, Blk.full ?_, ?_⟩; all_goals (first | ((repeat' (first | (with_reducible assumption) | ((with_reducible refine Blk.new ?_); first | rfl | (simp; done)) | (with_reducible refine Blk.later (by assumption) ?_) | (with_reducible refine Blk.alloc ?_) | (with_reducible refine Blk.drewN ?_) | (with_reducible refine Blk.drew ?_) | (with_reducible refine Blk.other ?_ (by first | omega | (simp; done) | (simp; omega))))); done) | ((repeat' (first | (with_reducible exact Below.refl _ _) | (with_reducible assumption) | (with_reducible refine belowThru ?_ (by assumption)) | (with_reducible refine belowAlloc ?_) | (with_reducible refine Below.setCell ?_ (by first | omega | (simp; done) | (simp; omega)) _) | (with_reducible refine Below.drew ?_) | (with_reducible refine below_drewN ?_ _))); done) | exact Below.refl _ _)))
      (first
      | (go_at_call 17; (with_reducible refine (W36.out _).mono ?_); rintro e w1 ⟨rfl, hb⟩)
      | (go_at_call 17; (with_reducible refine (W32.out _).mono ?_); rintro e w1 ⟨rfl, hb⟩))
    all_goals
      apply holdK2; (focus assumption); intro p0 p1 pB
      go_wp2_with fail
      go_meet
      exact ⟨rfl, pB⟩
  case rest =>
    obtain ⟨rfl, hb⟩ := hcut
    obtain ⟨w9, rfl⟩ : ∃ z, z = wc := ⟨_, rfl⟩
    replace k0 := Blk.later hb k0; clear y0; obtain ⟨a0, b0⟩ := k0.read; have y0 := k0.lt
    replace k1 := Blk.later hb k1; clear y1; obtain ⟨a1, b1⟩ := k1.read; have y1 := k1.lt
    replace hBw : Below w.heap.size w w9 := belowThru hBw hb
    have hzw9 := hBw.size
    clear hb
    clear k0 a0 b0 y0 k1 a1 b1 y1
    go_wp2_with fail
    refine (TW.out _).mono ?_
    rintro e w10 ⟨⟨bt, rfl, hbt, kS⟩, hb⟩
    try simp only [World.alloc, Array.size_push] at hbt
    replace hBw : Below w.heap.size w w10 := belowThru (by (repeat' (first | (with_reducible exact Below.refl _ _) | (with_reducible assumption) | (with_reducible refine belowThru ?_ (by assumption)) | (with_reducible refine belowAlloc ?_) | (with_reducible refine Below.setCell ?_ (by first | omega | (simp; done) | (simp; omega)) _) | (with_reducible refine Below.drew ?_) | (with_reducible refine below_drewN ?_ _)))) hb
    have hzw10 := hBw.size
    clear hb
    go_wp2_with fail
    refine (CA.out _ _ kS).mono ?_
    rintro e w11 ⟨rfl, hb⟩
    replace hBw : Below w.heap.size w w11 := belowThru (by (repeat' (first | (with_reducible exact Below.refl _ _) | (with_reducible assumption) | (with_reducible refine belowThru ?_ (by assumption)) | (with_reducible refine belowAlloc ?_) | (with_reducible refine Below.setCell ?_ (by first | omega | (simp; done) | (simp; omega)) _) | (with_reducible refine Below.drew ?_) | (with_reducible refine below_drewN ?_ _)))) hb
    have hzw11 := hBw.size
    clear hb
    clear kS
    go_wp2_with fail
    refine (TW.out _).mono ?_
    rintro e w12 ⟨⟨bt, rfl, hbt, kS⟩, hb⟩
    try simp only [World.alloc, Array.size_push] at hbt
    have kn2 : Blk w12 (w11.heap.size) #[.int .i64 92, .int .i64 1, .int .i64 100, .int .i64 1, .int .i64 100, .int .i64 1, .int .i64 104, .int .i64 1] 41 := Blk.later hb (by (repeat' (first | (with_reducible assumption) | (with_reducible refine Blk.set2 ?_) | ((with_reducible refine Blk.new ?_); first | rfl | (simp; done)) | (with_reducible refine Blk.later (by assumption) ?_) | (with_reducible refine Blk.alloc ?_) | (with_reducible refine Blk.drewN ?_) | (with_reducible refine Blk.drew ?_) | (with_reducible refine Blk.other ?_ (by first | omega | (simp; done) | (simp; omega))))))
    have k2 := kn2; clear kn2; obtain ⟨a2, b2⟩ := k2.read; have y2 := k2.lt
    replace hBw : Below w.heap.size w w12 := belowThru (by (repeat' (first | (with_reducible exact Below.refl _ _) | (with_reducible assumption) | (with_reducible refine belowThru ?_ (by assumption)) | (with_reducible refine belowAlloc ?_) | (with_reducible refine Below.setCell ?_ (by first | omega | (simp; done) | (simp; omega)) _) | (with_reducible refine Below.drew ?_) | (with_reducible refine below_drewN ?_ _)))) hb
    have hzw12 := hBw.size
    clear hb
    go_wp2_with fail
    refine (RN.out _ _ kS).mono ?_
    rintro e w13 ⟨rfl, hb⟩
    have kn2 : Blk w13 (w11.heap.size) #[.int .i64 92, .int .i64 1, .int .i64 100, .int .i64 1, .int .i64 100, .int .i64 1, .int .i64 104, .int .i64 1] 41 := Blk.later hb (by (repeat' (first | (with_reducible assumption) | (with_reducible refine Blk.set2 ?_) | ((with_reducible refine Blk.new ?_); first | rfl | (simp; done)) | (with_reducible refine Blk.later (by assumption) ?_) | (with_reducible refine Blk.alloc ?_) | (with_reducible refine Blk.drewN ?_) | (with_reducible refine Blk.drew ?_) | (with_reducible refine Blk.other ?_ (by first | omega | (simp; done) | (simp; omega))))))
    clear k2 a2 b2 y2
    have k2 := kn2; clear kn2; obtain ⟨a2, b2⟩ := k2.read; have y2 := k2.lt
    replace hBw : Below w.heap.size w w13 := belowThru (by (repeat' (first | (with_reducible exact Below.refl _ _) | (with_reducible assumption) | (with_reducible refine belowThru ?_ (by assumption)) | (with_reducible refine belowAlloc ?_) | (with_reducible refine Below.setCell ?_ (by first | omega | (simp; done) | (simp; omega)) _) | (with_reducible refine Below.drew ?_) | (with_reducible refine below_drewN ?_ _)))) hb
    have hzw13 := hBw.size
    clear hb
    clear kS
    go_wp2_with fail
    refine (TW.out _).mono ?_
    rintro e w14 ⟨⟨bt, rfl, hbt, kS⟩, hb⟩
    try simp only [World.alloc, Array.size_push] at hbt
    have hy2 := y2
    have kn2 : Blk w14 (w11.heap.size) #[.int .i64 92, .int .i64 1, .int .i64 100, .int .i64 1, .int .i64 100, .int .i64 1, .int .i64 104, .int .i64 1] 41 := Blk.later hb (by (repeat' (first | (with_reducible assumption) | (with_reducible refine Blk.set2 ?_) | ((with_reducible refine Blk.new ?_); first | rfl | (simp; done)) | (with_reducible refine Blk.later (by assumption) ?_) | (with_reducible refine Blk.alloc ?_) | (with_reducible refine Blk.drewN ?_) | (with_reducible refine Blk.drew ?_) | (with_reducible refine Blk.other ?_ (by first | omega | (simp; done) | (simp; omega))))))
    have kn3 : Blk w14 (w13.heap.size) #[.int .i64 288, .int .i64 1, .int .i64 300, .int .i64 1] 35 := Blk.later hb (by (repeat' (first | (with_reducible assumption) | (with_reducible refine Blk.set2 ?_) | ((with_reducible refine Blk.new ?_); first | rfl | (simp; done)) | (with_reducible refine Blk.later (by assumption) ?_) | (with_reducible refine Blk.alloc ?_) | (with_reducible refine Blk.drewN ?_) | (with_reducible refine Blk.drew ?_) | (with_reducible refine Blk.other ?_ (by first | omega | (simp; done) | (simp; omega))))))
    clear k2 a2 b2 y2
    have k2 := kn2; clear kn2; obtain ⟨a2, b2⟩ := k2.read; have y2 := k2.lt
    have k3 := kn3; clear kn3; obtain ⟨a3, b3⟩ := k3.read; have y3 := k3.lt
    replace hBw : Below w.heap.size w w14 := belowThru (by (repeat' (first | (with_reducible exact Below.refl _ _) | (with_reducible assumption) | (with_reducible refine belowThru ?_ (by assumption)) | (with_reducible refine belowAlloc ?_) | (with_reducible refine Below.setCell ?_ (by first | omega | (simp; done) | (simp; omega)) _) | (with_reducible refine Below.drew ?_) | (with_reducible refine below_drewN ?_ _)))) hb
    have hzw14 := hBw.size
    clear hb
    have hbw : w.heap.size ≤ bt := by omega
    go_wp2_with (at_builtin; go_loud ((refine wpList_append_slot rfl _ _ _ _ rfl _ _ rfl rfl (AP.out _ _ _ _ (by (repeat' (first | (with_reducible assumption) | ((with_reducible refine Blk.new ?_); first | rfl | (simp; done)) | (with_reducible refine Blk.later (by assumption) ?_) | (with_reducible refine Blk.alloc ?_) | (with_reducible refine Blk.drewN ?_) | (with_reducible refine Blk.drew ?_) | (with_reducible refine Blk.other ?_ (by first | omega | (simp; done) | (simp; omega)))))) (by (repeat' (first | (with_reducible assumption) | ((with_reducible refine Blk.new ?_); first | rfl | (simp; done)) | (with_reducible refine Blk.later (by assumption) ?_) | (with_reducible refine Blk.alloc ?_) | (with_reducible refine Blk.drewN ?_) | (with_reducible refine Blk.drew ?_) | (with_reducible refine Blk.other ?_ (by first | omega | (simp; done) | (simp; omega))))))) ?_); (rintro r wA ⟨aA, nA, rfl, hnA, hRA, hBA⟩); have kn2 := Blk.below hBA (by omega) (by (repeat' (first | (with_reducible assumption) | ((with_reducible refine Blk.new ?_); first | rfl | (simp; done)) | (with_reducible refine Blk.later (by assumption) ?_) | (with_reducible refine Blk.alloc ?_) | (with_reducible refine Blk.drewN ?_) | (with_reducible refine Blk.drew ?_) | (with_reducible refine Blk.other ?_ (by first | omega | (simp; done) | (simp; omega))))) : Blk _ (w11.heap.size) #[.int .i64 92, .int .i64 1, .int .i64 100, .int .i64 1, .int .i64 100, .int .i64 1, .int .i64 104, .int .i64 1] 41); have kn3 := Blk.below hBA (by omega) (by (repeat' (first | (with_reducible assumption) | ((with_reducible refine Blk.new ?_); first | rfl | (simp; done)) | (with_reducible refine Blk.later (by assumption) ?_) | (with_reducible refine Blk.alloc ?_) | (with_reducible refine Blk.drewN ?_) | (with_reducible refine Blk.drew ?_) | (with_reducible refine Blk.other ?_ (by first | omega | (simp; done) | (simp; omega))))) : Blk _ (w13.heap.size) #[.int .i64 288, .int .i64 1, .int .i64 300, .int .i64 1] 35); have hBn : Below w.heap.size w wA := Below.trans (by (repeat' (first | (with_reducible exact Below.refl _ _) | (with_reducible assumption) | (with_reducible refine belowThru ?_ (by assumption)) | (with_reducible refine belowAlloc ?_) | (with_reducible refine Below.setCell ?_ (by first | omega | (simp; done) | (simp; omega)) _) | (with_reducible refine Below.drew ?_) | (with_reducible refine below_drewN ?_ _)))) (hBA.mono hbw)))
    clear k2 a2 b2 y2 k3 a3 b3 y3 hBw kS
    have hBw := hBn; clear hBn
    have k2 := kn2; have k3 := kn3; clear kn2 kn3
    obtain ⟨a2, b2⟩ := k2.read; have y2 := k2.lt
    obtain ⟨a3, b3⟩ := k3.read; have y3 := k3.lt
    clear hBA
    go_wp2_with fail
    refine (FB.out _ _ hnA _ hRA).mono ?_
    rintro e w15 ⟨rfl, hb⟩
    have kn2 : Blk w15 (w11.heap.size) #[.int .i64 92, .int .i64 1, .int .i64 100, .int .i64 1, .int .i64 100, .int .i64 1, .int .i64 104, .int .i64 1] 41 := Blk.later hb (by (repeat' (first | (with_reducible assumption) | (with_reducible refine Blk.set2 ?_) | ((with_reducible refine Blk.new ?_); first | rfl | (simp; done)) | (with_reducible refine Blk.later (by assumption) ?_) | (with_reducible refine Blk.alloc ?_) | (with_reducible refine Blk.drewN ?_) | (with_reducible refine Blk.drew ?_) | (with_reducible refine Blk.other ?_ (by first | omega | (simp; done) | (simp; omega))))))
    have kn3 : Blk w15 (w13.heap.size) #[.int .i64 288, .int .i64 1, .int .i64 300, .int .i64 1] 35 := Blk.later hb (by (repeat' (first | (with_reducible assumption) | (with_reducible refine Blk.set2 ?_) | ((with_reducible refine Blk.new ?_); first | rfl | (simp; done)) | (with_reducible refine Blk.later (by assumption) ?_) | (with_reducible refine Blk.alloc ?_) | (with_reducible refine Blk.drewN ?_) | (with_reducible refine Blk.drew ?_) | (with_reducible refine Blk.other ?_ (by first | omega | (simp; done) | (simp; omega))))))
    clear k2 a2 b2 y2
    clear k3 a3 b3 y3
    have k2 := kn2; clear kn2; obtain ⟨a2, b2⟩ := k2.read; have y2 := k2.lt
    have k3 := kn3; clear kn3; obtain ⟨a3, b3⟩ := k3.read; have y3 := k3.lt
    replace hBw : Below w.heap.size w w15 := belowThru (by (repeat' (first | (with_reducible exact Below.refl _ _) | (with_reducible assumption) | (with_reducible refine belowThru ?_ (by assumption)) | (with_reducible refine belowAlloc ?_) | (with_reducible refine Below.setCell ?_ (by first | omega | (simp; done) | (simp; omega)) _) | (with_reducible refine Below.drew ?_) | (with_reducible refine below_drewN ?_ _)))) hb
    have hzw15 := hBw.size
    clear hb
    clear hRA hnA
    go_wp2_with fail
    refine (S96_96.out _).mono ?_
    rintro e w16 ⟨rfl, hb⟩
    have kn2 : Blk w16 (w11.heap.size) #[.int .i64 92, .int .i64 1, .int .i64 100, .int .i64 1, .int .i64 100, .int .i64 1, .int .i64 104, .int .i64 1] 41 := Blk.later hb (by (repeat' (first | (with_reducible assumption) | (with_reducible refine Blk.set2 ?_) | ((with_reducible refine Blk.new ?_); first | rfl | (simp; done)) | (with_reducible refine Blk.later (by assumption) ?_) | (with_reducible refine Blk.alloc ?_) | (with_reducible refine Blk.drewN ?_) | (with_reducible refine Blk.drew ?_) | (with_reducible refine Blk.other ?_ (by first | omega | (simp; done) | (simp; omega))))))
    have kn3 : Blk w16 (w13.heap.size) #[.int .i64 288, .int .i64 1, .int .i64 300, .int .i64 1] 35 := Blk.later hb (by (repeat' (first | (with_reducible assumption) | (with_reducible refine Blk.set2 ?_) | ((with_reducible refine Blk.new ?_); first | rfl | (simp; done)) | (with_reducible refine Blk.later (by assumption) ?_) | (with_reducible refine Blk.alloc ?_) | (with_reducible refine Blk.drewN ?_) | (with_reducible refine Blk.drew ?_) | (with_reducible refine Blk.other ?_ (by first | omega | (simp; done) | (simp; omega))))))
    clear k2 a2 b2 y2
    clear k3 a3 b3 y3
    have k2 := kn2; clear kn2; obtain ⟨a2, b2⟩ := k2.read; have y2 := k2.lt
    have k3 := kn3; clear kn3; obtain ⟨a3, b3⟩ := k3.read; have y3 := k3.lt
    replace hBw : Below w.heap.size w w16 := belowThru (by (repeat' (first | (with_reducible exact Below.refl _ _) | (with_reducible assumption) | (with_reducible refine belowThru ?_ (by assumption)) | (with_reducible refine belowAlloc ?_) | (with_reducible refine Below.setCell ?_ (by first | omega | (simp; done) | (simp; omega)) _) | (with_reducible refine Below.drew ?_) | (with_reducible refine below_drewN ?_ _)))) hb
    have hzw16 := hBw.size
    clear hb
    go_wp2_with fail
    refine (S100_100.out _).mono ?_
    rintro e w17 ⟨rfl, hb⟩
    have kn2 : Blk w17 (w11.heap.size) #[.int .i64 92, .int .i64 1, .int .i64 100, .int .i64 1, .int .i64 100, .int .i64 1, .int .i64 104, .int .i64 1] 41 := Blk.later hb (by (repeat' (first | (with_reducible assumption) | (with_reducible refine Blk.set2 ?_) | ((with_reducible refine Blk.new ?_); first | rfl | (simp; done)) | (with_reducible refine Blk.later (by assumption) ?_) | (with_reducible refine Blk.alloc ?_) | (with_reducible refine Blk.drewN ?_) | (with_reducible refine Blk.drew ?_) | (with_reducible refine Blk.other ?_ (by first | omega | (simp; done) | (simp; omega))))))
    have kn3 : Blk w17 (w13.heap.size) #[.int .i64 288, .int .i64 1, .int .i64 300, .int .i64 1] 35 := Blk.later hb (by (repeat' (first | (with_reducible assumption) | (with_reducible refine Blk.set2 ?_) | ((with_reducible refine Blk.new ?_); first | rfl | (simp; done)) | (with_reducible refine Blk.later (by assumption) ?_) | (with_reducible refine Blk.alloc ?_) | (with_reducible refine Blk.drewN ?_) | (with_reducible refine Blk.drew ?_) | (with_reducible refine Blk.other ?_ (by first | omega | (simp; done) | (simp; omega))))))
    clear k2 a2 b2 y2
    clear k3 a3 b3 y3
    have k2 := kn2; clear kn2; obtain ⟨a2, b2⟩ := k2.read; have y2 := k2.lt
    have k3 := kn3; clear kn3; obtain ⟨a3, b3⟩ := k3.read; have y3 := k3.lt
    replace hBw : Below w.heap.size w w17 := belowThru (by (repeat' (first | (with_reducible exact Below.refl _ _) | (with_reducible assumption) | (with_reducible refine belowThru ?_ (by assumption)) | (with_reducible refine belowAlloc ?_) | (with_reducible refine Below.setCell ?_ (by first | omega | (simp; done) | (simp; omega)) _) | (with_reducible refine Below.drew ?_) | (with_reducible refine below_drewN ?_ _)))) hb
    have hzw17 := hBw.size
    clear hb
    go_wp2_with fail
    obtain ⟨Wp, hWp⟩ : ∃ Wp, (w17.alloc (.cells #[.int .i64 96, .int .i64 1, .int .i64 96, .int .i64 1, .int .i64 100, .int .i64 1, .int .i64 100, .int .i64 1] 41)) = Wp := ⟨_, rfl⟩
    have kn2 : Blk Wp (w11.heap.size) #[.int .i64 92, .int .i64 1, .int .i64 100, .int .i64 1, .int .i64 100, .int .i64 1, .int .i64 104, .int .i64 1] 41 := by rw [← hWp]; (repeat' (first | (with_reducible assumption) | ((with_reducible refine Blk.new ?_); first | rfl | (simp; done)) | (with_reducible refine Blk.later (by assumption) ?_) | (with_reducible refine Blk.alloc ?_) | (with_reducible refine Blk.drewN ?_) | (with_reducible refine Blk.drew ?_) | (with_reducible refine Blk.other ?_ (by first | omega | (simp; done) | (simp; omega)))))
    have kn3 : Blk Wp (w13.heap.size) #[.int .i64 288, .int .i64 1, .int .i64 300, .int .i64 1] 35 := by rw [← hWp]; (repeat' (first | (with_reducible assumption) | ((with_reducible refine Blk.new ?_); first | rfl | (simp; done)) | (with_reducible refine Blk.later (by assumption) ?_) | (with_reducible refine Blk.alloc ?_) | (with_reducible refine Blk.drewN ?_) | (with_reducible refine Blk.drew ?_) | (with_reducible refine Blk.other ?_ (by first | omega | (simp; done) | (simp; omega)))))
    have kn4 : Blk Wp (w17.heap.size) #[.int .i64 96, .int .i64 1, .int .i64 96, .int .i64 1, .int .i64 100, .int .i64 1, .int .i64 100, .int .i64 1] 41 := by rw [← hWp]; (repeat' (first | (with_reducible assumption) | ((with_reducible refine Blk.new ?_); first | rfl | (simp; done)) | (with_reducible refine Blk.later (by assumption) ?_) | (with_reducible refine Blk.alloc ?_) | (with_reducible refine Blk.drewN ?_) | (with_reducible refine Blk.drew ?_) | (with_reducible refine Blk.other ?_ (by first | omega | (simp; done) | (simp; omega)))))
    replace hBw : Below w.heap.size w Wp := by rw [← hWp]; (repeat' (first | (with_reducible exact Below.refl _ _) | (with_reducible assumption) | (with_reducible refine belowThru ?_ (by assumption)) | (with_reducible refine belowAlloc ?_) | (with_reducible refine Below.setCell ?_ (by first | omega | (simp; done) | (simp; omega)) _) | (with_reducible refine Below.drew ?_) | (with_reducible refine below_drewN ?_ _)))
    clear k2 a2 b2 y2
    clear k3 a3 b3 y3
    rw [hWp]
    clear hWp
    have k2 := kn2; clear kn2; have y2 := k2.lt
    have k3 := kn3; clear kn3; have y3 := k3.lt
    have k4 := kn4; clear kn4; have y4 := k4.lt
    refine wp_region_inv (AlJ w11 w13 w17 Wp ?i98 ?i99 ?i100 ?i101 ?i102 ?i97 ?i103 ?i104 ?i14 ?i9) (by kernel_rfl) (by kernel_rfl) ?hsz ?hst ?hstep ?hfin
    case hst =>
      unfold AlJ
      refine ⟨false, false, false, false, false, false, false, false, false, false, false, 0, rfl, ?_, ?_, ?_, ?_, ?_, ?_, ?_, ?_⟩
      · first | (simp only [Act.put, List.setIfInBounds_toArray, List.set_cons_zero, List.set_cons_succ, cond_false]; done) | (simp only [Act.put, List.setIfInBounds_toArray, List.set_cons_zero, List.set_cons_succ, cond_false]; rfl)
      all_goals (first | (intro h; cases h; done) | ((repeat' (first | (with_reducible assumption) | ((with_reducible refine Blk.new ?_); first | rfl | (simp; done)) | (with_reducible refine Blk.later (by assumption) ?_) | (with_reducible refine Blk.alloc ?_) | (with_reducible refine Blk.drewN ?_) | (with_reducible refine Blk.drew ?_) | (with_reducible refine Blk.other ?_ (by first | omega | (simp; done) | (simp; omega))))); done) | ((repeat' (first | (with_reducible exact Below.refl _ _) | (with_reducible assumption) | (with_reducible refine belowThru ?_ (by assumption)) | (with_reducible refine belowAlloc ?_) | (with_reducible refine Below.setCell ?_ (by first | omega | (simp; done) | (simp; omega)) _) | (with_reducible refine Below.drew ?_) | (with_reducible refine below_drewN ?_ _))); done) | (simp only [cond_false]; (repeat' (first | (with_reducible assumption) | ((with_reducible refine Blk.new ?_); first | rfl | (simp; done)) | (with_reducible refine Blk.later (by assumption) ?_) | (with_reducible refine Blk.alloc ?_) | (with_reducible refine Blk.drewN ?_) | (with_reducible refine Blk.drew ?_) | (with_reducible refine Blk.other ?_ (by first | omega | (simp; done) | (simp; omega))))); done) | (simp only [World.size_drew]; omega) | (simp only [World.size_drew] at *; omega) | (simp; done) | (simp; omega))
    case hsz =>
      intro L a w9 h
      obtain ⟨gg0, gg1, gg2, gg3, gg4, gg5, gg6, gg7, gg8, gg9, gg10, x8, rfl, -⟩ := h; rfl
    case hstep =>
      intro L a w9 hI i hi
      obtain ⟨gg0, gg1, gg2, gg3, gg4, gg5, gg6, gg7, gg8, gg9, gg10, x8, rfl, rfl, fb0, fb1, fb2, fB, fL, f8, s8⟩ := hI
      obtain ⟨hi1, hi2, o, ho, hall⟩ := inv_mem hi
      clear hi
      rcases i with _ | _ | _ | _ | _ | _ | _ | _ | _ | _ | _ | i
      · have ge0 : gg0 = false := hi2
        clear hall hi1 hi2
        subst ge0
        have ho2 := ho
        simp only [List.getElem?_toArray, List.getElem?_cons_zero, List.getElem?_cons_succ] at ho2
        have ho3 := Option.some.inj ho2; clear ho2; subst ho3
        obtain ⟨ba0, bb0⟩ := fb0.read; have bl0 := fb0.lt
        obtain ⟨ba1, bb1⟩ := fb1.read; have bl1 := fb1.lt
        obtain ⟨ba2, bb2⟩ := fb2.read; have bl2 := fb2.lt
        simp only [Act.put, List.setIfInBounds_toArray, List.set_cons_zero, List.set_cons_succ]
        simp only [cond_true, cond_false]
        refine inv_op ho (by kernel_rfl) (fun K hK => ?_)
        clear ho
        go_simp
        refine hK.out _ _ ?_
        unfold AlJ
        refine ⟨true, gg1, gg2, gg3, gg4, gg5, gg6, gg7, gg8, gg9, gg10, x8, rfl, by simp only [Act.put, List.setIfInBounds_toArray, List.set_cons_zero, List.set_cons_succ, cond_true, cond_false, Bool.cond_self], ?_, ?_, ?_, ?_, ?_, ?_, ?_⟩
        · exact fb0
        · exact fb1
        · exact fb2
        · exact fB
        · exact fL
        · exact f8
        · exact s8
      · have ge1 : gg1 = false := hi2
        clear hall hi1 hi2
        subst ge1
        have ho2 := ho
        simp only [List.getElem?_toArray, List.getElem?_cons_zero, List.getElem?_cons_succ] at ho2
        have ho3 := Option.some.inj ho2; clear ho2; subst ho3
        obtain ⟨ba0, bb0⟩ := fb0.read; have bl0 := fb0.lt
        obtain ⟨ba1, bb1⟩ := fb1.read; have bl1 := fb1.lt
        obtain ⟨ba2, bb2⟩ := fb2.read; have bl2 := fb2.lt
        simp only [Act.put, List.setIfInBounds_toArray, List.set_cons_zero, List.set_cons_succ]
        simp only [cond_true, cond_false]
        refine inv_op ho (by kernel_rfl) (fun K hK => ?_)
        clear ho
        go_simp
        refine hK.out _ _ ?_
        unfold AlJ
        refine ⟨gg0, true, gg2, gg3, gg4, gg5, gg6, gg7, gg8, gg9, gg10, x8, rfl, by simp only [Act.put, List.setIfInBounds_toArray, List.set_cons_zero, List.set_cons_succ, cond_true, cond_false, Bool.cond_self], ?_, ?_, ?_, ?_, ?_, ?_, ?_⟩
        · exact fb0
        · exact fb1
        · exact fb2
        · exact fB
        · exact fL
        · exact f8
        · exact s8
      · have ge2 : gg2 = false := hi2
        clear hall hi1 hi2
        subst ge2
        have ho2 := ho
        simp only [List.getElem?_toArray, List.getElem?_cons_zero, List.getElem?_cons_succ] at ho2
        have ho3 := Option.some.inj ho2; clear ho2; subst ho3
        obtain ⟨ba0, bb0⟩ := fb0.read; have bl0 := fb0.lt
        obtain ⟨ba1, bb1⟩ := fb1.read; have bl1 := fb1.lt
        obtain ⟨ba2, bb2⟩ := fb2.read; have bl2 := fb2.lt
        simp only [Act.put, List.setIfInBounds_toArray, List.set_cons_zero, List.set_cons_succ]
        simp only [cond_true, cond_false]
        refine inv_op ho (by kernel_rfl) (fun K hK => ?_)
        clear ho
        go_simp
        go_at_call 24; (with_reducible refine (span_any 148 148 _).mono ?_); rintro e w8 ⟨rfl, hb⟩
        refine hK.out _ _ ?_
        unfold AlJ
        refine ⟨gg0, gg1, true, gg3, gg4, gg5, gg6, gg7, gg8, gg9, gg10, x8, rfl, by simp only [Act.put, List.setIfInBounds_toArray, List.set_cons_zero, List.set_cons_succ, cond_true, cond_false, Bool.cond_self], ?_, ?_, ?_, ?_, ?_, ?_, ?_⟩
        · exact Blk.later hb fb0
        · exact Blk.later hb fb1
        · exact Blk.later hb fb2
        · exact belowThru fB hb
        · have := hb.size; omega
        · intro h; obtain ⟨p, q⟩ := f8 h; exact ⟨Blk.later hb p, q⟩
        · exact s8
      · have ge3 : gg3 = false := hi2
        clear hall hi1 hi2
        subst ge3
        have ho2 := ho
        simp only [List.getElem?_toArray, List.getElem?_cons_zero, List.getElem?_cons_succ] at ho2
        have ho3 := Option.some.inj ho2; clear ho2; subst ho3
        obtain ⟨ba0, bb0⟩ := fb0.read; have bl0 := fb0.lt
        obtain ⟨ba1, bb1⟩ := fb1.read; have bl1 := fb1.lt
        obtain ⟨ba2, bb2⟩ := fb2.read; have bl2 := fb2.lt
        simp only [Act.put, List.setIfInBounds_toArray, List.set_cons_zero, List.set_cons_succ]
        simp only [cond_true, cond_false]
        refine inv_op ho (by kernel_rfl) (fun K hK => ?_)
        clear ho
        go_simp
        go_at_call 24; (with_reducible refine (span_any 124 124 _).mono ?_); rintro e w8 ⟨rfl, hb⟩
        refine hK.out _ _ ?_
        unfold AlJ
        refine ⟨gg0, gg1, gg2, true, gg4, gg5, gg6, gg7, gg8, gg9, gg10, x8, rfl, by simp only [Act.put, List.setIfInBounds_toArray, List.set_cons_zero, List.set_cons_succ, cond_true, cond_false, Bool.cond_self], ?_, ?_, ?_, ?_, ?_, ?_, ?_⟩
        · exact Blk.later hb fb0
        · exact Blk.later hb fb1
        · exact Blk.later hb fb2
        · exact belowThru fB hb
        · have := hb.size; omega
        · intro h; obtain ⟨p, q⟩ := f8 h; exact ⟨Blk.later hb p, q⟩
        · exact s8
      · have ge4 : gg4 = false := hi2
        have ge0 : gg0 = true := inv_dep ho hall 0 (by kernel_rfl)
        have ge1 : gg1 = true := inv_dep ho hall 1 (by kernel_rfl)
        have ge2 : gg2 = true := inv_dep ho hall 2 (by kernel_rfl)
        have ge3 : gg3 = true := inv_dep ho hall 3 (by kernel_rfl)
        clear hall hi1 hi2
        subst ge4 ge0 ge1 ge2 ge3
        have ho2 := ho
        simp only [List.getElem?_toArray, List.getElem?_cons_zero, List.getElem?_cons_succ] at ho2
        have ho3 := Option.some.inj ho2; clear ho2; subst ho3
        obtain ⟨ba0, bb0⟩ := fb0.read; have bl0 := fb0.lt
        obtain ⟨ba1, bb1⟩ := fb1.read; have bl1 := fb1.lt
        obtain ⟨ba2, bb2⟩ := fb2.read; have bl2 := fb2.lt
        simp only [Act.put, List.setIfInBounds_toArray, List.set_cons_zero, List.set_cons_succ]
        simp only [cond_true, cond_false]
        refine inv_op ho (by kernel_rfl) (fun K hK => ?_)
        clear ho
        go_simp
        go_at_call 26; (with_reducible refine (c_dep _).mono ?_); rintro e w8 ⟨rfl, hb⟩
        refine hK.out _ _ ?_
        unfold AlJ
        refine ⟨true, true, true, true, true, gg5, gg6, gg7, gg8, gg9, gg10, x8, rfl, by simp only [Act.put, List.setIfInBounds_toArray, List.set_cons_zero, List.set_cons_succ, cond_true, cond_false, Bool.cond_self], ?_, ?_, ?_, ?_, ?_, ?_, ?_⟩
        · exact Blk.later hb fb0
        · exact Blk.later hb fb1
        · exact Blk.later hb fb2
        · exact belowThru fB hb
        · have := hb.size; omega
        · intro h; obtain ⟨p, q⟩ := f8 h; exact ⟨Blk.later hb p, q⟩
        · exact s8
      · have ge5 : gg5 = false := hi2
        have ge4 : gg4 = true := inv_dep ho hall 4 (by kernel_rfl)
        clear hall hi1 hi2
        subst ge5 ge4
        have ho2 := ho
        simp only [List.getElem?_toArray, List.getElem?_cons_zero, List.getElem?_cons_succ] at ho2
        have ho3 := Option.some.inj ho2; clear ho2; subst ho3
        obtain ⟨ba0, bb0⟩ := fb0.read; have bl0 := fb0.lt
        obtain ⟨ba1, bb1⟩ := fb1.read; have bl1 := fb1.lt
        obtain ⟨ba2, bb2⟩ := fb2.read; have bl2 := fb2.lt
        simp only [Act.put, List.setIfInBounds_toArray, List.set_cons_zero, List.set_cons_succ]
        simp only [cond_true, cond_false]
        refine inv_op ho (by kernel_rfl) (fun K hK => ?_)
        clear ho
        go_simp
        refine hK.out _ _ ?_
        unfold AlJ
        refine ⟨gg0, gg1, gg2, gg3, true, true, gg6, gg7, gg8, gg9, gg10, x8, rfl, by simp only [Act.put, List.setIfInBounds_toArray, List.set_cons_zero, List.set_cons_succ, cond_true, cond_false, Bool.cond_self], ?_, ?_, ?_, ?_, ?_, ?_, ?_⟩
        · exact fb0
        · exact fb1
        · exact fb2
        · exact fB
        · exact fL
        · exact f8
        · exact s8
      · have ge6 : gg6 = false := hi2
        have ge5 : gg5 = true := inv_dep ho hall 5 (by kernel_rfl)
        clear hall hi1 hi2
        subst ge6 ge5
        have ho2 := ho
        simp only [List.getElem?_toArray, List.getElem?_cons_zero, List.getElem?_cons_succ] at ho2
        have ho3 := Option.some.inj ho2; clear ho2; subst ho3
        obtain ⟨ba0, bb0⟩ := fb0.read; have bl0 := fb0.lt
        obtain ⟨ba1, bb1⟩ := fb1.read; have bl1 := fb1.lt
        obtain ⟨ba2, bb2⟩ := fb2.read; have bl2 := fb2.lt
        simp only [Act.put, List.setIfInBounds_toArray, List.set_cons_zero, List.set_cons_succ]
        simp only [cond_true, cond_false]
        refine inv_op ho (by kernel_rfl) (fun K hK => ?_)
        clear ho
        go_simp
        refine hK.out _ _ ?_
        unfold AlJ
        refine ⟨gg0, gg1, gg2, gg3, gg4, true, true, gg7, gg8, gg9, gg10, x8, rfl, by simp only [Act.put, List.setIfInBounds_toArray, List.set_cons_zero, List.set_cons_succ, cond_true, cond_false, Bool.cond_self], ?_, ?_, ?_, ?_, ?_, ?_, ?_⟩
        · exact fb0
        · exact fb1
        · exact fb2
        · exact fB
        · exact fL
        · exact f8
        · exact s8
      · have ge7 : gg7 = false := hi2
        have ge5 : gg5 = true := inv_dep ho hall 5 (by kernel_rfl)
        clear hall hi1 hi2
        subst ge7 ge5
        have ho2 := ho
        simp only [List.getElem?_toArray, List.getElem?_cons_zero, List.getElem?_cons_succ] at ho2
        have ho3 := Option.some.inj ho2; clear ho2; subst ho3
        obtain ⟨ba0, bb0⟩ := fb0.read; have bl0 := fb0.lt
        obtain ⟨ba1, bb1⟩ := fb1.read; have bl1 := fb1.lt
        obtain ⟨ba2, bb2⟩ := fb2.read; have bl2 := fb2.lt
        simp only [Act.put, List.setIfInBounds_toArray, List.set_cons_zero, List.set_cons_succ]
        simp only [cond_true, cond_false]
        refine inv_op ho (by kernel_rfl) (fun K hK => ?_)
        clear ho
        go_simp
        refine hK.out _ _ ?_
        unfold AlJ
        refine ⟨gg0, gg1, gg2, gg3, gg4, true, gg6, true, gg8, gg9, gg10, x8, rfl, by simp only [Act.put, List.setIfInBounds_toArray, List.set_cons_zero, List.set_cons_succ, cond_true, cond_false, Bool.cond_self], ?_, ?_, ?_, ?_, ?_, ?_, ?_⟩
        · exact fb0
        · exact fb1
        · exact fb2
        · exact fB
        · exact fL
        · exact f8
        · exact s8
      · have ge8 : gg8 = false := hi2
        clear hall hi1 hi2
        subst ge8
        have ho2 := ho
        simp only [List.getElem?_toArray, List.getElem?_cons_zero, List.getElem?_cons_succ] at ho2
        have ho3 := Option.some.inj ho2; clear ho2; subst ho3
        obtain ⟨ba0, bb0⟩ := fb0.read; have bl0 := fb0.lt
        obtain ⟨ba1, bb1⟩ := fb1.read; have bl1 := fb1.lt
        obtain ⟨ba2, bb2⟩ := fb2.read; have bl2 := fb2.lt
        obtain rfl : gg9 = false := by cases gg9; rfl; exact Bool.noConfusion (s8 rfl)
        simp only [Act.put, List.setIfInBounds_toArray, List.set_cons_zero, List.set_cons_succ]
        simp only [cond_true, cond_false]
        refine inv_op ho (by kernel_rfl) (fun K hK => ?_)
        clear ho
        go_simp
        refine hK.out _ _ ?_
        unfold AlJ
        refine ⟨gg0, gg1, gg2, gg3, gg4, gg5, gg6, gg7, true, false, gg10, w9.heap.size, rfl, by simp only [Act.put, List.setIfInBounds_toArray, List.set_cons_zero, List.set_cons_succ, cond_true, cond_false, Bool.cond_self], ?_, ?_, ?_, ?_, ?_, ?_, ?_⟩
        · exact fb0.alloc
        · exact fb1.alloc
        · exact fb2.alloc
        · exact belowAlloc fB
        · simp only [World.size_alloc]; omega
        · intro _; exact ⟨Blk.new rfl, fL⟩
        · intro _; rfl
      · have ge9 : gg9 = false := hi2
        have ge6 : gg6 = true := inv_dep ho hall 6 (by kernel_rfl)
        have ge8 : gg8 = true := inv_dep ho hall 8 (by kernel_rfl)
        clear hall hi1 hi2
        subst ge9 ge6 ge8
        have ho2 := ho
        simp only [List.getElem?_toArray, List.getElem?_cons_zero, List.getElem?_cons_succ] at ho2
        have ho3 := Option.some.inj ho2; clear ho2; subst ho3
        obtain ⟨p8, q8⟩ := f8 rfl
        obtain ⟨ra8, rb8⟩ := p8.read
        have rl8 := p8.lt
        obtain ⟨ba0, bb0⟩ := fb0.read; have bl0 := fb0.lt
        obtain ⟨ba1, bb1⟩ := fb1.read; have bl1 := fb1.lt
        obtain ⟨ba2, bb2⟩ := fb2.read; have bl2 := fb2.lt
        have rl8 := p8.lt
        skip
        simp only [Act.put, List.setIfInBounds_toArray, List.set_cons_zero, List.set_cons_succ]
        simp only [cond_true, cond_false]
        refine inv_op ho (by kernel_rfl) (fun K hK => ?_)
        clear ho
        go_simp
        refine hK.out _ _ ?_
        unfold AlJ
        refine ⟨gg0, gg1, gg2, gg3, gg4, gg5, true, gg7, true, true, gg10, x8, rfl, by simp only [Act.put, List.setIfInBounds_toArray, List.set_cons_zero, List.set_cons_succ, cond_true, cond_false, Bool.cond_self], ?_, ?_, ?_, ?_, ?_, ?_, ?_⟩
        · (repeat' (first | (with_reducible assumption) | ((with_reducible refine Blk.new ?_); first | rfl | (simp; done)) | (with_reducible refine Blk.later (by assumption) ?_) | (with_reducible refine Blk.alloc ?_) | (with_reducible refine Blk.drewN ?_) | (with_reducible refine Blk.drew ?_) | (with_reducible refine Blk.other ?_ (by first | omega | (simp; done) | (simp; omega)))))
        · (repeat' (first | (with_reducible assumption) | ((with_reducible refine Blk.new ?_); first | rfl | (simp; done)) | (with_reducible refine Blk.later (by assumption) ?_) | (with_reducible refine Blk.alloc ?_) | (with_reducible refine Blk.drewN ?_) | (with_reducible refine Blk.drew ?_) | (with_reducible refine Blk.other ?_ (by first | omega | (simp; done) | (simp; omega)))))
        · (repeat' (first | (with_reducible assumption) | ((with_reducible refine Blk.new ?_); first | rfl | (simp; done)) | (with_reducible refine Blk.later (by assumption) ?_) | (with_reducible refine Blk.alloc ?_) | (with_reducible refine Blk.drewN ?_) | (with_reducible refine Blk.drew ?_) | (with_reducible refine Blk.other ?_ (by first | omega | (simp; done) | (simp; omega)))))
        · (repeat' (first | (with_reducible exact Below.refl _ _) | (with_reducible assumption) | (with_reducible refine belowThru ?_ (by assumption)) | (with_reducible refine belowAlloc ?_) | (with_reducible refine Below.setCell ?_ (by first | omega | (simp; done) | (simp; omega)) _) | (with_reducible refine Below.drew ?_) | (with_reducible refine below_drewN ?_ _)))
        · first | exact fL | (simp; omega)
        · intro _; exact ⟨by exact Blk.set (Blk.set (Blk.set (Blk.set (p8)))), q8⟩
        · intro _; rfl
      · have ge10 : gg10 = false := hi2
        have ge7 : gg7 = true := inv_dep ho hall 7 (by kernel_rfl)
        clear hall hi1 hi2
        subst ge10 ge7
        have ho2 := ho
        simp only [List.getElem?_toArray, List.getElem?_cons_zero, List.getElem?_cons_succ] at ho2
        have ho3 := Option.some.inj ho2; clear ho2; subst ho3
        obtain ⟨ba0, bb0⟩ := fb0.read; have bl0 := fb0.lt
        obtain ⟨ba1, bb1⟩ := fb1.read; have bl1 := fb1.lt
        obtain ⟨ba2, bb2⟩ := fb2.read; have bl2 := fb2.lt
        simp only [Act.put, List.setIfInBounds_toArray, List.set_cons_zero, List.set_cons_succ]
        simp only [cond_true, cond_false]
        refine inv_op ho (by kernel_rfl) (fun K hK => ?_)
        clear ho
        go_simp
        refine hK.out _ _ ?_
        unfold AlJ
        refine ⟨gg0, gg1, gg2, gg3, gg4, gg5, gg6, true, gg8, gg9, true, x8, rfl, by simp only [Act.put, List.setIfInBounds_toArray, List.set_cons_zero, List.set_cons_succ, cond_true, cond_false, Bool.cond_self], ?_, ?_, ?_, ?_, ?_, ?_, ?_⟩
        · exact fb0
        · exact fb1
        · exact fb2
        · exact fB
        · exact fL
        · exact f8
        · exact s8
      · exfalso; simp at hi1; omega
    case hfin =>
      intro a w9 hI
      obtain ⟨gg0, gg1, gg2, gg3, gg4, gg5, gg6, gg7, gg8, gg9, gg10, x8, hL, rfl, fb0, fb1, fb2, fB, fL, f8, s8⟩ := hI
      have hL2 : #[true, true, true, true, true, true, true, true, true, true, true] = #[gg0, gg1, gg2, gg3, gg4, gg5, gg6, gg7, gg8, gg9, gg10] := hL
      cases hL2
      obtain ⟨p8, q8⟩ := f8 rfl
      clear f8 s8
      simp only [Act.put, List.setIfInBounds_toArray, List.set_cons_zero, List.set_cons_succ]
      simp only [cond_true]
      go_wp2_with fail
      obtain ⟨Wq, rfl⟩ : ∃ z, z = w9 := ⟨_, rfl⟩
      have k2 := fb1; have k3 := fb2; have k5 : Blk Wq x8 #[.int .i64 40, .int .i64 1, .int .i64 40, .int .i64 1] 35 := p8
      have hBw : Below w.heap.size w Wq := belowThru hBw (by (repeat' (first | (with_reducible exact Below.refl _ _) | (with_reducible assumption) | (with_reducible refine belowThru ?_ (by assumption)) | (with_reducible refine belowAlloc ?_) | (with_reducible refine Below.setCell ?_ (by first | omega | (simp; done) | (simp; omega)) _) | (with_reducible refine Below.drew ?_) | (with_reducible refine below_drewN ?_ _))))
      obtain ⟨a2, b2⟩ := k2.read; have y2 := k2.lt
      obtain ⟨a3, b3⟩ := k3.read; have y3 := k3.lt
      obtain ⟨a5, b5⟩ := k5.read; have y5 := k5.lt
      clear fb0 fb1 fb2 p8 fB
      go_wp2_with fail
      refine (ST.out _ _ _ (by (repeat' (first | (with_reducible assumption) | ((with_reducible refine Blk.new ?_); first | rfl | (simp; done)) | (with_reducible refine Blk.later (by assumption) ?_) | (with_reducible refine Blk.alloc ?_) | (with_reducible refine Blk.drewN ?_) | (with_reducible refine Blk.drew ?_) | (with_reducible refine Blk.other ?_ (by first | omega | (simp; done) | (simp; omega)))))) (by (repeat' (first | (with_reducible assumption) | ((with_reducible refine Blk.new ?_); first | rfl | (simp; done)) | (with_reducible refine Blk.later (by assumption) ?_) | (with_reducible refine Blk.alloc ?_) | (with_reducible refine Blk.drewN ?_) | (with_reducible refine Blk.drew ?_) | (with_reducible refine Blk.other ?_ (by first | omega | (simp; done) | (simp; omega))))))).mono ?_
      rintro e w21 ⟨⟨vS, dS, rfl, hRow⟩, hb⟩
      have kn2 : Blk w21 (w11.heap.size) #[.int .i64 92, .int .i64 1, .int .i64 100, .int .i64 1, .int .i64 100, .int .i64 1, .int .i64 104, .int .i64 1] 41 := Blk.later hb (by (repeat' (first | (with_reducible assumption) | (with_reducible refine Blk.set2 ?_) | ((with_reducible refine Blk.new ?_); first | rfl | (simp; done)) | (with_reducible refine Blk.later (by assumption) ?_) | (with_reducible refine Blk.alloc ?_) | (with_reducible refine Blk.drewN ?_) | (with_reducible refine Blk.drew ?_) | (with_reducible refine Blk.other ?_ (by first | omega | (simp; done) | (simp; omega))))))
      have kn3 : Blk w21 (w13.heap.size) #[.int .i64 288, .int .i64 1, .int .i64 300, .int .i64 1] 35 := Blk.later hb (by (repeat' (first | (with_reducible assumption) | (with_reducible refine Blk.set2 ?_) | ((with_reducible refine Blk.new ?_); first | rfl | (simp; done)) | (with_reducible refine Blk.later (by assumption) ?_) | (with_reducible refine Blk.alloc ?_) | (with_reducible refine Blk.drewN ?_) | (with_reducible refine Blk.drew ?_) | (with_reducible refine Blk.other ?_ (by first | omega | (simp; done) | (simp; omega))))))
      have kn5 : Blk w21 (x8) #[.int .i64 40, .int .i64 1, .int .i64 40, .int .i64 1] 35 := Blk.later hb (by (repeat' (first | (with_reducible assumption) | (with_reducible refine Blk.set2 ?_) | ((with_reducible refine Blk.new ?_); first | rfl | (simp; done)) | (with_reducible refine Blk.later (by assumption) ?_) | (with_reducible refine Blk.alloc ?_) | (with_reducible refine Blk.drewN ?_) | (with_reducible refine Blk.drew ?_) | (with_reducible refine Blk.other ?_ (by first | omega | (simp; done) | (simp; omega))))))
      clear k2 a2 b2 y2
      clear k3 a3 b3 y3
      clear k5 a5 b5 y5
      have k2 := kn2; clear kn2; obtain ⟨a2, b2⟩ := k2.read; have y2 := k2.lt
      have k3 := kn3; clear kn3; obtain ⟨a3, b3⟩ := k3.read; have y3 := k3.lt
      have k5 := kn5; clear kn5; obtain ⟨a5, b5⟩ := k5.read; have y5 := k5.lt
      replace hBw : Below w.heap.size w w21 := belowThru (by (repeat' (first | (with_reducible exact Below.refl _ _) | (with_reducible assumption) | (with_reducible refine belowThru ?_ (by assumption)) | (with_reducible refine belowAlloc ?_) | (with_reducible refine Below.setCell ?_ (by first | omega | (simp; done) | (simp; omega)) _) | (with_reducible refine Below.drew ?_) | (with_reducible refine below_drewN ?_ _)))) hb
      have hzw21 := hBw.size
      clear hb
      go_wp2_with fail
      obtain ⟨Wp, rfl⟩ : ∃ Wp, Wp = w21 := ⟨_, rfl⟩
      clear a2 b2 y2; have y2 := k2.lt
      clear a3 b3 y3; have y3 := k3.lt
      clear a5 b5 y5; have y5 := k5.lt
      go_region_held3 (fun w' => (Blk w' (w11.heap.size) #[.int .i64 92, .int .i64 1, .int .i64 100, .int .i64 1, .int .i64 100, .int .i64 1, .int .i64 104, .int .i64 1] 41 ∧ (∀ i : Nat, w'.cell? ⟨w11.heap.size, i, none⟩ = (#[.int .i64 92, .int .i64 1, .int .i64 100, .int .i64 1, .int .i64 100, .int .i64 1, .int .i64 104, .int .i64 1] : Array Value)[i]?)) ∧ (Blk w' (w13.heap.size) #[.int .i64 288, .int .i64 1, .int .i64 300, .int .i64 1] 35 ∧ (∀ i : Nat, w'.cell? ⟨w13.heap.size, i, none⟩ = (#[.int .i64 288, .int .i64 1, .int .i64 300, .int .i64 1] : Array Value)[i]?)) ∧ (Blk w' (x8) #[.int .i64 40, .int .i64 1, .int .i64 40, .int .i64 1] 35 ∧ (∀ i : Nat, w'.cell? ⟨x8, i, none⟩ = (#[.int .i64 40, .int .i64 1, .int .i64 40, .int .i64 1] : Array Value)[i]?)) ∧ Below Wp.heap.size Wp w')
        (((first | (apply holdK3; (focus assumption); intro p0 p1 p2 pB) | skip); refine ⟨Blk.full ?_, Blk.full ?_, Blk.full ?_, ?_⟩; all_goals (first | ((repeat' (first | (with_reducible assumption) | ((with_reducible refine Blk.new ?_); first | rfl | (simp; done)) | (with_reducible refine Blk.later (by assumption) ?_) | (with_reducible refine Blk.alloc ?_) | (with_reducible refine Blk.drewN ?_) | (with_reducible refine Blk.drew ?_) | (with_reducible refine Blk.other ?_ (by first | omega | (simp; done) | (simp; omega))))); done) | ((repeat' (first | (with_reducible exact Below.refl _ _) | (with_reducible assumption) | (with_reducible refine belowThru ?_ (by assumption)) | (with_reducible refine belowAlloc ?_) | (with_reducible refine Below.setCell ?_ (by first | omega | (simp; done) | (simp; omega)) _) | (with_reducible refine Below.drew ?_) | (with_reducible refine below_drewN ?_ _))); done) | exact Below.refl _ _)))
        (first
        | (go_at_call 24; (with_reducible refine (S92_100.out _).mono ?_); rintro e w1 ⟨rfl, hb⟩)
        | (go_at_call 24; (with_reducible refine (S100_104.out _).mono ?_); rintro e w1 ⟨rfl, hb⟩)
        | (go_at_call 24; (with_reducible refine (S288_300.out _).mono ?_); rintro e w1 ⟨rfl, hb⟩)
        | (go_at_call 24; (with_reducible refine (S40_40.out _).mono ?_); rintro e w1 ⟨rfl, hb⟩)
        | (go_at_call 62; (with_reducible refine (c_same _ _ _ _ (hRow.later (by (repeat' (first | (with_reducible exact Below.refl _ _) | (with_reducible assumption) | (with_reducible refine belowThru ?_ (by assumption)) | (with_reducible refine belowAlloc ?_) | (with_reducible refine Below.setCell ?_ (by first | omega | (simp; done) | (simp; omega)) _) | (with_reducible refine Below.drew ?_) | (with_reducible refine below_drewN ?_ _))))) (by (repeat' (first | (with_reducible assumption) | ((with_reducible refine Blk.new ?_); first | rfl | (simp; done)) | (with_reducible refine Blk.later (by assumption) ?_) | (with_reducible refine Blk.alloc ?_) | (with_reducible refine Blk.drewN ?_) | (with_reducible refine Blk.drew ?_) | (with_reducible refine Blk.other ?_ (by first | omega | (simp; done) | (simp; omega))))))).mono ?_); rintro e w1 ⟨rfl, hb⟩))
      all_goals
        apply holdK3; (focus assumption); intro p0 p1 p2 pB
        go_wp2_with fail
        go_ret
        exact ⟨rfl, belowThru hBw pB⟩
end Go.Proofs.Ytbdcmdofmokoeaa
