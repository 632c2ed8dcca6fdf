/-
  The texts that the laws of this seat share, merged: part 9.
-/
import Derived.BigQuiet
import Derived.Deep.CutRange
import Derived.Deep.DeepCutAuto
import Derived.Deep.Draws
import Derived.Deep.OwnRows
import Derived.Deep.QuietTactic
import Derived.Deep.RegionHeld3
import Derived.Laws.AppendOwn
import Derived.Laws.EntriesVeiled
import Derived.Lib.Hide
import Derived.LoopIn
import Derived.LoopNIn
import Derived.MapKept
import Derived.Maps.AppendAt
import Derived.OneCell
import Derived.Orders
import Derived.OwnWalkIn
import Derived.RangeFuncBound
import Derived.RangeFuncCalls
import Derived.RangeFuncLeaves
import Derived.RangeFuncNested
import Derived.Shelf.Abstract
import Derived.Shelf.AbstractIn
import Derived.Shelf.RegionOpen
import Derived.StillTailTactics
import Derived.TacticsInMore
import Derived.Test.YtghmjdmiaajbnaaProg
import Derived.WalkKit
import Derived.WalkSmall
import Derived.WalkSpells
import Derived.Test.YtghmjdmiaajbnaaM2
import Derived.Test.YtghmjdmiaajbnaaM3
import Derived.Test.YtghmjdmiaajbnaaM6
import Derived.Test.YtghmjdmiaajbnaaM7
import Derived.Test.YtghmjdmiaajbnaaM8
/-
  Layer 2: Convolve, by the code.
-/
namespace Go.Proofs.Ytghmjdmiaajbnaa
open Go.RowKit
set_option linter.unusedVariables false
set_option linter.unusedSimpArgs false

theorem ikv_ok {SW SH : Int} {bs : List Int} (h : okKn SW SH bs) (a' : Option Addr) (m c' : Nat) (hn : m ≤ maxLen) (w : World) (hR : Row w a' m (iv bs)) :
    Calls Try.prog 60 #[.agg #[.int .i64 SW, .int .i64 SH, .slice a' m c']] w fun e w' => e = .returned (.bool true) ∧ Below w.heap.size w w' := by
  have := isKernel_any SW SH a' m c' bs hn w hR; rw [decide_eq_true h] at this; exact this
theorem ikv_no {SW SH : Int} {bs : List Int} (h : ¬ okKn SW SH bs) (a' : Option Addr) (m c' : Nat) (hn : m ≤ maxLen) (w : World) (hR : Row w a' m (iv bs)) :
    Calls Try.prog 60 #[.agg #[.int .i64 SW, .int .i64 SH, .slice a' m c']] w fun e w' => e = .returned (.bool false) ∧ Below w.heap.size w w' := by
  have := isKernel_any SW SH a' m c' bs hn w hR; rw [decide_eq_false h] at this; exact this
theorem look_yes (j : Int) (hj : j = 1 ∨ j = 2 ∨ j = 3) (w : World) (r : Nat) (hm : w.heap[r]? = some (.map brds 3)) :
    (Instr.lookup 93 (.map (some r)) (.int .u8 j) true).run Try.prog w = .ok (.tuple #[.func (.func (brdF j)) #[] #[], .bool true]) w := by
  have ht : Try.prog.underlying 93 = some (.map 5 91) := Try.underlying93
  have hk : Try.prog.underlying 5 = some (.int .u8) := Try.underlying5
  rcases hj with rfl | rfl | rfl
  · exact look_run _ _ _ ht hk w r brds 3 1 0 _ hm rfl
  · exact look_run _ _ _ ht hk w r brds 3 2 1 _ hm rfl
  · exact look_run _ _ _ ht hk w r brds 3 3 2 _ hm rfl
theorem brdF_in (j : Int) (hj : j = 1 ∨ j = 2 ∨ j = 3) : ∀ args w, (callFunc (brdF j) args).run Try.prog w = .ok (.enter (brdF j) args) w := by
  rcases hj with rfl | rfl | rfl
  · exact enters_of Try.func104 (by kernel_rfl) rfl
  · exact enters_of Try.func105 (by kernel_rfl) rfl
  · exact enters_of Try.func106 (by kernel_rfl) rfl
set_option maxRecDepth 100000 in
set_option maxHeartbeats 4000000 in
theorem convolve_ok (j W H SW SH : Int) (hj : j = 1 ∨ j = 2 ∨ j = 3) (a a' : Option Addr) (n c m c' : Nat) (zs bs : List Int) (hI : okI W H zs) (hS : okKn SW SH bs) (hn : n ≤ maxLen) (hm : m ≤ maxLen) (w : World) (hR : Row w a n (iv zs)) (hT : Row w a' m (iv bs)) :
    Calls Try.prog 20 #[.agg #[.int .i64 W, .int .i64 H, .slice a n c], .agg #[.int .i64 SW, .int .i64 SH, .slice a' m c'], .int .u8 j] w (RetI W H (made n fun k => inR (cvN j W H zs SW SH bs ((k : Int) % W) ((k : Int) / W) m) (-2147483648) 2147483648) 0 w) := by
  have HK := Lib.hid (icheck_ok hI a n c hn)
  have HL := Lib.hid (ikv_ok hS a' m c' hm)
  have HR := Lib.hid hR
  have HT := Lib.hid hT
  have hlen : zs.length = n := by have := hR.1; rwa [iv_length] at this
  have hN : W * H = (n : Int) := by rw [← hlen]; exact hI.2.1.symm
  have hW := hI.1.1
  have hH := hI.1.2
  have hmm := okS_mul hW hH
  have HI := Lib.hid hI
  have HS := Lib.hid hS
  have HN' := Lib.hid hN
  have HLK := Lib.hid (look_yes j hj)
  have HEF := Lib.hid (brdF_in j hj)
  have HF0 : Hid (∀ px py : Int, -64 ≤ px → px ≤ 64 → -64 ≤ py → py ≤ 64 → ∀ w, Row w a n (iv zs) → Calls Try.prog (brdF j) #[.agg #[.int .i64 W, .int .i64 H, .slice a n c], .agg #[.int .i64 px, .int .i64 py]] w fun e w' => e = .returned (.int .i64 (bey j W H zs px py)) ∧ Below w.heap.size w w') :=
    fun px py h1 h2 h3 h4 w hR => bey_any j W H px py hj a n c zs hI h1 h2 h3 h4 w hR
  obtain ⟨F, hF⟩ : ∃ F, brdF j = F := ⟨_, rfl⟩
  rw [hF] at HLK HEF HF0
  have hPL : ∀ k, k < n → (0 ≤ (k : Int) % W ∧ (k : Int) % W ≤ 16) ∧ 0 ≤ (k : Int) / W ∧ (k : Int) / W ≤ 16 := fun k hk => by
    have := place_in hW hH hN hk
    have h1 := hW.2; have h2 := hH.2
    omega
  have HPL := Lib.hid hPL
  clear hR hT hn hm hlen hN hI hS hF hj hPL
  go_enter Try.func20, Try.ntmps20
  go_upto_region 6 with (first
    | (go_at_call 51; (with_reducible refine (HK.out _ (HR.out.later (by (repeat' (first | (with_reducible exact Below.refl _ _) | (with_reducible assumption) | (with_reducible refine belowThru ?_ (by assumption)) | (with_reducible refine belowAlloc ?_) | (with_reducible refine Below.setCell ?_ (by first | omega | (simp; done) | (simp; omega)) _) | (with_reducible refine Below.drew ?_) | (with_reducible refine below_drewN ?_ _)))))).mono ?_); rintro e w1 ⟨rfl, hb⟩; (first | ((with_reducible have k0 := Blk.later hb (Blk.alloc (Blk.alloc (Blk.new rfl)))); (with_reducible have k1 := Blk.later hb (Blk.alloc (Blk.new rfl))); (with_reducible have k2 := Blk.later hb (Blk.new rfl)); simp only [World.size_alloc] at k1 k2; obtain ⟨a0, b0⟩ := k0.read; have zl := k0.lt; obtain ⟨a1, b1⟩ := k1.read; have zl := k1.lt; obtain ⟨a2, b2⟩ := k2.read; have zl := k2.lt) | ((try (have zk := k0.lt; (first | ((with_reducible refine Blk.keepG hb k0 (fun h => ?_) ?_); (focus ((repeat' (first | (with_reducible assumption) | ((with_reducible refine Blk.new ?_); first | rfl | (simp; done)) | (with_reducible refine Blk.later (by assumption) ?_) | (with_reducible refine Blk.alloc ?_) | (with_reducible refine Blk.drewN ?_) | (with_reducible refine Blk.drew ?_) | (with_reducible refine Blk.other ?_ (by first | omega | (simp; done) | (simp; omega))))); done)); clear k0; intro k0) | (with_reducible replace k0 := Blk.later hb (Blk.set (Blk.set k0))) | (with_reducible replace k0 := Blk.later hb (Blk.set k0))); clear a0 b0; obtain ⟨a0, b0⟩ := k0.read; have zl := k0.lt)); (try (have zk := k1.lt; (first | ((with_reducible refine Blk.keepG hb k1 (fun h => ?_) ?_); (focus ((repeat' (first | (with_reducible assumption) | ((with_reducible refine Blk.new ?_); first | rfl | (simp; done)) | (with_reducible refine Blk.later (by assumption) ?_) | (with_reducible refine Blk.alloc ?_) | (with_reducible refine Blk.drewN ?_) | (with_reducible refine Blk.drew ?_) | (with_reducible refine Blk.other ?_ (by first | omega | (simp; done) | (simp; omega))))); done)); clear k1; intro k1) | (with_reducible replace k1 := Blk.later hb (Blk.set (Blk.set k1))) | (with_reducible replace k1 := Blk.later hb (Blk.set k1))); clear a1 b1; obtain ⟨a1, b1⟩ := k1.read; have zl := k1.lt)); (try (have zk := k2.lt; (first | ((with_reducible refine Blk.keepG hb k2 (fun h => ?_) ?_); (focus ((repeat' (first | (with_reducible assumption) | ((with_reducible refine Blk.new ?_); first | rfl | (simp; done)) | (with_reducible refine Blk.later (by assumption) ?_) | (with_reducible refine Blk.alloc ?_) | (with_reducible refine Blk.drewN ?_) | (with_reducible refine Blk.drew ?_) | (with_reducible refine Blk.other ?_ (by first | omega | (simp; done) | (simp; omega))))); done)); clear k2; intro k2) | (with_reducible replace k2 := Blk.later hb (Blk.set (Blk.set k2))) | (with_reducible replace k2 := Blk.later hb (Blk.set k2))); clear a2 b2; obtain ⟨a2, b2⟩ := k2.read; have zl := k2.lt)); (try (have zk := k3.lt; (first | ((with_reducible refine Blk.keepG hb k3 (fun h => ?_) ?_); (focus ((repeat' (first | (with_reducible assumption) | ((with_reducible refine Blk.new ?_); first | rfl | (simp; done)) | (with_reducible refine Blk.later (by assumption) ?_) | (with_reducible refine Blk.alloc ?_) | (with_reducible refine Blk.drewN ?_) | (with_reducible refine Blk.drew ?_) | (with_reducible refine Blk.other ?_ (by first | omega | (simp; done) | (simp; omega))))); done)); clear k3; intro k3) | (with_reducible replace k3 := Blk.later hb (Blk.set (Blk.set k3))) | (with_reducible replace k3 := Blk.later hb (Blk.set k3))); clear a3 b3; obtain ⟨a3, b3⟩ := k3.read; have zl := k3.lt)))))
    | (go_at_call 60; (with_reducible refine (HL.out _ (HT.out.later (by (repeat' (first | (with_reducible exact Below.refl _ _) | (with_reducible assumption) | (with_reducible refine belowThru ?_ (by assumption)) | (with_reducible refine belowAlloc ?_) | (with_reducible refine Below.setCell ?_ (by first | omega | (simp; done) | (simp; omega)) _) | (with_reducible refine Below.drew ?_) | (with_reducible refine below_drewN ?_ _)))))).mono ?_); rintro e wK ⟨rfl, hb⟩; (try (have zk := k0.lt; (first | ((with_reducible refine Blk.keepG hb k0 (fun h => ?_) ?_); (focus ((repeat' (first | (with_reducible assumption) | ((with_reducible refine Blk.new ?_); first | rfl | (simp; done)) | (with_reducible refine Blk.later (by assumption) ?_) | (with_reducible refine Blk.alloc ?_) | (with_reducible refine Blk.drewN ?_) | (with_reducible refine Blk.drew ?_) | (with_reducible refine Blk.other ?_ (by first | omega | (simp; done) | (simp; omega))))); done)); clear k0; intro k0) | (with_reducible replace k0 := Blk.later hb (Blk.set (Blk.set k0))) | (with_reducible replace k0 := Blk.later hb (Blk.set k0))); clear a0 b0; obtain ⟨a0, b0⟩ := k0.read; have zl := k0.lt)); (try (have zk := k1.lt; (first | ((with_reducible refine Blk.keepG hb k1 (fun h => ?_) ?_); (focus ((repeat' (first | (with_reducible assumption) | ((with_reducible refine Blk.new ?_); first | rfl | (simp; done)) | (with_reducible refine Blk.later (by assumption) ?_) | (with_reducible refine Blk.alloc ?_) | (with_reducible refine Blk.drewN ?_) | (with_reducible refine Blk.drew ?_) | (with_reducible refine Blk.other ?_ (by first | omega | (simp; done) | (simp; omega))))); done)); clear k1; intro k1) | (with_reducible replace k1 := Blk.later hb (Blk.set (Blk.set k1))) | (with_reducible replace k1 := Blk.later hb (Blk.set k1))); clear a1 b1; obtain ⟨a1, b1⟩ := k1.read; have zl := k1.lt)); (try (have zk := k2.lt; (first | ((with_reducible refine Blk.keepG hb k2 (fun h => ?_) ?_); (focus ((repeat' (first | (with_reducible assumption) | ((with_reducible refine Blk.new ?_); first | rfl | (simp; done)) | (with_reducible refine Blk.later (by assumption) ?_) | (with_reducible refine Blk.alloc ?_) | (with_reducible refine Blk.drewN ?_) | (with_reducible refine Blk.drew ?_) | (with_reducible refine Blk.other ?_ (by first | omega | (simp; done) | (simp; omega))))); done)); clear k2; intro k2) | (with_reducible replace k2 := Blk.later hb (Blk.set (Blk.set k2))) | (with_reducible replace k2 := Blk.later hb (Blk.set k2))); clear a2 b2; obtain ⟨a2, b2⟩ := k2.read; have zl := k2.lt)); (try (have zk := k3.lt; (first | ((with_reducible refine Blk.keepG hb k3 (fun h => ?_) ?_); (focus ((repeat' (first | (with_reducible assumption) | ((with_reducible refine Blk.new ?_); first | rfl | (simp; done)) | (with_reducible refine Blk.later (by assumption) ?_) | (with_reducible refine Blk.alloc ?_) | (with_reducible refine Blk.drewN ?_) | (with_reducible refine Blk.drew ?_) | (with_reducible refine Blk.other ?_ (by first | omega | (simp; done) | (simp; omega))))); done)); clear k3; intro k3) | (with_reducible replace k3 := Blk.later hb (Blk.set (Blk.set k3))) | (with_reducible replace k3 := Blk.later hb (Blk.set k3))); clear a3 b3; obtain ⟨a3, b3⟩ := k3.read; have zl := k3.lt)); have hBK : Below w.heap.size w wK := by (repeat' (first | (with_reducible exact Below.refl _ _) | (with_reducible assumption) | (with_reducible refine belowThru ?_ (by assumption)) | (with_reducible refine belowAlloc ?_) | (with_reducible refine Below.setCell ?_ (by first | omega | (simp; done) | (simp; omega)) _) | (with_reducible refine Below.drew ?_) | (with_reducible refine below_drewN ?_ _)))))
  go_upto_region 7 with (go_at_call 61; (with_reducible refine (borders_any _).mono ?_); rintro e wM ⟨rm, rfl, hmap, hb⟩; (try (have zk := k0.lt; (first | ((with_reducible refine Blk.keepG hb k0 (fun h => ?_) ?_); (focus ((repeat' (first | (with_reducible assumption) | ((with_reducible refine Blk.new ?_); first | rfl | (simp; done)) | (with_reducible refine Blk.later (by assumption) ?_) | (with_reducible refine Blk.alloc ?_) | (with_reducible refine Blk.drewN ?_) | (with_reducible refine Blk.drew ?_) | (with_reducible refine Blk.other ?_ (by first | omega | (simp; done) | (simp; omega))))); done)); clear k0; intro k0) | (with_reducible replace k0 := Blk.later hb (Blk.set (Blk.set k0))) | (with_reducible replace k0 := Blk.later hb (Blk.set k0))); clear a0 b0; obtain ⟨a0, b0⟩ := k0.read; have zl := k0.lt)); (try (have zk := k1.lt; (first | ((with_reducible refine Blk.keepG hb k1 (fun h => ?_) ?_); (focus ((repeat' (first | (with_reducible assumption) | ((with_reducible refine Blk.new ?_); first | rfl | (simp; done)) | (with_reducible refine Blk.later (by assumption) ?_) | (with_reducible refine Blk.alloc ?_) | (with_reducible refine Blk.drewN ?_) | (with_reducible refine Blk.drew ?_) | (with_reducible refine Blk.other ?_ (by first | omega | (simp; done) | (simp; omega))))); done)); clear k1; intro k1) | (with_reducible replace k1 := Blk.later hb (Blk.set (Blk.set k1))) | (with_reducible replace k1 := Blk.later hb (Blk.set k1))); clear a1 b1; obtain ⟨a1, b1⟩ := k1.read; have zl := k1.lt)); (try (have zk := k2.lt; (first | ((with_reducible refine Blk.keepG hb k2 (fun h => ?_) ?_); (focus ((repeat' (first | (with_reducible assumption) | ((with_reducible refine Blk.new ?_); first | rfl | (simp; done)) | (with_reducible refine Blk.later (by assumption) ?_) | (with_reducible refine Blk.alloc ?_) | (with_reducible refine Blk.drewN ?_) | (with_reducible refine Blk.drew ?_) | (with_reducible refine Blk.other ?_ (by first | omega | (simp; done) | (simp; omega))))); done)); clear k2; intro k2) | (with_reducible replace k2 := Blk.later hb (Blk.set (Blk.set k2))) | (with_reducible replace k2 := Blk.later hb (Blk.set k2))); clear a2 b2; obtain ⟨a2, b2⟩ := k2.read; have zl := k2.lt)); (try (have zk := k3.lt; (first | ((with_reducible refine Blk.keepG hb k3 (fun h => ?_) ?_); (focus ((repeat' (first | (with_reducible assumption) | ((with_reducible refine Blk.new ?_); first | rfl | (simp; done)) | (with_reducible refine Blk.later (by assumption) ?_) | (with_reducible refine Blk.alloc ?_) | (with_reducible refine Blk.drewN ?_) | (with_reducible refine Blk.drew ?_) | (with_reducible refine Blk.other ?_ (by first | omega | (simp; done) | (simp; omega))))); done)); clear k3; intro k3) | (with_reducible replace k3 := Blk.later hb (Blk.set (Blk.set k3))) | (with_reducible replace k3 := Blk.later hb (Blk.set k3))); clear a3 b3; obtain ⟨a3, b3⟩ := k3.read; have zl := k3.lt)); have hBM : Below w.heap.size w wM := (by (repeat' (first | (with_reducible exact Below.refl _ _) | (with_reducible assumption) | (with_reducible refine belowThru ?_ (by assumption)) | (with_reducible refine belowAlloc ?_) | (with_reducible refine Below.setCell ?_ (by first | omega | (simp; done) | (simp; omega)) _) | (with_reducible refine Below.drew ?_) | (with_reducible refine below_drewN ?_ _)))); have hlk := HLK.out wM rm hmap; clear hmap hb)
  go_upto_region 9 with fail
  obtain ⟨W9, hW9⟩ : ∃ W9, wM.alloc (.cells #[.func (.func F) #[] #[]] 91) = W9 := ⟨_, rfl⟩
  have k3 : Blk W9 wM.heap.size #[.func (.func F) #[] #[]] 91 := by rw [← hW9]; exact Blk.new rfl
  replace k0 : Blk W9 w.heap.size #[.int .i64 W, .int .i64 H, .slice a n c] 24 := by rw [← hW9]; exact k0.alloc
  replace k1 : Blk W9 (w.heap.size + 1) #[.int .i64 SW, .int .i64 SH, .slice a' m c'] 36 := by rw [← hW9]; exact k1.alloc
  replace k2 : Blk W9 (w.heap.size + 1 + 1) #[.int .i64 0, .int .i64 0, .slice none 0 0] 24 := by rw [← hW9]; exact k2.alloc
  have hB9 : Below w.heap.size w W9 := by rw [← hW9]; exact belowAlloc hBM
  rw [hW9]
  clear hW9 hBM hlk a0 b0 a1 b1 a2 b2
  obtain ⟨a0, b0⟩ := k0.read; obtain ⟨a1, b1⟩ := k1.read; obtain ⟨a2, b2⟩ := k2.read; obtain ⟨a3, b3⟩ := k3.read
  have zl9 := k2.lt
  have HV := Lib.hid (fun (k : Nat) (hk : k < n) W1 (hW1 : Below W9.heap.size W9 W1) => (callsIn_wide (n := 9)).1 (conv_in 9 (by omega) j W H SW SH ((k : Int) % W) ((k : Int) / W) F a a' n c m c' zs bs HI.out HS.out (HPL.out k hk).1.1 (HPL.out k hk).1.2 (HPL.out k hk).2.1 (HPL.out k hk).2.2 (w.heap.size + 1) wM.heap.size w.heap.size W1 (HR.out.later (hB9.trans (hW1.mono hB9.size))) (HT.out.later (hB9.trans (hW1.mono hB9.size))) (Blk.later hW1 k1) (Blk.later hW1 k3) (Blk.later hW1 k0) HEF.out HF0))
  have HB := Lib.hid (build_any W H n 62 #[.pointer (some ⟨w.heap.size + 1, 0, none⟩), .pointer (some ⟨wM.heap.size, 0, none⟩), .pointer (some ⟨w.heap.size, 0, none⟩)] (fun k => cvN j W H zs SW SH bs ((k : Int) % W) ((k : Int) / W) m) HN'.out hW.1 hW.2 hH.1 hH.2 (by have := HN'.out; omega) (enters_of Try.func62 (by kernel_rfl) rfl) _ HV)
  clear HV
  go_wp2_with (go_at_call 53; (with_reducible refine (HB.out).mono ?_); rintro e w2 ⟨B, rfl, hB0, kB, hb⟩; (replace kB : Blk w2 B (ints (made n fun k => inR (cvN j W H zs SW SH bs ((k : Int) % W) ((k : Int) / W) m) (-2147483648) 2147483648)) 3 := kB); (with_reducible replace k2 := Blk.later hb k2); clear a2 b2; obtain ⟨a2, b2⟩ := k2.read; have zk2 := k2.lt; have hBF : Below w.heap.size w w2 := hB9.trans (hb.mono hB9.size))
  exact bodyPost_ret (v := .tuple #[.agg #[.int .i64 W, .int .i64 H, .slice (some ⟨B, 0, none⟩) n n], .int .i64 0]) (by simp only [results, Try.results20]; go_simp) rfl (RetI.made (made_length _ _) (by omega) (by (repeat' (first | (with_reducible assumption) | ((with_reducible refine Blk.new ?_); first | rfl | (simp; done)) | (with_reducible refine Blk.later (by assumption) ?_) | (with_reducible refine Blk.alloc ?_) | (with_reducible refine Blk.drewN ?_) | (with_reducible refine Blk.drew ?_) | (with_reducible refine Blk.other ?_ (by first | omega | (simp; done) | (simp; omega)))))) (by (repeat' (first | (with_reducible exact Below.refl _ _) | (with_reducible assumption) | (with_reducible refine belowThru ?_ (by assumption)) | (with_reducible refine belowAlloc ?_) | (with_reducible refine Below.setCell ?_ (by first | omega | (simp; done) | (simp; omega)) _) | (with_reducible refine Below.drew ?_) | (with_reducible refine below_drewN ?_ _)))))
end Go.Proofs.Ytghmjdmiaajbnaa
/-
  Layer 2: an image whose values are changed.
-/
namespace Go.Proofs.Ytghmjdmiaajbnaa
open Go.RowKit
set_option linter.unusedVariables false
set_option linter.unusedSimpArgs false

theorem Blk.but {w w' : World} {b : Nat} {c : Array Value} {t : TypeId} {row : Option Nat} (hg : w.grownBy w' row) (hne : ∀ g, row = some g → b ≠ g) (h : Blk w b c t) : Blk w' b c t :=
  (hg.block b h.lt (fun e => hne b e.symm rfl)).trans h
theorem Blk.ne {w : World} {b g : Nat} {c c' : Array Value} {t t' : TypeId} (h : Blk w b c t) (k : Blk w g c' t') (hne : t ≠ t') : b ≠ g := by
  rintro rfl
  have : w.heap[b]? = some (.cells c t (0, 0)) := h
  have k' : w.heap[b]? = some (.cells c' t' (0, 0)) := k
  rw [this] at k'
  cases k'
  exact hne rfl
/-- Only that block may have changed. -/
theorem grownBy_set {w wr : World} {g : Nat} (h : w.grownBy wr (some g)) (i : Nat) (v : Value) : w.grownBy (wr.setCell ⟨g, i, none⟩ v) (some g) :=
  ⟨h.os, h.tape, h.output, by have := h.size; simpa [World.setCell] using this, fun k hk hne => (Below.heap_setCell wr ⟨g, i, none⟩ v k (fun e => hne (by rw [e]))).trans (h.block k hk hne)⟩
end Go.Proofs.Ytghmjdmiaajbnaa
/-
  Layer 2: what a call has made anew.
-/
namespace Go.Proofs.Ytghmjdmiaajbnaa
open Go.RowKit
set_option linter.unusedVariables false
set_option linter.unusedSimpArgs false

theorem New.row {B : Nat} {w : World} {a : Option Addr} {n : Nat} {zs : List Int} (h : New B w a n zs) : Row w a n (iv zs) := by
  obtain ⟨hl, h⟩ := h
  rcases h with ⟨rfl, rfl⟩ | ⟨b, rfl, -, k⟩
  · obtain rfl : zs = [] := List.eq_nil_of_length_eq_zero hl
    exact Row.nil _ _
  · subst hl; exact Row.of_blk k
theorem New.later {B : Nat} {w w' : World} (hb : Below w.heap.size w w') {a : Option Addr} {n : Nat} {zs : List Int} (h : New B w a n zs) : New B w' a n zs :=
  ⟨h.1, h.2.imp id (fun ⟨b, e, l, k⟩ => ⟨b, e, l, Blk.later hb k⟩)⟩
theorem New.mono {B B' : Nat} {w : World} {a : Option Addr} {n : Nat} {zs : List Int} (hB : B' ≤ B) (h : New B w a n zs) : New B' w a n zs :=
  ⟨h.1, h.2.imp id (fun ⟨b, e, l, k⟩ => ⟨b, e, Nat.le_trans hB l, k⟩)⟩
theorem New.set {B : Nat} {w : World} {a : Option Addr} {n : Nat} {zs : List Int} (h : New B w a n zs) {b i : Nat} {c : Array Value} {t : TypeId} (k : Blk w b c t) (ht : t ≠ 3) (v : Value) : New B (w.setCell ⟨b, i, none⟩ v) a n zs :=
  ⟨h.1, h.2.imp id (fun ⟨g, e, l, kg⟩ => ⟨g, e, l, Blk.other kg (Blk.ne kg k (fun e => ht e.symm))⟩)⟩
theorem New.set3 {B : Nat} {w : World} {a : Option Addr} {n : Nat} {zs : List Int} (h : New B w a n zs) {b : Nat} {c : Array Value} {t : TypeId} (k : Blk w b c t) (ht : t ≠ 3) (x y z : Value) : New B (((w.setCell ⟨b, 0, none⟩ x).setCell ⟨b, 1, none⟩ y).setCell ⟨b, 2, none⟩ z) a n zs :=
  ((h.set k ht x).set (Blk.set k) ht y).set (Blk.set (Blk.set k)) ht z
end Go.Proofs.Ytghmjdmiaajbnaa
/-
  Layer 2: Dilate and Erode, by the code; both sides.
-/
namespace Go.Proofs.Ytghmjdmiaajbnaa
open Go.RowKit
set_option linter.unusedVariables false
set_option linter.unusedSimpArgs false

theorem pixAt_ok {W H : Int} {zs : List Int} (hI : okI W H zs) (x y : Int) : okV (pixAt W zs x y) := by
  unfold pixAt
  cases h : zs[(y * W + x).toNat]? with
  | none => exact ⟨by decide, by decide⟩
  | some z => exact hI.2.2 z (List.mem_of_getElem? h)

def stpD (W H : Int) (zs : List Int) (SW SH : Int) (bs : List Bool) (x y : Int) (p : Int) (k : Nat) : Int :=
  if bs[k]?.getD false = true ∧ inP W H (x - ((k : Int) % SW - SW / 2)) (y - ((k : Int) / SW - SH / 2)) then (if p < pixAt W zs (x - ((k : Int) % SW - SW / 2)) (y - ((k : Int) / SW - SH / 2)) then pixAt W zs (x - ((k : Int) % SW - SW / 2)) (y - ((k : Int) / SW - SH / 2)) else p) else p
theorem exD_fold (W H : Int) (zs : List Int) (SW SH : Int) (bs : List Bool) (x y : Int) (m : Nat) : (List.range m).foldl (stpD W H zs SW SH bs x y) (-2147483648) = exD W H zs SW SH bs x y m := by
  induction m with
  | zero => rfl
  | succ m ih => rw [List.range_succ, List.foldl_append, ih]; rfl
theorem exD_ok {W H : Int} {zs : List Int} (hI : okI W H zs) (SW SH : Int) (bs : List Bool) (x y : Int) (m : Nat) : okV (exD W H zs SW SH bs x y m) := by
  induction m with
  | zero => show okV (-2147483648); exact ⟨by decide, by decide⟩
  | succ k ih =>
    have hp := pixAt_ok hI (x - ((k : Int) % SW - SW / 2)) (y - ((k : Int) / SW - SH / 2))
    unfold exD
    split
    · split
      · exact hp
      · exact ih
    · exact ih
set_option maxHeartbeats 400000 in
theorem dilate1_any (p q : Int) (w : World) : Calls Try.prog 68 #[.int .i64 p, .int .i64 q] w fun e w' => e = .returned (.int .i64 (if p < q then q else p)) ∧ Below w.heap.size w w' := by
  go_enter Try.func68, Try.ntmps68
  go_wp2
  all_goals
    go_ret
    exact ⟨rfl, by (repeat' (first | (with_reducible exact Below.refl _ _) | (with_reducible assumption) | (with_reducible refine belowThru ?_ (by assumption)) | (with_reducible refine belowAlloc ?_) | (with_reducible refine Below.setCell ?_ (by first | omega | (simp; done) | (simp; omega)) _) | (with_reducible refine Below.drew ?_) | (with_reducible refine below_drewN ?_ _)))⟩
set_option maxHeartbeats 2000000 in
theorem dilate_of (W H SW SH W2 H2 E2 : Int) (Z2 : List Int) (a a' : Option Addr) (n c m c' : Nat) (zs : List Int) (bs : List Bool) (w : World) (hR : Row w a n (iv zs)) (hT : Row w a' m (bv bs))
    (HX : Hid (∀ w, Row w a n (iv zs) → Row w a' m (bv bs) → Calls Try.prog 65 #[.agg #[.int .i64 W, .int .i64 H, .slice a n c], .agg #[.int .i64 SW, .int .i64 SH, .slice a' m c'], .func (.func 64) #[] #[], .int .i64 (-2147483648), .func (.func 68) #[] #[]] w (RetI W2 H2 Z2 E2 w))) :
    Calls Try.prog 25 #[.agg #[.int .i64 W, .int .i64 H, .slice a n c], .agg #[.int .i64 SW, .int .i64 SH, .slice a' m c']] w (RetI W2 H2 Z2 E2 w) := by
  have HR := Lib.hid hR
  have HT := Lib.hid hT
  clear hR hT
  go_enter Try.func25, Try.ntmps25
  go_wp2_with fail
  refine (HX.out _ (HR.out.later (by (repeat' (first | (with_reducible exact Below.refl _ _) | (with_reducible assumption) | (with_reducible refine belowThru ?_ (by assumption)) | (with_reducible refine belowAlloc ?_) | (with_reducible refine Below.setCell ?_ (by first | omega | (simp; done) | (simp; omega)) _) | (with_reducible refine Below.drew ?_) | (with_reducible refine below_drewN ?_ _))))) (HT.out.later (by (repeat' (first | (with_reducible exact Below.refl _ _) | (with_reducible assumption) | (with_reducible refine belowThru ?_ (by assumption)) | (with_reducible refine belowAlloc ?_) | (with_reducible refine Below.setCell ?_ (by first | omega | (simp; done) | (simp; omega)) _) | (with_reducible refine Below.drew ?_) | (with_reducible refine below_drewN ?_ _)))))).mono ?_
  rintro e w2 ⟨ax, nx, cx, rfl, hNx, hb⟩
  (first | ((with_reducible have k0 := Blk.later hb (Blk.alloc (Blk.alloc (Blk.new rfl)))); (with_reducible have k1 := Blk.later hb (Blk.alloc (Blk.new rfl))); (with_reducible have k2 := Blk.later hb (Blk.new rfl)); simp only [World.size_alloc] at k1 k2; obtain ⟨a0, b0⟩ := k0.read; have zl := k0.lt; obtain ⟨a1, b1⟩ := k1.read; have zl := k1.lt; obtain ⟨a2, b2⟩ := k2.read; have zl := k2.lt) | ((try (have zk := k0.lt; (first | ((with_reducible refine Blk.keepG hb k0 (fun h => ?_) ?_); (focus ((repeat' (first | (with_reducible assumption) | ((with_reducible refine Blk.new ?_); first | rfl | (simp; done)) | (with_reducible refine Blk.later (by assumption) ?_) | (with_reducible refine Blk.alloc ?_) | (with_reducible refine Blk.drewN ?_) | (with_reducible refine Blk.drew ?_) | (with_reducible refine Blk.other ?_ (by first | omega | (simp; done) | (simp; omega))))); done)); clear k0; intro k0) | (with_reducible replace k0 := Blk.later hb (Blk.set (Blk.set k0))) | (with_reducible replace k0 := Blk.later hb (Blk.set k0))); clear a0 b0; obtain ⟨a0, b0⟩ := k0.read; have zl := k0.lt)); (try (have zk := k1.lt; (first | ((with_reducible refine Blk.keepG hb k1 (fun h => ?_) ?_); (focus ((repeat' (first | (with_reducible assumption) | ((with_reducible refine Blk.new ?_); first | rfl | (simp; done)) | (with_reducible refine Blk.later (by assumption) ?_) | (with_reducible refine Blk.alloc ?_) | (with_reducible refine Blk.drewN ?_) | (with_reducible refine Blk.drew ?_) | (with_reducible refine Blk.other ?_ (by first | omega | (simp; done) | (simp; omega))))); done)); clear k1; intro k1) | (with_reducible replace k1 := Blk.later hb (Blk.set (Blk.set k1))) | (with_reducible replace k1 := Blk.later hb (Blk.set k1))); clear a1 b1; obtain ⟨a1, b1⟩ := k1.read; have zl := k1.lt)); (try (have zk := k2.lt; (first | ((with_reducible refine Blk.keepG hb k2 (fun h => ?_) ?_); (focus ((repeat' (first | (with_reducible assumption) | ((with_reducible refine Blk.new ?_); first | rfl | (simp; done)) | (with_reducible refine Blk.later (by assumption) ?_) | (with_reducible refine Blk.alloc ?_) | (with_reducible refine Blk.drewN ?_) | (with_reducible refine Blk.drew ?_) | (with_reducible refine Blk.other ?_ (by first | omega | (simp; done) | (simp; omega))))); done)); clear k2; intro k2) | (with_reducible replace k2 := Blk.later hb (Blk.set (Blk.set k2))) | (with_reducible replace k2 := Blk.later hb (Blk.set k2))); clear a2 b2; obtain ⟨a2, b2⟩ := k2.read; have zl := k2.lt))))
  have HX2 := Lib.hid (New.mono (B' := w.heap.size) (by first | omega | (simp; omega)) hNx)
  have HBw : Hid (Below w.heap.size w w2) := by show Below _ _ _; (repeat' (first | (with_reducible exact Below.refl _ _) | (with_reducible assumption) | (with_reducible refine belowThru ?_ (by assumption)) | (with_reducible refine belowAlloc ?_) | (with_reducible refine Below.setCell ?_ (by first | omega | (simp; done) | (simp; omega)) _) | (with_reducible refine Below.drew ?_) | (with_reducible refine below_drewN ?_ _)))
  clear hb hNx HX
  go_wp2_with fail
  have hBw := HBw.out
  exact bodyPost_ret (v := .tuple #[.agg #[.int .i64 W2, .int .i64 H2, .slice ax nx cx], .int .i64 E2]) (by simp only [results, Try.results25]; go_simp) rfl ⟨ax, nx, cx, rfl, New.set3 HX2.out k2 (by decide) _ _ _, by (repeat' (first | (with_reducible exact Below.refl _ _) | (with_reducible assumption) | (with_reducible refine belowThru ?_ (by assumption)) | (with_reducible refine belowAlloc ?_) | (with_reducible refine Below.setCell ?_ (by first | omega | (simp; done) | (simp; omega)) _) | (with_reducible refine Below.drew ?_) | (with_reducible refine below_drewN ?_ _)))⟩
end Go.Proofs.Ytghmjdmiaajbnaa
/-
  Layer 2: dilated and eroded images as greatest and least values: the plain mathematics.
-/
namespace Go.Proofs.Ytghmjdmiaajbnaa
open Go.RowKit
set_option linter.unusedVariables false
set_option linter.unusedSimpArgs false

theorem place_of {W H x y : Int} (hW : okS W) (hH : okS H) (h : inP W H x y) : ∃ p : Nat, (p : Int) < W * H ∧ (p : Int) % W = x ∧ (p : Int) / W = y ∧ y * W + x = (p : Int) := by
  obtain ⟨p, e, hlt, -, -⟩ := inP_at hW hH h
  obtain ⟨⟨x0, x1⟩, -, -⟩ := h
  refine ⟨p, hlt, ?_, ?_, e⟩
  · rw [← e, Int.add_comm, Int.add_mul_emod_self_right]; exact Int.emod_eq_of_lt x0 x1
  · rw [← e, Int.add_comm, Int.add_mul_ediv_right _ _ (by omega), Int.ediv_eq_zero_of_lt x0 x1, Int.zero_add]
theorem px_of {W H x y : Int} {zs : List Int} {p : Nat} (e : y * W + x = (p : Int)) : pixAt W zs x y = zs[p]?.getD 0 := by
  unfold pixAt; rw [e]; rfl
theorem made_get {n : Nat} {V : Nat → Int} {k : Nat} (hk : k < n) : (made n V)[k]? = some (V k) := by
  unfold made; rw [List.getElem?_map, List.getElem?_range hk]; rfl
theorem okI_made {W H : Int} {n : Nat} {zs : List Int} (hI : okI W H zs) (hn : zs.length = n) (V : Nat → Int) (hV : ∀ k, k < n → okV (V k)) : okI W H (made n V) := by
  refine ⟨hI.1, by rw [made_length, ← hn]; exact hI.2.1, fun z hz => ?_⟩
  obtain ⟨k, hk, rfl⟩ := List.mem_map.1 hz
  exact hV k (List.mem_range.1 hk)
/-- The order of images, by places. -/
def leP (W H : Int) (xs ys : List Int) : Prop := ∀ x y, inP W H x y → pixAt W xs x y ≤ pixAt W ys x y
theorem leP.refl (W H : Int) (xs : List Int) : leP W H xs xs := fun _ _ _ => Int.le_refl _
theorem leP.trans {W H : Int} {xs ys zs : List Int} (h : leP W H xs ys) (k : leP W H ys zs) : leP W H xs zs := fun x y hp => Int.le_trans (h x y hp) (k x y hp)
end Go.Proofs.Ytghmjdmiaajbnaa
/-
  Layer 2: convolution is linear: the plain mathematics.
-/
namespace Go.Proofs.Ytghmjdmiaajbnaa
open Go.RowKit
set_option linter.unusedVariables false
set_option linter.unusedSimpArgs false

theorem inR_in {x lo hi : Int} (h : lo ≤ hi) : lo ≤ inR x lo hi ∧ inR x lo hi ≤ hi := by unfold inR; omega
/-- A value beyond the border is 0 for every image, or that of one place for every image. -/
theorem bey_form (j : Int) {W H : Int} (hW : okS W) (hH : okS H) (x y : Int) : (∀ zs, bey j W H zs x y = 0) ∨ ∃ X Y, inP W H X Y ∧ ∀ zs, bey j W H zs x y = pixAt W zs X Y := by
  obtain ⟨w0, w1⟩ := hW; obtain ⟨h0, h1⟩ := hH
  by_cases hp : inP W H x y
  · exact .inr ⟨x, y, hp, fun zs => by unfold bey; rw [if_pos hp]⟩
  · by_cases e1 : j = 1
    · exact .inl fun zs => by unfold bey; rw [if_neg hp, if_pos e1]
    · by_cases e2 : j = 2
      · have a := inR_in (x := x) (show (0 : Int) ≤ W - 1 by omega); have b := inR_in (x := y) (show (0 : Int) ≤ H - 1 by omega)
        exact .inr ⟨_, _, ⟨⟨a.1, by omega⟩, b.1, by omega⟩, fun zs => by unfold bey; rw [if_neg hp, if_neg e1, if_pos e2]⟩
      · exact .inr ⟨x % W, y % H, ⟨⟨Int.emod_nonneg _ (by omega), Int.emod_lt_of_pos _ (by omega)⟩, Int.emod_nonneg _ (by omega), Int.emod_lt_of_pos _ (by omega)⟩, fun zs => by unfold bey; rw [if_neg hp, if_neg e1, if_neg e2]⟩
theorem modN.at {zs : List Int} {M : Int} {n : Nat} (h : modN zs M n) (hn : zs.length = n) (hM : 0 ≤ M) (k : Nat) : -M ≤ zs[k]?.getD 0 ∧ zs[k]?.getD 0 ≤ M := by
  by_cases hk : k < n
  · exact h k hk
  · rw [List.getElem?_eq_none (by omega)]; exact ⟨by show -M ≤ 0; omega, hM⟩
theorem modN.pix {zs : List Int} {M W : Int} {n : Nat} (h : modN zs M n) (hn : zs.length = n) (hM : 0 ≤ M) (x y : Int) : -M ≤ pixAt W zs x y ∧ pixAt W zs x y ≤ M := h.at hn hM _
theorem modN.bey {zs : List Int} {M : Int} {n : Nat} (h : modN zs M n) (hn : zs.length = n) (hM : 0 ≤ M) (j : Int) {W H : Int} (hW : okS W) (hH : okS H) (x y : Int) : -M ≤ bey j W H zs x y ∧ bey j W H zs x y ≤ M := by
  rcases bey_form j hW hH x y with e | ⟨X, Y, -, e⟩
  · rw [e]; omega
  · rw [e]; exact h.pix hn hM X Y
theorem mul_bd {a b A B : Int} (ha : -A ≤ a ∧ a ≤ A) (hb : -B ≤ b ∧ b ≤ B) : -(A * B) ≤ a * b ∧ a * b ≤ A * B := by
  have h0 := Int.natAbs_mul a b
  have h3 := Nat.mul_le_mul (show a.natAbs ≤ A.toNat by omega) (show b.natAbs ≤ B.toNat by omega)
  have h4 : ((A.toNat * B.toNat : Nat) : Int) = A * B := by rw [Int.natCast_mul, Int.toNat_of_nonneg (by omega), Int.toNat_of_nonneg (by omega)]
  omega
/-- A convolution, as a list. -/
def cvL (j W H SW SH : Int) (bs : List Int) (m n : Nat) (zs : List Int) : List Int := made n fun k => inR (cvN j W H zs SW SH bs ((k : Int) % W) ((k : Int) / W) m) (-2147483648) 2147483648
theorem cvL_len {j W H SW SH : Int} {bs : List Int} {m n : Nat} {zs : List Int} : (cvL j W H SW SH bs m n zs).length = n := by unfold cvL; rw [made_length]
theorem cvL_ok {j W H SW SH : Int} {bs : List Int} {m n : Nat} {zs : List Int} (hI : okI W H zs) (hn : zs.length = n) : okI W H (cvL j W H SW SH bs m n zs) := okI_made hI hn _ fun k _ => by unfold inR okV; omega
end Go.Proofs.Ytghmjdmiaajbnaa
/-
  Sums of numbers: over rows, columns, rectangles; plain numbers.
-/
namespace Go.Proofs.Ytghmjdmiaajbnaa

/-- The sum of the first n numbers. -/
def sumN (f : Nat → Int) : Nat → Int
  | 0 => 0
  | n + 1 => sumN f n + f n
theorem sumN_congr {f g : Nat → Int} {n : Nat} (h : ∀ i, i < n → f i = g i) : sumN f n = sumN g n := by
  induction n with
  | zero => rfl
  | succ n ih => rw [sumN, sumN, ih (fun i hi => h i (by omega)), h n (by omega)]
theorem sumN_zero {f : Nat → Int} {n : Nat} (h : ∀ i, i < n → f i = 0) : sumN f n = 0 := by
  induction n with
  | zero => rfl
  | succ n ih => rw [sumN, ih (fun i hi => h i (by omega)), h n (by omega)]; rfl
theorem sumN_add (f : Nat → Int) (a b : Nat) : sumN f (a + b) = sumN f a + sumN (fun i => f (a + i)) b := by
  induction b with
  | zero => simp [sumN]
  | succ b ih => rw [← Nat.add_assoc, sumN, sumN, ih, Int.add_assoc]
theorem sumN_bd {f : Nat → Int} {n : Nat} {B : Int} (h : ∀ i, i < n → -B ≤ f i ∧ f i ≤ B) : -(n * B) ≤ sumN f n ∧ sumN f n ≤ n * B := by
  induction n with
  | zero => simp [sumN]
  | succ n ih =>
    have h1 := ih (fun i hi => h i (by omega))
    have h2 := h n (by omega)
    rw [sumN, Int.natCast_add, Int.natCast_one, Int.add_mul, Int.one_mul]
    omega
/-- The sum of the numbers from a on, below b. -/
def sumR (f : Nat → Int) (a b : Nat) : Int := sumN (fun i => f (a + i)) (b - a)
theorem sumR_self (f : Nat → Int) (a : Nat) : sumR f a a = 0 := by unfold sumR; rw [Nat.sub_self]; rfl
theorem sumR_succ (f : Nat → Int) {a b : Nat} (h : a ≤ b) : sumR f a (b + 1) = sumR f a b + f b := by
  unfold sumR
  rw [show b + 1 - a = (b - a) + 1 by omega, sumN, show a + (b - a) = b by omega]
theorem sumR_zero (f : Nat → Int) (b : Nat) : sumR f 0 b = sumN f b := by
  unfold sumR; rw [Nat.sub_zero]; exact sumN_congr fun i _ => by rw [Nat.zero_add]
theorem sumR_one (f : Nat → Int) (a : Nat) : sumR f a (a + 1) = f a := by rw [sumR_succ f (Nat.le_refl a), sumR_self, Int.zero_add]
/-- Of all numbers only those from a on, below b, are added up. -/
theorem sumN_pick (f : Nat → Int) (a b n : Nat) (h : b ≤ n) : sumN (fun i => if a ≤ i ∧ i < b then f i else 0) n = sumR f a b := by
  by_cases hab : a ≤ b
  · rw [show n = a + ((b - a) + (n - b)) by omega, sumN_add, sumN_add, sumN_zero (fun i hi => if_neg (by omega)), Int.zero_add]
    rw [show sumN (fun i => if a ≤ a + (b - a + i) ∧ a + (b - a + i) < b then f (a + (b - a + i)) else 0) (n - b) = 0 from sumN_zero (fun i hi => if_neg (by omega)), Int.add_zero]
    exact sumN_congr fun i hi => if_pos (by omega)
  · rw [sumN_zero (fun i hi => if_neg (by omega))]
    unfold sumR; rw [show b - a = 0 by omega]; rfl
theorem sumN_one (f : Nat → Int) (a n : Nat) (h : a < n) : sumN (fun i => if i = a then f i else 0) n = f a := by
  rw [← sumR_one f a, ← sumN_pick f a (a + 1) n (by omega)]
  exact sumN_congr fun i _ => by
    by_cases h : i = a
    · rw [if_pos h, if_pos (by omega)]
    · rw [if_neg h, if_neg (by omega)]
theorem sumN_swap (f : Nat → Nat → Int) (W H : Nat) : sumN (fun y => sumN (fun x => f x y) W) H = sumN (fun x => sumN (fun y => f x y) H) W := by
  induction H with
  | zero => exact (sumN_zero fun _ _ => rfl).symm
  | succ H ih =>
    rw [sumN, ih]
    have : ∀ n, sumN (fun x => sumN (fun y => f x y) H) n + sumN (fun x => f x H) n = sumN (fun x => sumN (fun y => f x y) (H + 1)) n := by
      intro n
      induction n with
      | zero => rfl
      | succ n ihn => rw [sumN, sumN, sumN, ← ihn, sumN]; omega
    exact this W
/-- The pixel of a place. -/
def pxN (W : Nat) (zs : List Int) (x y : Nat) : Int := zs[y * W + x]?.getD 0
/-- The sum of a rectangle. -/
def boxN (W : Nat) (zs : List Int) (x0 y0 x1 y1 : Nat) : Int := sumR (fun y => sumR (fun x => pxN W zs x y) x0 x1) y0 y1
theorem divmod_place {W x y : Nat} (h : x < W) : (y * W + x) % W = x ∧ (y * W + x) / W = y := by
  constructor
  · rw [Nat.mul_comm, Nat.mul_add_mod, Nat.mod_eq_of_lt h]
  · rw [Nat.mul_comm, Nat.mul_add_div (by omega), Nat.div_eq_of_lt h, Nat.add_zero]
theorem box_step (W : Nat) (zs : List Int) (x y : Nat) : boxN W zs 0 0 (x + 1) (y + 1) = pxN W zs x y + boxN W zs 0 0 x (y + 1) + boxN W zs 0 0 (x + 1) y - boxN W zs 0 0 x y := by
  unfold boxN
  rw [sumR_succ _ (Nat.zero_le y), sumR_succ _ (Nat.zero_le y), sumR_succ _ (Nat.zero_le x)]
  omega
theorem box_x0 (W : Nat) (zs : List Int) (y : Nat) : boxN W zs 0 0 0 y = 0 := by
  unfold boxN; rw [sumR_zero]; exact sumN_zero fun i _ => sumR_self _ _
theorem box_y0 (W : Nat) (zs : List Int) (x : Nat) : boxN W zs 0 0 x 0 = 0 := by unfold boxN; exact sumR_self _ _
end Go.Proofs.Ytghmjdmiaajbnaa
/-
  Layer 2: two convolutions are one: the plain mathematics.
-/
namespace Go.Proofs.Ytghmjdmiaajbnaa
open Go.RowKit
set_option linter.unusedVariables false
set_option linter.unusedSimpArgs false

/-- The sum of numbers of a list, each times what a function says of its index. -/
def linF (f : Nat → Int) (ls : List Int) : Int := sumN (fun k => ls[k]?.getD 0 * f k) ls.length
theorem sumN_plus (f g : Nat → Int) (n : Nat) : sumN (fun i => f i + g i) n = sumN f n + sumN g n := by
  induction n with
  | zero => rfl
  | succ n ih => simp only [sumN]; rw [ih]; omega
theorem sumN_scale (c : Int) (f : Nat → Int) (n : Nat) : sumN (fun i => c * f i) n = c * sumN f n := by
  induction n with
  | zero => simp [sumN]
  | succ n ih => simp only [sumN]; rw [ih, Int.mul_add]
theorem linF_set (f : Nat → Int) (ls : List Int) (p : Nat) (t : Int) (hp : p < ls.length) : linF f (ls.set p (ls[p]?.getD 0 + t)) = linF f ls + t * f p := by
  unfold linF
  rw [List.length_set]
  have e : ∀ k, k < ls.length → (ls.set p (ls[p]?.getD 0 + t))[k]?.getD 0 * f k = ls[k]?.getD 0 * f k + (if k = p then t * f k else 0) := fun k hk => by
    by_cases h : k = p
    · subst h; rw [List.getElem?_set_self hk, Option.getD_some, if_pos rfl, Int.add_mul]
    · rw [List.getElem?_set_ne (fun e => h e.symm), if_neg h, Int.add_zero]
  rw [sumN_congr e, sumN_plus]
  congr 1
  exact sumN_one (fun k => t * f k) p ls.length hp
theorem linF_in (f : Nat → Int) {AW BW KW : Int} {xs ys : List Int} (i : Nat) (ls : List Int) (m : Nat) (h : ∀ j, j < m → cIdx AW BW KW i j < ls.length) :
    linF f (cIn AW BW KW xs ys i ls m) = linF f ls + sumN (fun j => xs[i]?.getD 0 * ys[j]?.getD 0 * f (cIdx AW BW KW i j)) m := by
  induction m with
  | zero => simp [cIn, sumN]
  | succ m ih =>
    unfold cIn
    rw [linF_set _ _ _ _ (by rw [cIn_length]; exact h m (by omega)), ih (fun j hj => h j (by omega))]
    simp only [sumN]; omega
theorem linF_zero (f : Nat → Int) (M : Nat) : linF f (List.replicate M 0) = 0 := by
  unfold linF
  refine sumN_zero fun k hk => ?_
  rw [List.length_replicate] at hk
  rw [List.getElem?_replicate, if_pos hk]; simp
theorem linF_out (f : Nat → Int) {AW BW KW : Int} {xs ys : List Int} (M mb n : Nat) (h : ∀ i j, i < n → j < mb → cIdx AW BW KW i j < M) :
    linF f (cOut AW BW KW xs ys M mb n) = sumN (fun i => sumN (fun j => xs[i]?.getD 0 * ys[j]?.getD 0 * f (cIdx AW BW KW i j)) mb) n := by
  induction n with
  | zero => exact linF_zero f M
  | succ n ih =>
    unfold cOut
    rw [linF_in f n _ mb (fun j hj => by rw [cOut_length]; exact h n j (by omega) hj), ih (fun i j hi hj => h i j (by omega) hj)]
    rfl
/-- One number of a list, as such a sum. -/
theorem linF_delta (ls : List Int) (k : Nat) (hk : k < ls.length) : linF (fun p => if p = k then 1 else 0) ls = ls[k]?.getD 0 := by
  unfold linF
  have e : ∀ p, p < ls.length → ls[p]?.getD 0 * (if p = k then 1 else 0) = if p = k then ls[p]?.getD 0 else 0 := fun p _ => by
    by_cases h : p = k
    · rw [if_pos h, if_pos h, Int.mul_one]
    · rw [if_neg h, if_neg h, Int.mul_zero]
  rw [sumN_congr e]
  exact sumN_one (fun p => ls[p]?.getD 0) k ls.length hk
/-- Of a sum over indices with different places at most one counts at a place. -/
theorem sum_hit {B : Int} (hB : 0 ≤ B) (g : Nat → Int) (p : Nat → Nat) (k : Nat) (n : Nat) (hg : ∀ j, j < n → -B ≤ g j ∧ g j ≤ B) (hp : ∀ i j, i < n → j < n → p i = p j → i = j) :
    ((∀ j, j < n → p j ≠ k) → sumN (fun j => if p j = k then g j else 0) n = 0) ∧ (-B ≤ sumN (fun j => if p j = k then g j else 0) n ∧ sumN (fun j => if p j = k then g j else 0) n ≤ B) := by
  induction n with
  | zero => exact ⟨fun _ => rfl, by simp [sumN]; omega⟩
  | succ n ih =>
    obtain ⟨i1, i2⟩ := ih (fun j hj => hg j (by omega)) (fun i j hi hj => hp i j (by omega) (by omega))
    simp only [sumN]
    by_cases h : p n = k
    · have hz := i1 (fun j hj e => by have := hp j n (by omega) (by omega) (by rw [e, h]); omega)
      rw [hz, if_pos h]
      exact ⟨fun hno => absurd h (hno n (by omega)), by have := hg n (by omega); omega⟩
    · rw [if_neg h]
      exact ⟨fun hno => by rw [i1 (fun j hj => hno j (by omega))]; rfl, by omega⟩
theorem kn_len {AW AH : Int} {xs : List Int} (hA : okKn AW AH xs) : (xs.length : Int) = AW * AH ∧ xs.length ≤ 25 := by
  have h1 := kn_sides hA.1.1; have h2 := kn_sides hA.1.2
  have := Int.mul_le_mul h1.2 h2.2 (by omega) (by omega)
  exact ⟨hA.2.1, by have := hA.2.1; omega⟩
theorem cIdx_val {AW AH BW BH : Int} {xs ys : List Int} (hA : okKn AW AH xs) (hB : okKn BW BH ys) (h5 : AW + BW - 1 ≤ 5) (h6 : AH + BH - 1 ≤ 5) {i j : Nat} (hi : i < xs.length) (hj : j < ys.length) :
    cIdx AW BW (AW + BW - 1) i j < ((AW + BW - 1) * (AH + BH - 1)).toNat ∧ ((cIdx AW BW (AW + BW - 1) i j : Nat) : Int) % (AW + BW - 1) = (i : Int) % AW + (j : Int) % BW ∧ ((cIdx AW BW (AW + BW - 1) i j : Nat) : Int) / (AW + BW - 1) = (i : Int) / AW + (j : Int) / BW := by
  have lA := kn_len hA; have lB := kn_len hB
  obtain ⟨q1, r1, q2, r2, s1, m1, m2, ⟨e1, e2, e3, e4⟩, ⟨f1, f2, f3, f4⟩, -, g2, -, g4, -, -, -, hlt⟩ := cIdx_facts (kn_sides hA.1.1) (kn_sides hA.1.2) (kn_sides hB.1.1) (kn_sides hB.1.2) rfl rfl h5 h6 i j (by omega) (by omega)
  have a4 := Int.emod_lt_of_pos (i : Int) (show 0 < AW by have := kn_sides hA.1.1; omega)
  have b4 := Int.emod_lt_of_pos (j : Int) (show 0 < BW by have := kn_sides hB.1.1; omega)
  have hc : ((cIdx AW BW (AW + BW - 1) i j : Nat) : Int) = (r1 + r2) + s1 * (AW + BW - 1) := by rw [f2]; omega
  have hK : 0 < AW + BW - 1 := by have := kn_sides hA.1.1; have := kn_sides hB.1.1; omega
  refine ⟨by omega, ?_, ?_⟩
  · rw [hc, Int.add_mul_emod_self_right, Int.emod_eq_of_lt (by omega) (by omega)]; omega
  · rw [hc, Int.add_mul_ediv_right _ _ (by omega), Int.ediv_eq_zero_of_lt (by omega) (by omega)]; omega
theorem cIdx_swap (AW BW : Int) (i j : Nat) : cIdx AW BW (AW + BW - 1) i j = cIdx BW AW (BW + AW - 1) j i := by
  unfold cIdx
  rw [show BW + AW - 1 = AW + BW - 1 by omega, show (j : Int) / BW + (i : Int) / AW = (i : Int) / AW + (j : Int) / BW by omega]
  omega
/-- The numbers of a composition, before they are brought into their range. -/
theorem cOut_get {AW AH BW BH : Int} {xs ys : List Int} (hA : okKn AW AH xs) (hB : okKn BW BH ys) (h5 : AW + BW - 1 ≤ 5) (h6 : AH + BH - 1 ≤ 5) (k : Nat) (hk : k < ((AW + BW - 1) * (AH + BH - 1)).toNat) :
    (cOut AW BW (AW + BW - 1) xs ys ((AW + BW - 1) * (AH + BH - 1)).toNat ys.length xs.length)[k]?.getD 0 = sumN (fun i => sumN (fun j => if cIdx AW BW (AW + BW - 1) i j = k then xs[i]?.getD 0 * ys[j]?.getD 0 else 0) ys.length) xs.length := by
  rw [← linF_delta _ k (by rw [cOut_length]; exact hk), linF_out _ _ _ _ (fun i j hi hj => (cIdx_val hA hB h5 h6 hi hj).1)]
  refine sumN_congr fun i _ => sumN_congr fun j _ => ?_
  by_cases h : cIdx AW BW (AW + BW - 1) i j = k
  · rw [if_pos h, if_pos h, Int.mul_one]
  · rw [if_neg h, if_neg h, Int.mul_zero]
theorem comp_swap {AW AH BW BH : Int} {xs ys : List Int} (hA : okKn AW AH xs) (hB : okKn BW BH ys) (h5 : AW + BW - 1 ≤ 5) (h6 : AH + BH - 1 ≤ 5) : compK BW BH AW AH ys xs = compK AW AH BW BH xs ys := by
  have hM : ((BW + AW - 1) * (BH + AH - 1)).toNat = ((AW + BW - 1) * (AH + BH - 1)).toNat := by rw [show BW + AW - 1 = AW + BW - 1 by omega, show BH + AH - 1 = AH + BH - 1 by omega]
  unfold compK
  congr 1
  apply List.ext_getElem (by rw [cOut_length, cOut_length, hM])
  intro k k1 k2
  rw [cOut_length] at k1 k2
  have g1 := cOut_get hB hA (by omega) (by omega) k k1
  have g2 := cOut_get hA hB h5 h6 k k2
  rw [List.getElem?_eq_getElem (by rw [cOut_length]; exact k1), Option.getD_some] at g1
  rw [List.getElem?_eq_getElem (by rw [cOut_length]; exact k2), Option.getD_some] at g2
  rw [g1, g2, sumN_swap (fun j i => if cIdx BW AW (BW + AW - 1) i j = k then ys[i]?.getD 0 * xs[j]?.getD 0 else 0)]
  refine sumN_congr fun i _ => sumN_congr fun j _ => ?_
  rw [← cIdx_swap AW BW i j, Int.mul_comm]
theorem modN.list {ks : List Int} {M : Int} {m : Nat} (h : modN ks M m) (hm : ks.length = m) (hM : 0 ≤ M) (k : Nat) : -M ≤ ks[k]?.getD 0 ∧ ks[k]?.getD 0 ≤ M := h.at hm hM k
theorem comp_small {AW AH BW BH : Int} {xs ys : List Int} (hA : okKn AW AH xs) (hB : okKn BW BH ys) (h5 : AW + BW - 1 ≤ 5) (h6 : AH + BH - 1 ≤ 5) (sA : modN xs 50 xs.length) (sB : modN ys 50 ys.length) :
    compK AW AH BW BH xs ys = cOut AW BW (AW + BW - 1) xs ys ((AW + BW - 1) * (AH + BH - 1)).toNat ys.length xs.length ∧ modN (compK AW AH BW BH xs ys) 62500 ((AW + BW - 1) * (AH + BH - 1)).toNat := by
  have hb : ∀ k, k < ((AW + BW - 1) * (AH + BH - 1)).toNat → -62500 ≤ (cOut AW BW (AW + BW - 1) xs ys ((AW + BW - 1) * (AH + BH - 1)).toNat ys.length xs.length)[k]?.getD 0 ∧ (cOut AW BW (AW + BW - 1) xs ys ((AW + BW - 1) * (AH + BH - 1)).toNat ys.length xs.length)[k]?.getD 0 ≤ 62500 := fun k hk => by
    rw [cOut_get hA hB h5 h6 k hk]
    have h1 := sumN_bd (f := fun i => sumN (fun j => if cIdx AW BW (AW + BW - 1) i j = k then xs[i]?.getD 0 * ys[j]?.getD 0 else 0) ys.length) (n := xs.length) (B := 2500) (fun i hi => (sum_hit (B := 2500) (by omega) (fun j => xs[i]?.getD 0 * ys[j]?.getD 0) (fun j => cIdx AW BW (AW + BW - 1) i j) k ys.length (fun j hj => by have := mul_bd (sA i hi) (sB j hj); omega) (fun p q hp hq e => by
      have e1 := (cIdx_val hA hB h5 h6 hi hp).2; have e2 := (cIdx_val hA hB h5 h6 hi hq).2
      have e : cIdx AW BW (AW + BW - 1) i p = cIdx AW BW (AW + BW - 1) i q := e
      rw [e] at e1
      have d1 := Int.mul_ediv_add_emod (p : Int) BW; have d2 := Int.mul_ediv_add_emod (q : Int) BW
      rw [show (p : Int) % BW = (q : Int) % BW by omega, show (p : Int) / BW = (q : Int) / BW by omega] at d1
      omega)).2)
    have lA := kn_len hA
    omega
  have he : compK AW AH BW BH xs ys = cOut AW BW (AW + BW - 1) xs ys ((AW + BW - 1) * (AH + BH - 1)).toNat ys.length xs.length := by
    unfold compK
    conv => rhs; rw [← List.map_id (cOut AW BW (AW + BW - 1) xs ys ((AW + BW - 1) * (AH + BH - 1)).toNat ys.length xs.length)]
    refine List.map_congr_left fun z hz => ?_
    obtain ⟨k, hk, rfl⟩ := List.getElem_of_mem hz
    rw [cOut_length] at hk
    have := hb k hk
    rw [List.getElem?_eq_getElem (by rw [cOut_length]; exact hk), Option.getD_some] at this
    show inR _ _ _ = id _
    simp only [id]
    unfold inR; omega
  exact ⟨he, fun k hk => by rw [he]; exact hb k hk⟩
theorem pix_made2 {W H : Int} (V : Nat → Int) (n : Nat) (hW : okS W) (hH : okS H) (hN : W * H = (n : Int)) {x y : Int} (hp : inP W H x y) (F : Int → Int → Int) (hF : ∀ k : Nat, V k = F ((k : Int) % W) ((k : Int) / W)) : pixAt W (made n V) x y = F x y := by
  obtain ⟨p, hlt, e1, e2, e3⟩ := place_of hW hH hp
  rw [px_of (H := H) e3, made_get (by omega), Option.getD_some, hF, e1, e2]
/-- An image that goes on without end, and its convolution at a place. -/
def per (W H : Int) (zs : List Int) (x y : Int) : Int := pixAt W zs (x % W) (y % H)
theorem bey_per {W H : Int} {zs : List Int} (hI : okI W H zs) (x y : Int) : bey 3 W H zs x y = per W H zs x y := by
  unfold bey per
  by_cases hp : inP W H x y
  · rw [if_pos hp]
    obtain ⟨⟨a, b⟩, c, d⟩ := hp
    rw [Int.emod_eq_of_lt a b, Int.emod_eq_of_lt c d]
  · rw [if_neg hp, if_neg (by decide), if_neg (by decide)]
def cvP (W H : Int) (zs : List Int) (KW KH : Int) (ks : List Int) (m : Nat) (x y : Int) : Int := sumN (fun k => ks[k]?.getD 0 * per W H zs (x - ((k : Int) % KW - KW / 2)) (y - ((k : Int) / KW - KH / 2))) m
theorem cvN_per {W H : Int} {zs : List Int} (hI : okI W H zs) (KW KH : Int) (ks : List Int) (x y : Int) (m : Nat) : cvN 3 W H zs KW KH ks x y m = cvP W H zs KW KH ks m x y := by
  induction m with
  | zero => rfl
  | succ m ih => unfold cvN cvT cvP; rw [ih, bey_per hI]; rfl
theorem per_mod {W H : Int} (zs : List Int) (x y dx dy : Int) : per W H zs (x % W - dx) (y % H - dy) = per W H zs (x - dx) (y - dy) := by
  unfold per
  rw [Int.emod_sub_emod, Int.emod_sub_emod]
theorem cvP_mod {W H : Int} (zs : List Int) (KW KH : Int) (ks : List Int) (m : Nat) (x y : Int) : cvP W H zs KW KH ks m (x % W) (y % H) = cvP W H zs KW KH ks m x y := by
  unfold cvP
  exact sumN_congr fun k _ => by rw [per_mod]
theorem mod_in {W H : Int} (hW : okS W) (hH : okS H) (x y : Int) : inP W H (x % W) (y % H) := by
  obtain ⟨w0, w1⟩ := hW; obtain ⟨h0, h1⟩ := hH
  exact ⟨⟨Int.emod_nonneg _ (by omega), Int.emod_lt_of_pos _ (by omega)⟩, Int.emod_nonneg _ (by omega), Int.emod_lt_of_pos _ (by omega)⟩
/-- A convolution whose values stay in their range, read at any place. -/
theorem per_cvL {W H SW SH : Int} {zs bs : List Int} {m n : Nat} (hI : okI W H zs) (hn : zs.length = n) (hb : ∀ x y, okV (cvP W H zs SW SH bs m x y)) (x y : Int) : per W H (cvL 3 W H SW SH bs m n zs) x y = cvP W H zs SW SH bs m x y := by
  have hp := mod_in hI.1.1 hI.1.2 x y
  have hN : W * H = (n : Int) := by rw [← hn]; exact hI.2.1.symm
  unfold per cvL
  rw [pix_made2 _ n hI.1.1 hI.1.2 hN hp (fun x y => inR (cvN 3 W H zs SW SH bs x y m) (-2147483648) 2147483648) (fun _ => rfl), cvN_per hI, cvP_mod, inR_ok (hb x y)]
theorem per_bd {W H A : Int} {zs : List Int} {n : Nat} (hz : modN zs A n) (hn : zs.length = n) (hA : 0 ≤ A) (x y : Int) : -A ≤ per W H zs x y ∧ per W H zs x y ≤ A := hz.pix hn hA _ _
theorem cvP_bd {W H A B : Int} {zs ks : List Int} {n m : Nat} (KW KH : Int) (hp : ∀ x y, -A ≤ per W H zs x y ∧ per W H zs x y ≤ A) (hk : modN ks B m) (hA : 0 ≤ A) (hB : 0 ≤ B) (x y : Int) : -((m : Int) * (B * A)) ≤ cvP W H zs KW KH ks m x y ∧ cvP W H zs KW KH ks m x y ≤ (m : Int) * (B * A) :=
  sumN_bd fun k hk2 => mul_bd (hk k hk2) (hp _ _)
/-- Two convolutions are one, at each place. -/
theorem two_one {W H AW AH BW BH : Int} {zs xs ys : List Int} {n : Nat} (hI : okI W H zs) (hn : zs.length = n) (hA : okKn AW AH xs) (hB : okKn BW BH ys) (h5 : AW + BW - 1 ≤ 5) (h6 : AH + BH - 1 ≤ 5)
    (hz : modN zs 1000 n) (sA : modN xs 50 xs.length) (sB : modN ys 50 ys.length) :
    cvL 3 W H BW BH ys ys.length n (cvL 3 W H AW AH xs xs.length n zs) = cvL 3 W H (AW + BW - 1) (AH + BH - 1) (compK AW AH BW BH xs ys) ((AW + BW - 1) * (AH + BH - 1)).toNat n zs := by
  have lA := kn_len hA; have lB := kn_len hB
  have b1 : ∀ x y, -1250000 ≤ cvP W H zs AW AH xs xs.length x y ∧ cvP W H zs AW AH xs xs.length x y ≤ 1250000 := fun x y => by
    have := cvP_bd (n := n) AW AH (per_bd (W := W) (H := H) hz hn (by omega)) sA (by omega) (by omega) x y; omega
  have ho1 : ∀ x y, okV (cvP W H zs AW AH xs xs.length x y) := fun x y => by have := b1 x y; unfold okV; omega
  have hI1 := cvL_ok (j := 3) (SW := AW) (SH := AH) (bs := xs) (m := xs.length) hI hn
  obtain ⟨ec, -⟩ := comp_small hA hB h5 h6 sA sB
  have oa : AW / 2 + BW / 2 = (AW + BW - 1) / 2 := by have := hA.1.1; have := hB.1.1; unfold okK at *; omega
  have ob : AH / 2 + BH / 2 = (AH + BH - 1) / 2 := by have := hA.1.2; have := hB.1.2; unfold okK at *; omega
  unfold cvL made
  refine List.map_congr_left fun k hk => ?_
  congr 1
  have e1 := cvN_per hI1 BW BH ys ((k : Int) % W) ((k : Int) / W) ys.length
  unfold cvL made at e1
  rw [e1, cvN_per hI]
  obtain ⟨x, hx⟩ : ∃ x, (k : Int) % W = x := ⟨_, rfl⟩
  obtain ⟨y, hy⟩ : ∃ y, (k : Int) / W = y := ⟨_, rfl⟩
  rw [hx, hy]
  have e2 : cvP W H zs (AW + BW - 1) (AH + BH - 1) (compK AW AH BW BH xs ys) ((AW + BW - 1) * (AH + BH - 1)).toNat x y = linF (fun k => per W H zs (x - ((k : Int) % (AW + BW - 1) - (AW + BW - 1) / 2)) (y - ((k : Int) / (AW + BW - 1) - (AH + BH - 1) / 2))) (cOut AW BW (AW + BW - 1) xs ys ((AW + BW - 1) * (AH + BH - 1)).toNat ys.length xs.length) := by
    rw [ec]; unfold cvP linF; rw [cOut_length]
  rw [e2, linF_out _ _ _ _ (fun i j hi hj => (cIdx_val hA hB h5 h6 hi hj).1), sumN_swap (fun j i => xs[i]?.getD 0 * ys[j]?.getD 0 * per W H zs (x - (((cIdx AW BW (AW + BW - 1) i j : Nat) : Int) % (AW + BW - 1) - (AW + BW - 1) / 2)) (y - (((cIdx AW BW (AW + BW - 1) i j : Nat) : Int) / (AW + BW - 1) - (AH + BH - 1) / 2)))]
  show sumN _ _ = _
  refine sumN_congr fun j hj => ?_
  have e3 := per_cvL (SW := AW) (SH := AH) (bs := xs) (m := xs.length) hI hn ho1 (x - ((j : Int) % BW - BW / 2)) (y - ((j : Int) / BW - BH / 2))
  unfold cvL made at e3
  rw [e3]
  unfold cvP
  rw [← sumN_scale]
  refine sumN_congr fun i hi => ?_
  obtain ⟨-, v1, v2⟩ := cIdx_val hA hB h5 h6 hi hj
  rw [v1, v2, show x - ((j : Int) % BW - BW / 2) - ((i : Int) % AW - AW / 2) = x - ((i : Int) % AW + (j : Int) % BW - (AW + BW - 1) / 2) by omega, show y - ((j : Int) / BW - BH / 2) - ((i : Int) / AW - AH / 2) = y - ((i : Int) / AW + (j : Int) / BW - (AH + BH - 1) / 2) by omega, Int.mul_comm (xs[i]?.getD 0) (ys[j]?.getD 0), Int.mul_assoc]
end Go.Proofs.Ytghmjdmiaajbnaa
