/-
  The texts that the laws of this seat share, merged: part 13.
-/
import Derived.BigQuiet
import Derived.Carry
import Derived.Deep.CutRange
import Derived.Deep.DeepCutAuto
import Derived.Deep.Draws
import Derived.Deep.LoopGhost
import Derived.Deep.OwnRows
import Derived.Deep.QuietTactic
import Derived.Deep.RegionHeld3
import Derived.Laws.AppendOwn
import Derived.Laws.EntriesVeiled
import Derived.Laws.StructEq
import Derived.Lib.Hide
import Derived.LoopIn
import Derived.LoopNIn
import Derived.MapKept
import Derived.Maps.AppendAt
import Derived.OneCell
import Derived.Orders
import Derived.OwnWalkIn
import Derived.RangeFuncBound
import Derived.RangeFuncCalls
import Derived.RangeFuncLeaves
import Derived.RangeFuncNested
import Derived.Shelf.Abstract
import Derived.Shelf.AbstractIn
import Derived.Shelf.RegionOpen
import Derived.StillTailTactics
import Derived.TacticsIn
import Derived.TacticsInMore
import Derived.Test.YtghmjdmiaajbnaaProg
import Derived.WalkKit
import Derived.WalkSmall
import Derived.WalkSpells
import Derived.WideLaws
import Derived.Test.YtghmjdmiaajbnaaM7
import Derived.Test.YtghmjdmiaajbnaaM8
import Derived.Test.YtghmjdmiaajbnaaM10
import Derived.Test.YtghmjdmiaajbnaaM11
import Derived.Test.YtghmjdmiaajbnaaM12
/-
  Layer 2: Convolve, by the code.
-/
namespace Go.Proofs.Ytghmjdmiaajbnaa
open Go.RowKit
set_option linter.unusedVariables false
set_option linter.unusedSimpArgs false

theorem ikv_ok {SW SH : Int} {bs : List Int} (h : okKn SW SH bs) (a' : Option Addr) (m c' : Nat) (hn : m ≤ maxLen) (w : World) (hR : Row w a' m (iv bs)) :
    Calls Try.prog 60 #[.agg #[.int .i64 SW, .int .i64 SH, .slice a' m c']] w fun e w' => e = .returned (.bool true) ∧ Below w.heap.size w w' := by
  have := isKernel_any SW SH a' m c' bs hn w hR; rw [decide_eq_true h] at this; exact this
theorem look_yes (j : Int) (hj : j = 1 ∨ j = 2 ∨ j = 3) (w : World) (r : Nat) (hm : w.heap[r]? = some (.map brds 3)) :
    (Instr.lookup 93 (.map (some r)) (.int .u8 j) true).run Try.prog w = .ok (.tuple #[.func (.func (brdF j)) #[] #[], .bool true]) w := by
  have ht : Try.prog.underlying 93 = some (.map 5 91) := Try.underlying93
  have hk : Try.prog.underlying 5 = some (.int .u8) := Try.underlying5
  rcases hj with rfl | rfl | rfl
  · exact look_run _ _ _ ht hk w r brds 3 1 0 _ hm rfl
  · exact look_run _ _ _ ht hk w r brds 3 2 1 _ hm rfl
  · exact look_run _ _ _ ht hk w r brds 3 3 2 _ hm rfl
theorem brdF_in (j : Int) (hj : j = 1 ∨ j = 2 ∨ j = 3) : ∀ args w, (callFunc (brdF j) args).run Try.prog w = .ok (.enter (brdF j) args) w := by
  rcases hj with rfl | rfl | rfl
  · exact enters_of Try.func104 (by kernel_rfl) rfl
  · exact enters_of Try.func105 (by kernel_rfl) rfl
  · exact enters_of Try.func106 (by kernel_rfl) rfl
set_option maxRecDepth 100000 in
set_option maxHeartbeats 4000000 in
theorem convolve_ok (j W H SW SH : Int) (hj : j = 1 ∨ j = 2 ∨ j = 3) (a a' : Option Addr) (n c m c' : Nat) (zs bs : List Int) (hI : okI W H zs) (hS : okKn SW SH bs) (hn : n ≤ maxLen) (hm : m ≤ maxLen) (w : World) (hR : Row w a n (iv zs)) (hT : Row w a' m (iv bs)) :
    Calls Try.prog 20 #[.agg #[.int .i64 W, .int .i64 H, .slice a n c], .agg #[.int .i64 SW, .int .i64 SH, .slice a' m c'], .int .u8 j] w (RetI W H (made n fun k => inR (cvN j W H zs SW SH bs ((k : Int) % W) ((k : Int) / W) m) (-2147483648) 2147483648) 0 w) := by
  have HK := Lib.hid (icheck_ok hI a n c hn)
  have HL := Lib.hid (ikv_ok hS a' m c' hm)
  have HR := Lib.hid hR
  have HT := Lib.hid hT
  have hlen : zs.length = n := by have := hR.1; rwa [iv_length] at this
  have hN : W * H = (n : Int) := by rw [← hlen]; exact hI.2.1.symm
  have hW := hI.1.1
  have hH := hI.1.2
  have hmm := okS_mul hW hH
  have HI := Lib.hid hI
  have HS := Lib.hid hS
  have HN' := Lib.hid hN
  have HLK := Lib.hid (look_yes j hj)
  have HEF := Lib.hid (brdF_in j hj)
  have HF0 : Hid (∀ px py : Int, -64 ≤ px → px ≤ 64 → -64 ≤ py → py ≤ 64 → ∀ w, Row w a n (iv zs) → Calls Try.prog (brdF j) #[.agg #[.int .i64 W, .int .i64 H, .slice a n c], .agg #[.int .i64 px, .int .i64 py]] w fun e w' => e = .returned (.int .i64 (bey j W H zs px py)) ∧ Below w.heap.size w w') :=
    fun px py h1 h2 h3 h4 w hR => bey_any j W H px py hj a n c zs hI h1 h2 h3 h4 w hR
  obtain ⟨F, hF⟩ : ∃ F, brdF j = F := ⟨_, rfl⟩
  rw [hF] at HLK HEF HF0
  have hPL : ∀ k, k < n → (0 ≤ (k : Int) % W ∧ (k : Int) % W ≤ 16) ∧ 0 ≤ (k : Int) / W ∧ (k : Int) / W ≤ 16 := fun k hk => by
    have := place_in hW hH hN hk
    have h1 := hW.2; have h2 := hH.2
    omega
  have HPL := Lib.hid hPL
  clear hR hT hn hm hlen hN hI hS hF hj hPL
  go_enter Try.func20, Try.ntmps20
  go_upto_region 6 with (first
    | (go_at_call 51; (with_reducible refine (HK.out _ (HR.out.later (by (repeat' (first | (with_reducible exact Below.refl _ _) | (with_reducible assumption) | (with_reducible refine belowThru ?_ (by assumption)) | (with_reducible refine belowAlloc ?_) | (with_reducible refine Below.setCell ?_ (by first | omega | (simp; done) | (simp; omega)) _) | (with_reducible refine Below.drew ?_) | (with_reducible refine below_drewN ?_ _)))))).mono ?_); rintro e w1 ⟨rfl, hb⟩; (first | ((with_reducible have k0 := Blk.later hb (Blk.alloc (Blk.alloc (Blk.new rfl)))); (with_reducible have k1 := Blk.later hb (Blk.alloc (Blk.new rfl))); (with_reducible have k2 := Blk.later hb (Blk.new rfl)); simp only [World.size_alloc] at k1 k2; obtain ⟨a0, b0⟩ := k0.read; have zl := k0.lt; obtain ⟨a1, b1⟩ := k1.read; have zl := k1.lt; obtain ⟨a2, b2⟩ := k2.read; have zl := k2.lt) | ((try (have zk := k0.lt; (first | ((with_reducible refine Blk.keepG hb k0 (fun h => ?_) ?_); (focus ((repeat' (first | (with_reducible assumption) | ((with_reducible refine Blk.new ?_); first | rfl | (simp; done)) | (with_reducible refine Blk.later (by assumption) ?_) | (with_reducible refine Blk.alloc ?_) | (with_reducible refine Blk.drewN ?_) | (with_reducible refine Blk.drew ?_) | (with_reducible refine Blk.other ?_ (by first | omega | (simp; done) | (simp; omega))))); done)); clear k0; intro k0) | (with_reducible replace k0 := Blk.later hb (Blk.set (Blk.set k0))) | (with_reducible replace k0 := Blk.later hb (Blk.set k0))); clear a0 b0; obtain ⟨a0, b0⟩ := k0.read; have zl := k0.lt)); (try (have zk := k1.lt; (first | ((with_reducible refine Blk.keepG hb k1 (fun h => ?_) ?_); (focus ((repeat' (first | (with_reducible assumption) | ((with_reducible refine Blk.new ?_); first | rfl | (simp; done)) | (with_reducible refine Blk.later (by assumption) ?_) | (with_reducible refine Blk.alloc ?_) | (with_reducible refine Blk.drewN ?_) | (with_reducible refine Blk.drew ?_) | (with_reducible refine Blk.other ?_ (by first | omega | (simp; done) | (simp; omega))))); done)); clear k1; intro k1) | (with_reducible replace k1 := Blk.later hb (Blk.set (Blk.set k1))) | (with_reducible replace k1 := Blk.later hb (Blk.set k1))); clear a1 b1; obtain ⟨a1, b1⟩ := k1.read; have zl := k1.lt)); (try (have zk := k2.lt; (first | ((with_reducible refine Blk.keepG hb k2 (fun h => ?_) ?_); (focus ((repeat' (first | (with_reducible assumption) | ((with_reducible refine Blk.new ?_); first | rfl | (simp; done)) | (with_reducible refine Blk.later (by assumption) ?_) | (with_reducible refine Blk.alloc ?_) | (with_reducible refine Blk.drewN ?_) | (with_reducible refine Blk.drew ?_) | (with_reducible refine Blk.other ?_ (by first | omega | (simp; done) | (simp; omega))))); done)); clear k2; intro k2) | (with_reducible replace k2 := Blk.later hb (Blk.set (Blk.set k2))) | (with_reducible replace k2 := Blk.later hb (Blk.set k2))); clear a2 b2; obtain ⟨a2, b2⟩ := k2.read; have zl := k2.lt)); (try (have zk := k3.lt; (first | ((with_reducible refine Blk.keepG hb k3 (fun h => ?_) ?_); (focus ((repeat' (first | (with_reducible assumption) | ((with_reducible refine Blk.new ?_); first | rfl | (simp; done)) | (with_reducible refine Blk.later (by assumption) ?_) | (with_reducible refine Blk.alloc ?_) | (with_reducible refine Blk.drewN ?_) | (with_reducible refine Blk.drew ?_) | (with_reducible refine Blk.other ?_ (by first | omega | (simp; done) | (simp; omega))))); done)); clear k3; intro k3) | (with_reducible replace k3 := Blk.later hb (Blk.set (Blk.set k3))) | (with_reducible replace k3 := Blk.later hb (Blk.set k3))); clear a3 b3; obtain ⟨a3, b3⟩ := k3.read; have zl := k3.lt)))))
    | (go_at_call 60; (with_reducible refine (HL.out _ (HT.out.later (by (repeat' (first | (with_reducible exact Below.refl _ _) | (with_reducible assumption) | (with_reducible refine belowThru ?_ (by assumption)) | (with_reducible refine belowAlloc ?_) | (with_reducible refine Below.setCell ?_ (by first | omega | (simp; done) | (simp; omega)) _) | (with_reducible refine Below.drew ?_) | (with_reducible refine below_drewN ?_ _)))))).mono ?_); rintro e wK ⟨rfl, hb⟩; (try (have zk := k0.lt; (first | ((with_reducible refine Blk.keepG hb k0 (fun h => ?_) ?_); (focus ((repeat' (first | (with_reducible assumption) | ((with_reducible refine Blk.new ?_); first | rfl | (simp; done)) | (with_reducible refine Blk.later (by assumption) ?_) | (with_reducible refine Blk.alloc ?_) | (with_reducible refine Blk.drewN ?_) | (with_reducible refine Blk.drew ?_) | (with_reducible refine Blk.other ?_ (by first | omega | (simp; done) | (simp; omega))))); done)); clear k0; intro k0) | (with_reducible replace k0 := Blk.later hb (Blk.set (Blk.set k0))) | (with_reducible replace k0 := Blk.later hb (Blk.set k0))); clear a0 b0; obtain ⟨a0, b0⟩ := k0.read; have zl := k0.lt)); (try (have zk := k1.lt; (first | ((with_reducible refine Blk.keepG hb k1 (fun h => ?_) ?_); (focus ((repeat' (first | (with_reducible assumption) | ((with_reducible refine Blk.new ?_); first | rfl | (simp; done)) | (with_reducible refine Blk.later (by assumption) ?_) | (with_reducible refine Blk.alloc ?_) | (with_reducible refine Blk.drewN ?_) | (with_reducible refine Blk.drew ?_) | (with_reducible refine Blk.other ?_ (by first | omega | (simp; done) | (simp; omega))))); done)); clear k1; intro k1) | (with_reducible replace k1 := Blk.later hb (Blk.set (Blk.set k1))) | (with_reducible replace k1 := Blk.later hb (Blk.set k1))); clear a1 b1; obtain ⟨a1, b1⟩ := k1.read; have zl := k1.lt)); (try (have zk := k2.lt; (first | ((with_reducible refine Blk.keepG hb k2 (fun h => ?_) ?_); (focus ((repeat' (first | (with_reducible assumption) | ((with_reducible refine Blk.new ?_); first | rfl | (simp; done)) | (with_reducible refine Blk.later (by assumption) ?_) | (with_reducible refine Blk.alloc ?_) | (with_reducible refine Blk.drewN ?_) | (with_reducible refine Blk.drew ?_) | (with_reducible refine Blk.other ?_ (by first | omega | (simp; done) | (simp; omega))))); done)); clear k2; intro k2) | (with_reducible replace k2 := Blk.later hb (Blk.set (Blk.set k2))) | (with_reducible replace k2 := Blk.later hb (Blk.set k2))); clear a2 b2; obtain ⟨a2, b2⟩ := k2.read; have zl := k2.lt)); (try (have zk := k3.lt; (first | ((with_reducible refine Blk.keepG hb k3 (fun h => ?_) ?_); (focus ((repeat' (first | (with_reducible assumption) | ((with_reducible refine Blk.new ?_); first | rfl | (simp; done)) | (with_reducible refine Blk.later (by assumption) ?_) | (with_reducible refine Blk.alloc ?_) | (with_reducible refine Blk.drewN ?_) | (with_reducible refine Blk.drew ?_) | (with_reducible refine Blk.other ?_ (by first | omega | (simp; done) | (simp; omega))))); done)); clear k3; intro k3) | (with_reducible replace k3 := Blk.later hb (Blk.set (Blk.set k3))) | (with_reducible replace k3 := Blk.later hb (Blk.set k3))); clear a3 b3; obtain ⟨a3, b3⟩ := k3.read; have zl := k3.lt)); have hBK : Below w.heap.size w wK := by (repeat' (first | (with_reducible exact Below.refl _ _) | (with_reducible assumption) | (with_reducible refine belowThru ?_ (by assumption)) | (with_reducible refine belowAlloc ?_) | (with_reducible refine Below.setCell ?_ (by first | omega | (simp; done) | (simp; omega)) _) | (with_reducible refine Below.drew ?_) | (with_reducible refine below_drewN ?_ _)))))
  go_upto_region 7 with (go_at_call 61; (with_reducible refine (borders_any _).mono ?_); rintro e wM ⟨rm, rfl, hmap, hb⟩; (try (have zk := k0.lt; (first | ((with_reducible refine Blk.keepG hb k0 (fun h => ?_) ?_); (focus ((repeat' (first | (with_reducible assumption) | ((with_reducible refine Blk.new ?_); first | rfl | (simp; done)) | (with_reducible refine Blk.later (by assumption) ?_) | (with_reducible refine Blk.alloc ?_) | (with_reducible refine Blk.drewN ?_) | (with_reducible refine Blk.drew ?_) | (with_reducible refine Blk.other ?_ (by first | omega | (simp; done) | (simp; omega))))); done)); clear k0; intro k0) | (with_reducible replace k0 := Blk.later hb (Blk.set (Blk.set k0))) | (with_reducible replace k0 := Blk.later hb (Blk.set k0))); clear a0 b0; obtain ⟨a0, b0⟩ := k0.read; have zl := k0.lt)); (try (have zk := k1.lt; (first | ((with_reducible refine Blk.keepG hb k1 (fun h => ?_) ?_); (focus ((repeat' (first | (with_reducible assumption) | ((with_reducible refine Blk.new ?_); first | rfl | (simp; done)) | (with_reducible refine Blk.later (by assumption) ?_) | (with_reducible refine Blk.alloc ?_) | (with_reducible refine Blk.drewN ?_) | (with_reducible refine Blk.drew ?_) | (with_reducible refine Blk.other ?_ (by first | omega | (simp; done) | (simp; omega))))); done)); clear k1; intro k1) | (with_reducible replace k1 := Blk.later hb (Blk.set (Blk.set k1))) | (with_reducible replace k1 := Blk.later hb (Blk.set k1))); clear a1 b1; obtain ⟨a1, b1⟩ := k1.read; have zl := k1.lt)); (try (have zk := k2.lt; (first | ((with_reducible refine Blk.keepG hb k2 (fun h => ?_) ?_); (focus ((repeat' (first | (with_reducible assumption) | ((with_reducible refine Blk.new ?_); first | rfl | (simp; done)) | (with_reducible refine Blk.later (by assumption) ?_) | (with_reducible refine Blk.alloc ?_) | (with_reducible refine Blk.drewN ?_) | (with_reducible refine Blk.drew ?_) | (with_reducible refine Blk.other ?_ (by first | omega | (simp; done) | (simp; omega))))); done)); clear k2; intro k2) | (with_reducible replace k2 := Blk.later hb (Blk.set (Blk.set k2))) | (with_reducible replace k2 := Blk.later hb (Blk.set k2))); clear a2 b2; obtain ⟨a2, b2⟩ := k2.read; have zl := k2.lt)); (try (have zk := k3.lt; (first | ((with_reducible refine Blk.keepG hb k3 (fun h => ?_) ?_); (focus ((repeat' (first | (with_reducible assumption) | ((with_reducible refine Blk.new ?_); first | rfl | (simp; done)) | (with_reducible refine Blk.later (by assumption) ?_) | (with_reducible refine Blk.alloc ?_) | (with_reducible refine Blk.drewN ?_) | (with_reducible refine Blk.drew ?_) | (with_reducible refine Blk.other ?_ (by first | omega | (simp; done) | (simp; omega))))); done)); clear k3; intro k3) | (with_reducible replace k3 := Blk.later hb (Blk.set (Blk.set k3))) | (with_reducible replace k3 := Blk.later hb (Blk.set k3))); clear a3 b3; obtain ⟨a3, b3⟩ := k3.read; have zl := k3.lt)); have hBM : Below w.heap.size w wM := (by (repeat' (first | (with_reducible exact Below.refl _ _) | (with_reducible assumption) | (with_reducible refine belowThru ?_ (by assumption)) | (with_reducible refine belowAlloc ?_) | (with_reducible refine Below.setCell ?_ (by first | omega | (simp; done) | (simp; omega)) _) | (with_reducible refine Below.drew ?_) | (with_reducible refine below_drewN ?_ _)))); have hlk := HLK.out wM rm hmap; clear hmap hb)
  go_upto_region 9 with fail
  obtain ⟨W9, hW9⟩ : ∃ W9, wM.alloc (.cells #[.func (.func F) #[] #[]] 91) = W9 := ⟨_, rfl⟩
  have k3 : Blk W9 wM.heap.size #[.func (.func F) #[] #[]] 91 := by rw [← hW9]; exact Blk.new rfl
  replace k0 : Blk W9 w.heap.size #[.int .i64 W, .int .i64 H, .slice a n c] 24 := by rw [← hW9]; exact k0.alloc
  replace k1 : Blk W9 (w.heap.size + 1) #[.int .i64 SW, .int .i64 SH, .slice a' m c'] 36 := by rw [← hW9]; exact k1.alloc
  replace k2 : Blk W9 (w.heap.size + 1 + 1) #[.int .i64 0, .int .i64 0, .slice none 0 0] 24 := by rw [← hW9]; exact k2.alloc
  have hB9 : Below w.heap.size w W9 := by rw [← hW9]; exact belowAlloc hBM
  rw [hW9]
  clear hW9 hBM hlk a0 b0 a1 b1 a2 b2
  obtain ⟨a0, b0⟩ := k0.read; obtain ⟨a1, b1⟩ := k1.read; obtain ⟨a2, b2⟩ := k2.read; obtain ⟨a3, b3⟩ := k3.read
  have zl9 := k2.lt
  have HV := Lib.hid (fun (k : Nat) (hk : k < n) W1 (hW1 : Below W9.heap.size W9 W1) => (callsIn_wide (n := 9)).1 (conv_in 9 (by omega) j W H SW SH ((k : Int) % W) ((k : Int) / W) F a a' n c m c' zs bs HI.out HS.out (HPL.out k hk).1.1 (HPL.out k hk).1.2 (HPL.out k hk).2.1 (HPL.out k hk).2.2 (w.heap.size + 1) wM.heap.size w.heap.size W1 (HR.out.later (hB9.trans (hW1.mono hB9.size))) (HT.out.later (hB9.trans (hW1.mono hB9.size))) (Blk.later hW1 k1) (Blk.later hW1 k3) (Blk.later hW1 k0) HEF.out HF0))
  have HB := Lib.hid (build_any W H n 62 #[.pointer (some ⟨w.heap.size + 1, 0, none⟩), .pointer (some ⟨wM.heap.size, 0, none⟩), .pointer (some ⟨w.heap.size, 0, none⟩)] (fun k => cvN j W H zs SW SH bs ((k : Int) % W) ((k : Int) / W) m) HN'.out hW.1 hW.2 hH.1 hH.2 (by have := HN'.out; omega) (enters_of Try.func62 (by kernel_rfl) rfl) _ HV)
  clear HV
  go_wp2_with (go_at_call 53; (with_reducible refine (HB.out).mono ?_); rintro e w2 ⟨B, rfl, hB0, kB, hb⟩; (replace kB : Blk w2 B (ints (made n fun k => inR (cvN j W H zs SW SH bs ((k : Int) % W) ((k : Int) / W) m) (-2147483648) 2147483648)) 3 := kB); (with_reducible replace k2 := Blk.later hb k2); clear a2 b2; obtain ⟨a2, b2⟩ := k2.read; have zk2 := k2.lt; have hBF : Below w.heap.size w w2 := hB9.trans (hb.mono hB9.size))
  exact bodyPost_ret (v := .tuple #[.agg #[.int .i64 W, .int .i64 H, .slice (some ⟨B, 0, none⟩) n n], .int .i64 0]) (by simp only [results, Try.results20]; go_simp) rfl (RetI.made (made_length _ _) (by omega) (by (repeat' (first | (with_reducible assumption) | ((with_reducible refine Blk.new ?_); first | rfl | (simp; done)) | (with_reducible refine Blk.later (by assumption) ?_) | (with_reducible refine Blk.alloc ?_) | (with_reducible refine Blk.drewN ?_) | (with_reducible refine Blk.drew ?_) | (with_reducible refine Blk.other ?_ (by first | omega | (simp; done) | (simp; omega)))))) (by (repeat' (first | (with_reducible exact Below.refl _ _) | (with_reducible assumption) | (with_reducible refine belowThru ?_ (by assumption)) | (with_reducible refine belowAlloc ?_) | (with_reducible refine Below.setCell ?_ (by first | omega | (simp; done) | (simp; omega)) _) | (with_reducible refine Below.drew ?_) | (with_reducible refine below_drewN ?_ _)))))
end Go.Proofs.Ytghmjdmiaajbnaa
/-
  Layer 2: dilated and eroded images, said outright; the statements' own examples of convolutions, shapes, turns, points and sums.
-/
namespace Go.Proofs.Ytghmjdmiaajbnaa
open Go.RowKit
set_option linter.unusedVariables false
set_option linter.unusedSimpArgs false

theorem dilate_ok (W H SW SH : Int) (a a' : Option Addr) (n c m c' : Nat) (zs : List Int) (bs : List Bool) (hI : okI W H zs) (hS : okSh SW SH bs) (hn : n ≤ maxLen) (hm : m ≤ maxLen) (w : World) (hR : Row w a n (iv zs)) (hT : Row w a' m (bv bs)) :
    Calls Try.prog 25 #[.agg #[.int .i64 W, .int .i64 H, .slice a n c], .agg #[.int .i64 SW, .int .i64 SH, .slice a' m c']] w (RetI W H (made n fun k => exD W H zs SW SH bs ((k : Int) % W) ((k : Int) / W) m) 0 w) := by
  have hl : zs.length = n := by have := hR.1; rwa [iv_length] at this
  have hN : W * H = (n : Int) := by rw [← hl]; exact hI.2.1.symm
  refine dilate_of W H SW SH _ _ _ _ a a' n c m c' zs bs w hR hT (Lib.hid (fun w hR hT => extremes_ok W H SW SH (-2147483648) 64 68 (fun p q => (if p < q then q else p)) (fun x y (k : Nat) => (x - ((k : Int) % SW - SW / 2))) (fun x y (k : Nat) => (y - ((k : Int) / SW - SH / 2))) (fun k => exD W H zs SW SH bs ((k : Int) % W) ((k : Int) / W) m) a a' n c m c' zs bs (fun (j : Nat) => stpD W H zs SW SH bs ((j : Int) % W) ((j : Int) / W)) hI hS hn hm w hR hT (enters_of Try.func64 (by kernel_rfl) rfl) (enters_of Try.func68 (by kernel_rfl) rfl) ?_ (Lib.hid (fun p q w => dilate1_any p q w)) ?_ ?_ ?_))
  · refine Lib.hid (fun j hj k hk w => ?_)
    have hp := place_in hI.1.1 hI.1.2 hN hj
    have h1 := hI.1.1.2; have h2 := hI.1.2.2
    have s1 : 1 ≤ SW ∧ SW ≤ 5 := by have := hS.1.1; unfold okK at this; omega
    have s2 : 1 ≤ SH ∧ SH ≤ 5 := by have := hS.1.2; unfold okK at this; omega
    have hb : bs.length = m := by have := hT.1; rwa [bv_length] at this
    have hm2 : m ≤ 25 := by have := okK_mul hS.1.1 hS.1.2; have := hS.2.1; omega
    have := small_div k SW s1.1 (by omega)
    exact minus_any _ _ _ _ (by omega) (by omega) (by omega) (by omega) w
  · exact Lib.hid (fun j p k h1 h2 => if_pos ⟨by rw [h1]; rfl, h2⟩)
  · exact Lib.hid (fun j p k h => if_neg (fun ⟨h1, h2⟩ => h.elim (fun e => by rw [e] at h1; cases h1) (fun e => e h2)))
  · exact Lib.hid (fun j _ => ⟨exD_fold W H zs SW SH bs _ _ m, exD_ok hI SW SH bs _ _ m⟩)

/-! ### The examples -/
theorem a_conv (a a' : Option Addr) (c c' : Nat) (w : World) (hR : Row w a 3 (iv [1, 2, 3])) (hT : Row w a' 3 (iv [1, 0, -1])) :
    Calls Try.prog 20 #[.agg #[.int .i64 3, .int .i64 1, .slice a 3 c], .agg #[.int .i64 3, .int .i64 1, .slice a' 3 c'], .int .u8 3] w (RetI 3 1 [-1, 2, -1] 0 w) := by
  have h := convolve_ok 3 3 1 3 1 (by omega) a a' 3 c 3 c' [1, 2, 3] [1, 0, -1] (by decide) (by decide) (by decide) (by decide) w hR hT
  rwa [show (made 3 fun k => inR (cvN 3 3 1 [1, 2, 3] 3 1 [1, 0, -1] ((k : Int) % 3) ((k : Int) / 3) 3) (-2147483648) 2147483648) = [-1, 2, -1] by kernel_rfl] at h
theorem a_dil (a a' : Option Addr) (c c' : Nat) (w : World) (hR : Row w a 3 (iv [5, 1, 4])) (hT : Row w a' 3 (bv [true, true, true])) :
    Calls Try.prog 25 #[.agg #[.int .i64 3, .int .i64 1, .slice a 3 c], .agg #[.int .i64 3, .int .i64 1, .slice a' 3 c']] w (RetI 3 1 [5, 5, 4] 0 w) := by
  have h := dilate_ok 3 1 3 1 a a' 3 c 3 c' [5, 1, 4] [true, true, true] (by decide) (by decide) (by decide) (by decide) w hR hT
  rwa [show (made 3 fun k => exD 3 1 [5, 1, 4] 3 1 [true, true, true] ((k : Int) % 3) ((k : Int) / 3) 3) = [5, 5, 4] by kernel_rfl] at h
theorem a_turn (a : Option Addr) (c : Nat) (w : World) (hR : Row w a 6 (iv [1, 2, 3, 4, 5, 6])) :
    Calls Try.prog 49 #[.agg #[.int .i64 3, .int .i64 2, .slice a 6 c]] w (RetI 2 3 [4, 1, 5, 2, 6, 3] 0 w) := by
  have h := turn_ok 3 2 a 6 c [1, 2, 3, 4, 5, 6] (by decide) (by decide) w hR
  rwa [show (made ([1, 2, 3, 4, 5, 6] : List Int).length fun k => pixAt 3 [1, 2, 3, 4, 5, 6] ((k : Int) / 2) (2 - 1 - (k : Int) % 2)) = [4, 1, 5, 2, 6, 3] by kernel_rfl] at h
theorem a_point (a : Option Addr) (c : Nat) (w : World) (hR : Row w a 1 (iv [7])) :
    Calls Try.prog 15 #[.agg #[.int .i64 1, .int .i64 1, .slice a 1 c], .agg #[.int .i64 (-1), .int .i64 0, .int .i64 2, .int .i64 (-100), .int .i64 100]] w (RetI 1 1 [-4] 0 w) := by
  have h := point_ok 1 1 (-1) 0 2 (-100) 100 a 1 c [7] (by decide) (by decide) (by decide) w hR
  rwa [show (made 1 fun k => ptV (-1) 0 2 (-100) 100 (([7] : List Int)[k]?.getD 0)) = [-4] by kernel_rfl] at h
theorem a_box (a : Option Addr) (c : Nat) (w : World) (hR : Row w a 4 (iv [1, 2, 3, 4])) :
    Calls Try.prog 48 #[.agg #[.int .i64 2, .int .i64 2, .slice a 4 c], .int .i64 0, .int .i64 0, .int .i64 2, .int .i64 1] w fun e w' => e = .returned (.tuple #[.int .i64 3, .int .i64 0]) ∧ Below w.heap.size w w' := by
  have hI : okI 2 2 [1, 2, 3, 4] := by decide
  obtain ⟨bb, off, rfl, hbb, hlen, hc⟩ := row_vals2 hI hR (by omega)
  have h := (callsIn_wide (n := 9)).1 (box_in 9 (by omega) 2 2 0 0 2 1 bb off 4 c [1, 2, 3, 4] hI rfl (by omega) (by omega) w hbb hc (Lib.hid (fun w1 h1 => icheck_ok hI _ 4 c (by decide) w1 (hR.later h1))))
  rwa [show sumN (fun i => if inB 2 0 0 2 1 i then ([1, 2, 3, 4] : List Int)[i]?.getD 0 else 0) 4 = 3 by kernel_rfl] at h
end Go.Proofs.Ytghmjdmiaajbnaa
