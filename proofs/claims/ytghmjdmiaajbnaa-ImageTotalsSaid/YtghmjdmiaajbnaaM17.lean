/-
  The texts that the laws of this seat share, merged: part 17.
-/
import Derived.BigQuiet
import Derived.Carry
import Derived.Deep.CutRange
import Derived.Deep.DeepCutAuto
import Derived.Deep.Draws
import Derived.Deep.LoopGhost
import Derived.Deep.OwnRows
import Derived.Deep.QuietTactic
import Derived.Deep.RegionHeld3
import Derived.Laws.AppendOwn
import Derived.Laws.EntriesVeiled
import Derived.Laws.StructEq
import Derived.Lib.Hide
import Derived.LoopIn
import Derived.LoopNIn
import Derived.MapKept
import Derived.Maps.AppendAt
import Derived.OneCell
import Derived.Orders
import Derived.OwnWalkIn
import Derived.RangeFuncBound
import Derived.RangeFuncCalls
import Derived.RangeFuncLeaves
import Derived.RangeFuncNested
import Derived.Shelf.Abstract
import Derived.Shelf.AbstractIn
import Derived.Shelf.RegionOpen
import Derived.StillTailTactics
import Derived.TacticsIn
import Derived.TacticsInMore
import Derived.Test.YtghmjdmiaajbnaaProg
import Derived.WalkKit
import Derived.WalkSmall
import Derived.WalkSpells
import Derived.WideLaws
import Derived.Test.YtghmjdmiaajbnaaM5
import Derived.Test.YtghmjdmiaajbnaaM11
import Derived.Test.YtghmjdmiaajbnaaM14
import Derived.Test.YtghmjdmiaajbnaaM15
import Derived.Test.YtghmjdmiaajbnaaM16
/-
  Layer 2: dilated and eroded images, by the code.
-/
namespace Go.Proofs.Ytghmjdmiaajbnaa
open Go.RowKit
set_option linter.unusedVariables false
set_option linter.unusedSimpArgs false

theorem ish_ok {SW SH : Int} {bs : List Bool} (h : okSh SW SH bs) (a' : Option Addr) (m c' : Nat) (hn : m ≤ maxLen) (w : World) (hR : Row w a' m (bv bs)) :
    Calls Try.prog 108 #[.agg #[.int .i64 SW, .int .i64 SH, .slice a' m c']] w fun e w' => e = .returned (.bool true) ∧ Below w.heap.size w w' := by
  have := isShape_any SW SH a' m c' bs hn w hR; rw [decide_eq_true h] at this; exact this
set_option maxRecDepth 100000 in
set_option maxHeartbeats 4000000 in
theorem extremes_ok (W H SW SH init : Int) (FA FC : FuncId) (mx : Int → Int → Int) (U V : Int → Int → Nat → Int) (E : Nat → Int) (a a' : Option Addr) (n c m c' : Nat) (zs : List Int) (bs : List Bool) (stp : Nat → Int → Nat → Int) (hI : okI W H zs) (hS : okSh SW SH bs) (hn : n ≤ maxLen) (hm : m ≤ maxLen) (w : World) (hR : Row w a n (iv zs)) (hT : Row w a' m (bv bs))
    (ea : ∀ args w, (callFunc FA args).run Try.prog w = .ok (.enter FA args) w) (ec : ∀ args w, (callFunc FC args).run Try.prog w = .ok (.enter FC args) w)
    (HA : Hid (∀ j : Nat, j < n → ∀ k : Nat, k < m → ∀ w, Calls Try.prog FA #[.agg #[.int .i64 ((j : Int) % W), .int .i64 ((j : Int) / W)], .agg #[.int .i64 ((k : Int) % SW - SW / 2), .int .i64 ((k : Int) / SW - SH / 2)]] w fun e w' => e = .returned (.agg #[.int .i64 (U ((j : Int) % W) ((j : Int) / W) k), .int .i64 (V ((j : Int) % W) ((j : Int) / W) k)]) ∧ Below w.heap.size w w'))
    (HC : Hid (∀ p q w, Calls Try.prog FC #[.int .i64 p, .int .i64 q] w fun e w' => e = .returned (.int .i64 (mx p q)) ∧ Below w.heap.size w w'))
    (HY : Hid (∀ (j : Nat) p k, bs[k]? = some true → inP W H (U ((j : Int) % W) ((j : Int) / W) k) (V ((j : Int) % W) ((j : Int) / W) k) → stp j p k = mx p (pixAt W zs (U ((j : Int) % W) ((j : Int) / W) k) (V ((j : Int) % W) ((j : Int) / W) k))))
    (HN : Hid (∀ (j : Nat) p k, (bs[k]? = some false ∨ ¬ inP W H (U ((j : Int) % W) ((j : Int) / W) k) (V ((j : Int) % W) ((j : Int) / W) k)) → stp j p k = p))
    (HE : Hid (∀ j, j < n → (List.range m).foldl (stp j) init = E j ∧ okV (E j))) :
    Calls Try.prog 65 #[.agg #[.int .i64 W, .int .i64 H, .slice a n c], .agg #[.int .i64 SW, .int .i64 SH, .slice a' m c'], .func (.func FA) #[] #[], .int .i64 init, .func (.func FC) #[] #[]] w (RetI W H (made n E) 0 w) := by
  have HK := Lib.hid (icheck_ok hI a n c hn)
  have HL := Lib.hid (ish_ok hS a' m c' hm)
  have HR := Lib.hid hR
  have HT := Lib.hid hT
  have hlen : zs.length = n := by have := hR.1; rwa [iv_length] at this
  have hN : W * H = (n : Int) := by rw [← hlen]; exact hI.2.1.symm
  have hW := hI.1.1
  have hH := hI.1.2
  have hmm := okS_mul hW hH
  have HI := Lib.hid hI
  have HS := Lib.hid hS
  have hme : ((List.range n).map fun (k : Nat) => inR ((List.range m).foldl (stp k) init) (-2147483648) 2147483648) = made n E :=
    List.map_congr_left (fun k hk => by obtain ⟨e, o⟩ := HE.out k (List.mem_range.1 hk); rw [e, inR_ok o])
  have HM := Lib.hid hme
  have HN' := Lib.hid hN
  clear hR hT hn hm hlen hme hN hI hS
  go_enter Try.func65, Try.ntmps65
  go_upto_region 6 with (first
    | (go_at_call 51; (with_reducible refine (HK.out _ (HR.out.later (by (repeat' (first | (with_reducible exact Below.refl _ _) | (with_reducible assumption) | (with_reducible refine belowThru ?_ (by assumption)) | (with_reducible refine belowAlloc ?_) | (with_reducible refine Below.setCell ?_ (by first | omega | (simp; done) | (simp; omega)) _) | (with_reducible refine Below.drew ?_) | (with_reducible refine below_drewN ?_ _)))))).mono ?_); rintro e w1 ⟨rfl, hb⟩; (first | ((with_reducible have k0 := Blk.later hb (Blk.alloc (Blk.alloc (Blk.alloc (Blk.alloc (Blk.alloc (Blk.new rfl))))))); (with_reducible have k1 := Blk.later hb (Blk.alloc (Blk.alloc (Blk.alloc (Blk.alloc (Blk.new rfl)))))); (with_reducible have k2 := Blk.later hb (Blk.alloc (Blk.alloc (Blk.alloc (Blk.new rfl))))); (with_reducible have k3 := Blk.later hb (Blk.alloc (Blk.alloc (Blk.new rfl)))); (with_reducible have k4 := Blk.later hb (Blk.alloc (Blk.new rfl))); (with_reducible have k5 := Blk.later hb (Blk.new rfl)); simp only [World.size_alloc] at k1 k2 k3 k4 k5; obtain ⟨a0, b0⟩ := k0.read; have zl := k0.lt; obtain ⟨a1, b1⟩ := k1.read; have zl := k1.lt; obtain ⟨a2, b2⟩ := k2.read; have zl := k2.lt; obtain ⟨a3, b3⟩ := k3.read; have zl := k3.lt; obtain ⟨a4, b4⟩ := k4.read; have zl := k4.lt; obtain ⟨a5, b5⟩ := k5.read; have zl := k5.lt) | ((try (have zk := k0.lt; (first | ((with_reducible refine Blk.keepG hb k0 (fun h => ?_) ?_); (focus ((repeat' (first | (with_reducible assumption) | ((with_reducible refine Blk.new ?_); first | rfl | (simp; done)) | (with_reducible refine Blk.later (by assumption) ?_) | (with_reducible refine Blk.alloc ?_) | (with_reducible refine Blk.drewN ?_) | (with_reducible refine Blk.drew ?_) | (with_reducible refine Blk.other ?_ (by first | omega | (simp; done) | (simp; omega))))); done)); clear k0; intro k0) | (with_reducible replace k0 := Blk.later hb (Blk.set (Blk.set k0))) | (with_reducible replace k0 := Blk.later hb (Blk.set k0))); clear a0 b0; obtain ⟨a0, b0⟩ := k0.read; have zl := k0.lt)); (try (have zk := k1.lt; (first | ((with_reducible refine Blk.keepG hb k1 (fun h => ?_) ?_); (focus ((repeat' (first | (with_reducible assumption) | ((with_reducible refine Blk.new ?_); first | rfl | (simp; done)) | (with_reducible refine Blk.later (by assumption) ?_) | (with_reducible refine Blk.alloc ?_) | (with_reducible refine Blk.drewN ?_) | (with_reducible refine Blk.drew ?_) | (with_reducible refine Blk.other ?_ (by first | omega | (simp; done) | (simp; omega))))); done)); clear k1; intro k1) | (with_reducible replace k1 := Blk.later hb (Blk.set (Blk.set k1))) | (with_reducible replace k1 := Blk.later hb (Blk.set k1))); clear a1 b1; obtain ⟨a1, b1⟩ := k1.read; have zl := k1.lt)); (try (have zk := k2.lt; (first | ((with_reducible refine Blk.keepG hb k2 (fun h => ?_) ?_); (focus ((repeat' (first | (with_reducible assumption) | ((with_reducible refine Blk.new ?_); first | rfl | (simp; done)) | (with_reducible refine Blk.later (by assumption) ?_) | (with_reducible refine Blk.alloc ?_) | (with_reducible refine Blk.drewN ?_) | (with_reducible refine Blk.drew ?_) | (with_reducible refine Blk.other ?_ (by first | omega | (simp; done) | (simp; omega))))); done)); clear k2; intro k2) | (with_reducible replace k2 := Blk.later hb (Blk.set (Blk.set k2))) | (with_reducible replace k2 := Blk.later hb (Blk.set k2))); clear a2 b2; obtain ⟨a2, b2⟩ := k2.read; have zl := k2.lt)); (try (have zk := k3.lt; (first | ((with_reducible refine Blk.keepG hb k3 (fun h => ?_) ?_); (focus ((repeat' (first | (with_reducible assumption) | ((with_reducible refine Blk.new ?_); first | rfl | (simp; done)) | (with_reducible refine Blk.later (by assumption) ?_) | (with_reducible refine Blk.alloc ?_) | (with_reducible refine Blk.drewN ?_) | (with_reducible refine Blk.drew ?_) | (with_reducible refine Blk.other ?_ (by first | omega | (simp; done) | (simp; omega))))); done)); clear k3; intro k3) | (with_reducible replace k3 := Blk.later hb (Blk.set (Blk.set k3))) | (with_reducible replace k3 := Blk.later hb (Blk.set k3))); clear a3 b3; obtain ⟨a3, b3⟩ := k3.read; have zl := k3.lt)); (try (have zk := k4.lt; (first | ((with_reducible refine Blk.keepG hb k4 (fun h => ?_) ?_); (focus ((repeat' (first | (with_reducible assumption) | ((with_reducible refine Blk.new ?_); first | rfl | (simp; done)) | (with_reducible refine Blk.later (by assumption) ?_) | (with_reducible refine Blk.alloc ?_) | (with_reducible refine Blk.drewN ?_) | (with_reducible refine Blk.drew ?_) | (with_reducible refine Blk.other ?_ (by first | omega | (simp; done) | (simp; omega))))); done)); clear k4; intro k4) | (with_reducible replace k4 := Blk.later hb (Blk.set (Blk.set k4))) | (with_reducible replace k4 := Blk.later hb (Blk.set k4))); clear a4 b4; obtain ⟨a4, b4⟩ := k4.read; have zl := k4.lt)); (try (have zk := k5.lt; (first | ((with_reducible refine Blk.keepG hb k5 (fun h => ?_) ?_); (focus ((repeat' (first | (with_reducible assumption) | ((with_reducible refine Blk.new ?_); first | rfl | (simp; done)) | (with_reducible refine Blk.later (by assumption) ?_) | (with_reducible refine Blk.alloc ?_) | (with_reducible refine Blk.drewN ?_) | (with_reducible refine Blk.drew ?_) | (with_reducible refine Blk.other ?_ (by first | omega | (simp; done) | (simp; omega))))); done)); clear k5; intro k5) | (with_reducible replace k5 := Blk.later hb (Blk.set (Blk.set k5))) | (with_reducible replace k5 := Blk.later hb (Blk.set k5))); clear a5 b5; obtain ⟨a5, b5⟩ := k5.read; have zl := k5.lt)))))
    | (go_at_call 108; (with_reducible refine (HL.out _ (HT.out.later (by (repeat' (first | (with_reducible exact Below.refl _ _) | (with_reducible assumption) | (with_reducible refine belowThru ?_ (by assumption)) | (with_reducible refine belowAlloc ?_) | (with_reducible refine Below.setCell ?_ (by first | omega | (simp; done) | (simp; omega)) _) | (with_reducible refine Below.drew ?_) | (with_reducible refine below_drewN ?_ _)))))).mono ?_); rintro e w1 ⟨rfl, hb⟩; (try (have zk := k0.lt; (first | ((with_reducible refine Blk.keepG hb k0 (fun h => ?_) ?_); (focus ((repeat' (first | (with_reducible assumption) | ((with_reducible refine Blk.new ?_); first | rfl | (simp; done)) | (with_reducible refine Blk.later (by assumption) ?_) | (with_reducible refine Blk.alloc ?_) | (with_reducible refine Blk.drewN ?_) | (with_reducible refine Blk.drew ?_) | (with_reducible refine Blk.other ?_ (by first | omega | (simp; done) | (simp; omega))))); done)); clear k0; intro k0) | (with_reducible replace k0 := Blk.later hb (Blk.set (Blk.set k0))) | (with_reducible replace k0 := Blk.later hb (Blk.set k0))); clear a0 b0; obtain ⟨a0, b0⟩ := k0.read; have zl := k0.lt)); (try (have zk := k1.lt; (first | ((with_reducible refine Blk.keepG hb k1 (fun h => ?_) ?_); (focus ((repeat' (first | (with_reducible assumption) | ((with_reducible refine Blk.new ?_); first | rfl | (simp; done)) | (with_reducible refine Blk.later (by assumption) ?_) | (with_reducible refine Blk.alloc ?_) | (with_reducible refine Blk.drewN ?_) | (with_reducible refine Blk.drew ?_) | (with_reducible refine Blk.other ?_ (by first | omega | (simp; done) | (simp; omega))))); done)); clear k1; intro k1) | (with_reducible replace k1 := Blk.later hb (Blk.set (Blk.set k1))) | (with_reducible replace k1 := Blk.later hb (Blk.set k1))); clear a1 b1; obtain ⟨a1, b1⟩ := k1.read; have zl := k1.lt)); (try (have zk := k2.lt; (first | ((with_reducible refine Blk.keepG hb k2 (fun h => ?_) ?_); (focus ((repeat' (first | (with_reducible assumption) | ((with_reducible refine Blk.new ?_); first | rfl | (simp; done)) | (with_reducible refine Blk.later (by assumption) ?_) | (with_reducible refine Blk.alloc ?_) | (with_reducible refine Blk.drewN ?_) | (with_reducible refine Blk.drew ?_) | (with_reducible refine Blk.other ?_ (by first | omega | (simp; done) | (simp; omega))))); done)); clear k2; intro k2) | (with_reducible replace k2 := Blk.later hb (Blk.set (Blk.set k2))) | (with_reducible replace k2 := Blk.later hb (Blk.set k2))); clear a2 b2; obtain ⟨a2, b2⟩ := k2.read; have zl := k2.lt)); (try (have zk := k3.lt; (first | ((with_reducible refine Blk.keepG hb k3 (fun h => ?_) ?_); (focus ((repeat' (first | (with_reducible assumption) | ((with_reducible refine Blk.new ?_); first | rfl | (simp; done)) | (with_reducible refine Blk.later (by assumption) ?_) | (with_reducible refine Blk.alloc ?_) | (with_reducible refine Blk.drewN ?_) | (with_reducible refine Blk.drew ?_) | (with_reducible refine Blk.other ?_ (by first | omega | (simp; done) | (simp; omega))))); done)); clear k3; intro k3) | (with_reducible replace k3 := Blk.later hb (Blk.set (Blk.set k3))) | (with_reducible replace k3 := Blk.later hb (Blk.set k3))); clear a3 b3; obtain ⟨a3, b3⟩ := k3.read; have zl := k3.lt)); (try (have zk := k4.lt; (first | ((with_reducible refine Blk.keepG hb k4 (fun h => ?_) ?_); (focus ((repeat' (first | (with_reducible assumption) | ((with_reducible refine Blk.new ?_); first | rfl | (simp; done)) | (with_reducible refine Blk.later (by assumption) ?_) | (with_reducible refine Blk.alloc ?_) | (with_reducible refine Blk.drewN ?_) | (with_reducible refine Blk.drew ?_) | (with_reducible refine Blk.other ?_ (by first | omega | (simp; done) | (simp; omega))))); done)); clear k4; intro k4) | (with_reducible replace k4 := Blk.later hb (Blk.set (Blk.set k4))) | (with_reducible replace k4 := Blk.later hb (Blk.set k4))); clear a4 b4; obtain ⟨a4, b4⟩ := k4.read; have zl := k4.lt)); (try (have zk := k5.lt; (first | ((with_reducible refine Blk.keepG hb k5 (fun h => ?_) ?_); (focus ((repeat' (first | (with_reducible assumption) | ((with_reducible refine Blk.new ?_); first | rfl | (simp; done)) | (with_reducible refine Blk.later (by assumption) ?_) | (with_reducible refine Blk.alloc ?_) | (with_reducible refine Blk.drewN ?_) | (with_reducible refine Blk.drew ?_) | (with_reducible refine Blk.other ?_ (by first | omega | (simp; done) | (simp; omega))))); done)); clear k5; intro k5) | (with_reducible replace k5 := Blk.later hb (Blk.set (Blk.set k5))) | (with_reducible replace k5 := Blk.later hb (Blk.set k5))); clear a5 b5; obtain ⟨a5, b5⟩ := k5.read; have zl := k5.lt))))
  have HV := Lib.hid (fun (k : Nat) (hk : k < n) W1 (hW1 : Below _ _ W1) => (callsIn_wide (n := 9)).1 (ext_in 9 (by omega) W H SW SH ((k : Int) % W) ((k : Int) / W) init FA FC mx (U ((k : Int) % W) ((k : Int) / W)) (V ((k : Int) % W) ((k : Int) / W)) a a' n c m c' zs bs (stp k) HI.out HS.out (w.heap.size + 1 + 1 + 1) (w.heap.size + 1) (w.heap.size + 1 + 1) w.heap.size (w.heap.size + 1 + 1 + 1 + 1) W1 (HR.out.later (by (repeat' (first | (with_reducible exact Below.refl _ _) | (with_reducible assumption) | (with_reducible refine belowThru ?_ (by assumption)) | (with_reducible refine belowAlloc ?_) | (with_reducible refine Below.setCell ?_ (by first | omega | (simp; done) | (simp; omega)) _) | (with_reducible refine Below.drew ?_) | (with_reducible refine below_drewN ?_ _))))) (HT.out.later (by (repeat' (first | (with_reducible exact Below.refl _ _) | (with_reducible assumption) | (with_reducible refine belowThru ?_ (by assumption)) | (with_reducible refine belowAlloc ?_) | (with_reducible refine Below.setCell ?_ (by first | omega | (simp; done) | (simp; omega)) _) | (with_reducible refine Below.drew ?_) | (with_reducible refine below_drewN ?_ _))))) (Blk.later hW1 k3) (Blk.later hW1 k1) (Blk.later hW1 k2) (Blk.later hW1 k0) (Blk.later hW1 k4) ea ec (Lib.hid (HA.out k hk)) HC (Lib.hid (HY.out k)) (Lib.hid (HN.out k))))
  have HB := Lib.hid (build_any W H n 109 #[.pointer (some ⟨w.heap.size + 1 + 1 + 1, 0, none⟩), .pointer (some ⟨w.heap.size + 1, 0, none⟩), .pointer (some ⟨w.heap.size + 1 + 1, 0, none⟩), .pointer (some ⟨w.heap.size, 0, none⟩), .pointer (some ⟨w.heap.size + 1 + 1 + 1 + 1, 0, none⟩)] (fun k => (List.range m).foldl (stp k) init) HN'.out hW.1 hW.2 hH.1 hH.2 (by have := HN'.out; omega) (enters_of Try.func109 (by kernel_rfl) rfl) _ HV)
  rw [HM.out] at HB
  clear HV
  go_wp2_with (go_at_call 53; (with_reducible refine (HB.out).mono ?_); rintro e w2 ⟨B, rfl, hB0, kB, hb⟩; (try (have zk := k0.lt; (first | ((with_reducible refine Blk.keepG hb k0 (fun h => ?_) ?_); (focus ((repeat' (first | (with_reducible assumption) | ((with_reducible refine Blk.new ?_); first | rfl | (simp; done)) | (with_reducible refine Blk.later (by assumption) ?_) | (with_reducible refine Blk.alloc ?_) | (with_reducible refine Blk.drewN ?_) | (with_reducible refine Blk.drew ?_) | (with_reducible refine Blk.other ?_ (by first | omega | (simp; done) | (simp; omega))))); done)); clear k0; intro k0) | (with_reducible replace k0 := Blk.later hb (Blk.set (Blk.set k0))) | (with_reducible replace k0 := Blk.later hb (Blk.set k0))); clear a0 b0; obtain ⟨a0, b0⟩ := k0.read; have zl := k0.lt)); (try (have zk := k1.lt; (first | ((with_reducible refine Blk.keepG hb k1 (fun h => ?_) ?_); (focus ((repeat' (first | (with_reducible assumption) | ((with_reducible refine Blk.new ?_); first | rfl | (simp; done)) | (with_reducible refine Blk.later (by assumption) ?_) | (with_reducible refine Blk.alloc ?_) | (with_reducible refine Blk.drewN ?_) | (with_reducible refine Blk.drew ?_) | (with_reducible refine Blk.other ?_ (by first | omega | (simp; done) | (simp; omega))))); done)); clear k1; intro k1) | (with_reducible replace k1 := Blk.later hb (Blk.set (Blk.set k1))) | (with_reducible replace k1 := Blk.later hb (Blk.set k1))); clear a1 b1; obtain ⟨a1, b1⟩ := k1.read; have zl := k1.lt)); (try (have zk := k2.lt; (first | ((with_reducible refine Blk.keepG hb k2 (fun h => ?_) ?_); (focus ((repeat' (first | (with_reducible assumption) | ((with_reducible refine Blk.new ?_); first | rfl | (simp; done)) | (with_reducible refine Blk.later (by assumption) ?_) | (with_reducible refine Blk.alloc ?_) | (with_reducible refine Blk.drewN ?_) | (with_reducible refine Blk.drew ?_) | (with_reducible refine Blk.other ?_ (by first | omega | (simp; done) | (simp; omega))))); done)); clear k2; intro k2) | (with_reducible replace k2 := Blk.later hb (Blk.set (Blk.set k2))) | (with_reducible replace k2 := Blk.later hb (Blk.set k2))); clear a2 b2; obtain ⟨a2, b2⟩ := k2.read; have zl := k2.lt)); (try (have zk := k3.lt; (first | ((with_reducible refine Blk.keepG hb k3 (fun h => ?_) ?_); (focus ((repeat' (first | (with_reducible assumption) | ((with_reducible refine Blk.new ?_); first | rfl | (simp; done)) | (with_reducible refine Blk.later (by assumption) ?_) | (with_reducible refine Blk.alloc ?_) | (with_reducible refine Blk.drewN ?_) | (with_reducible refine Blk.drew ?_) | (with_reducible refine Blk.other ?_ (by first | omega | (simp; done) | (simp; omega))))); done)); clear k3; intro k3) | (with_reducible replace k3 := Blk.later hb (Blk.set (Blk.set k3))) | (with_reducible replace k3 := Blk.later hb (Blk.set k3))); clear a3 b3; obtain ⟨a3, b3⟩ := k3.read; have zl := k3.lt)); (try (have zk := k4.lt; (first | ((with_reducible refine Blk.keepG hb k4 (fun h => ?_) ?_); (focus ((repeat' (first | (with_reducible assumption) | ((with_reducible refine Blk.new ?_); first | rfl | (simp; done)) | (with_reducible refine Blk.later (by assumption) ?_) | (with_reducible refine Blk.alloc ?_) | (with_reducible refine Blk.drewN ?_) | (with_reducible refine Blk.drew ?_) | (with_reducible refine Blk.other ?_ (by first | omega | (simp; done) | (simp; omega))))); done)); clear k4; intro k4) | (with_reducible replace k4 := Blk.later hb (Blk.set (Blk.set k4))) | (with_reducible replace k4 := Blk.later hb (Blk.set k4))); clear a4 b4; obtain ⟨a4, b4⟩ := k4.read; have zl := k4.lt)); (try (have zk := k5.lt; (first | ((with_reducible refine Blk.keepG hb k5 (fun h => ?_) ?_); (focus ((repeat' (first | (with_reducible assumption) | ((with_reducible refine Blk.new ?_); first | rfl | (simp; done)) | (with_reducible refine Blk.later (by assumption) ?_) | (with_reducible refine Blk.alloc ?_) | (with_reducible refine Blk.drewN ?_) | (with_reducible refine Blk.drew ?_) | (with_reducible refine Blk.other ?_ (by first | omega | (simp; done) | (simp; omega))))); done)); clear k5; intro k5) | (with_reducible replace k5 := Blk.later hb (Blk.set (Blk.set k5))) | (with_reducible replace k5 := Blk.later hb (Blk.set k5))); clear a5 b5; obtain ⟨a5, b5⟩ := k5.read; have zl := k5.lt)))
  exact bodyPost_ret (v := .tuple #[.agg #[.int .i64 W, .int .i64 H, .slice (some ⟨B, 0, none⟩) n n], .int .i64 0]) (by simp only [results, Try.results65]; go_simp) rfl (RetI.made (made_length _ _) (by omega) (by (repeat' (first | (with_reducible assumption) | ((with_reducible refine Blk.new ?_); first | rfl | (simp; done)) | (with_reducible refine Blk.later (by assumption) ?_) | (with_reducible refine Blk.alloc ?_) | (with_reducible refine Blk.drewN ?_) | (with_reducible refine Blk.drew ?_) | (with_reducible refine Blk.other ?_ (by first | omega | (simp; done) | (simp; omega)))))) (by (repeat' (first | (with_reducible exact Below.refl _ _) | (with_reducible assumption) | (with_reducible refine belowThru ?_ (by assumption)) | (with_reducible refine belowAlloc ?_) | (with_reducible refine Below.setCell ?_ (by first | omega | (simp; done) | (simp; omega)) _) | (with_reducible refine Below.drew ?_) | (with_reducible refine below_drewN ?_ _)))))
end Go.Proofs.Ytghmjdmiaajbnaa
/-
  Layer 2: Dilate and Erode, by the code; both sides.
-/
namespace Go.Proofs.Ytghmjdmiaajbnaa
open Go.RowKit
set_option linter.unusedVariables false
set_option linter.unusedSimpArgs false

theorem pixAt_ok {W H : Int} {zs : List Int} (hI : okI W H zs) (x y : Int) : okV (pixAt W zs x y) := by
  unfold pixAt
  cases h : zs[(y * W + x).toNat]? with
  | none => exact ⟨by decide, by decide⟩
  | some z => exact hI.2.2 z (List.mem_of_getElem? h)

def stpD (W H : Int) (zs : List Int) (SW SH : Int) (bs : List Bool) (x y : Int) (p : Int) (k : Nat) : Int :=
  if bs[k]?.getD false = true ∧ inP W H (x - ((k : Int) % SW - SW / 2)) (y - ((k : Int) / SW - SH / 2)) then (if p < pixAt W zs (x - ((k : Int) % SW - SW / 2)) (y - ((k : Int) / SW - SH / 2)) then pixAt W zs (x - ((k : Int) % SW - SW / 2)) (y - ((k : Int) / SW - SH / 2)) else p) else p
theorem exD_fold (W H : Int) (zs : List Int) (SW SH : Int) (bs : List Bool) (x y : Int) (m : Nat) : (List.range m).foldl (stpD W H zs SW SH bs x y) (-2147483648) = exD W H zs SW SH bs x y m := by
  induction m with
  | zero => rfl
  | succ m ih => rw [List.range_succ, List.foldl_append, ih]; rfl
theorem exD_ok {W H : Int} {zs : List Int} (hI : okI W H zs) (SW SH : Int) (bs : List Bool) (x y : Int) (m : Nat) : okV (exD W H zs SW SH bs x y m) := by
  induction m with
  | zero => show okV (-2147483648); exact ⟨by decide, by decide⟩
  | succ k ih =>
    have hp := pixAt_ok hI (x - ((k : Int) % SW - SW / 2)) (y - ((k : Int) / SW - SH / 2))
    unfold exD
    split
    · split
      · exact hp
      · exact ih
    · exact ih
set_option maxHeartbeats 400000 in
theorem dilate1_any (p q : Int) (w : World) : Calls Try.prog 68 #[.int .i64 p, .int .i64 q] w fun e w' => e = .returned (.int .i64 (if p < q then q else p)) ∧ Below w.heap.size w w' := by
  go_enter Try.func68, Try.ntmps68
  go_wp2
  all_goals
    go_ret
    exact ⟨rfl, by (repeat' (first | (with_reducible exact Below.refl _ _) | (with_reducible assumption) | (with_reducible refine belowThru ?_ (by assumption)) | (with_reducible refine belowAlloc ?_) | (with_reducible refine Below.setCell ?_ (by first | omega | (simp; done) | (simp; omega)) _) | (with_reducible refine Below.drew ?_) | (with_reducible refine below_drewN ?_ _)))⟩
set_option maxHeartbeats 2000000 in
theorem dilate_of (W H SW SH W2 H2 E2 : Int) (Z2 : List Int) (a a' : Option Addr) (n c m c' : Nat) (zs : List Int) (bs : List Bool) (w : World) (hR : Row w a n (iv zs)) (hT : Row w a' m (bv bs))
    (HX : Hid (∀ w, Row w a n (iv zs) → Row w a' m (bv bs) → Calls Try.prog 65 #[.agg #[.int .i64 W, .int .i64 H, .slice a n c], .agg #[.int .i64 SW, .int .i64 SH, .slice a' m c'], .func (.func 64) #[] #[], .int .i64 (-2147483648), .func (.func 68) #[] #[]] w (RetI W2 H2 Z2 E2 w))) :
    Calls Try.prog 25 #[.agg #[.int .i64 W, .int .i64 H, .slice a n c], .agg #[.int .i64 SW, .int .i64 SH, .slice a' m c']] w (RetI W2 H2 Z2 E2 w) := by
  have HR := Lib.hid hR
  have HT := Lib.hid hT
  clear hR hT
  go_enter Try.func25, Try.ntmps25
  go_wp2_with fail
  refine (HX.out _ (HR.out.later (by (repeat' (first | (with_reducible exact Below.refl _ _) | (with_reducible assumption) | (with_reducible refine belowThru ?_ (by assumption)) | (with_reducible refine belowAlloc ?_) | (with_reducible refine Below.setCell ?_ (by first | omega | (simp; done) | (simp; omega)) _) | (with_reducible refine Below.drew ?_) | (with_reducible refine below_drewN ?_ _))))) (HT.out.later (by (repeat' (first | (with_reducible exact Below.refl _ _) | (with_reducible assumption) | (with_reducible refine belowThru ?_ (by assumption)) | (with_reducible refine belowAlloc ?_) | (with_reducible refine Below.setCell ?_ (by first | omega | (simp; done) | (simp; omega)) _) | (with_reducible refine Below.drew ?_) | (with_reducible refine below_drewN ?_ _)))))).mono ?_
  rintro e w2 ⟨ax, nx, cx, rfl, hNx, hb⟩
  (first | ((with_reducible have k0 := Blk.later hb (Blk.alloc (Blk.alloc (Blk.new rfl)))); (with_reducible have k1 := Blk.later hb (Blk.alloc (Blk.new rfl))); (with_reducible have k2 := Blk.later hb (Blk.new rfl)); simp only [World.size_alloc] at k1 k2; obtain ⟨a0, b0⟩ := k0.read; have zl := k0.lt; obtain ⟨a1, b1⟩ := k1.read; have zl := k1.lt; obtain ⟨a2, b2⟩ := k2.read; have zl := k2.lt) | ((try (have zk := k0.lt; (first | ((with_reducible refine Blk.keepG hb k0 (fun h => ?_) ?_); (focus ((repeat' (first | (with_reducible assumption) | ((with_reducible refine Blk.new ?_); first | rfl | (simp; done)) | (with_reducible refine Blk.later (by assumption) ?_) | (with_reducible refine Blk.alloc ?_) | (with_reducible refine Blk.drewN ?_) | (with_reducible refine Blk.drew ?_) | (with_reducible refine Blk.other ?_ (by first | omega | (simp; done) | (simp; omega))))); done)); clear k0; intro k0) | (with_reducible replace k0 := Blk.later hb (Blk.set (Blk.set k0))) | (with_reducible replace k0 := Blk.later hb (Blk.set k0))); clear a0 b0; obtain ⟨a0, b0⟩ := k0.read; have zl := k0.lt)); (try (have zk := k1.lt; (first | ((with_reducible refine Blk.keepG hb k1 (fun h => ?_) ?_); (focus ((repeat' (first | (with_reducible assumption) | ((with_reducible refine Blk.new ?_); first | rfl | (simp; done)) | (with_reducible refine Blk.later (by assumption) ?_) | (with_reducible refine Blk.alloc ?_) | (with_reducible refine Blk.drewN ?_) | (with_reducible refine Blk.drew ?_) | (with_reducible refine Blk.other ?_ (by first | omega | (simp; done) | (simp; omega))))); done)); clear k1; intro k1) | (with_reducible replace k1 := Blk.later hb (Blk.set (Blk.set k1))) | (with_reducible replace k1 := Blk.later hb (Blk.set k1))); clear a1 b1; obtain ⟨a1, b1⟩ := k1.read; have zl := k1.lt)); (try (have zk := k2.lt; (first | ((with_reducible refine Blk.keepG hb k2 (fun h => ?_) ?_); (focus ((repeat' (first | (with_reducible assumption) | ((with_reducible refine Blk.new ?_); first | rfl | (simp; done)) | (with_reducible refine Blk.later (by assumption) ?_) | (with_reducible refine Blk.alloc ?_) | (with_reducible refine Blk.drewN ?_) | (with_reducible refine Blk.drew ?_) | (with_reducible refine Blk.other ?_ (by first | omega | (simp; done) | (simp; omega))))); done)); clear k2; intro k2) | (with_reducible replace k2 := Blk.later hb (Blk.set (Blk.set k2))) | (with_reducible replace k2 := Blk.later hb (Blk.set k2))); clear a2 b2; obtain ⟨a2, b2⟩ := k2.read; have zl := k2.lt))))
  have HX2 := Lib.hid (New.mono (B' := w.heap.size) (by first | omega | (simp; omega)) hNx)
  have HBw : Hid (Below w.heap.size w w2) := by show Below _ _ _; (repeat' (first | (with_reducible exact Below.refl _ _) | (with_reducible assumption) | (with_reducible refine belowThru ?_ (by assumption)) | (with_reducible refine belowAlloc ?_) | (with_reducible refine Below.setCell ?_ (by first | omega | (simp; done) | (simp; omega)) _) | (with_reducible refine Below.drew ?_) | (with_reducible refine below_drewN ?_ _)))
  clear hb hNx HX
  go_wp2_with fail
  have hBw := HBw.out
  exact bodyPost_ret (v := .tuple #[.agg #[.int .i64 W2, .int .i64 H2, .slice ax nx cx], .int .i64 E2]) (by simp only [results, Try.results25]; go_simp) rfl ⟨ax, nx, cx, rfl, New.set3 HX2.out k2 (by decide) _ _ _, by (repeat' (first | (with_reducible exact Below.refl _ _) | (with_reducible assumption) | (with_reducible refine belowThru ?_ (by assumption)) | (with_reducible refine belowAlloc ?_) | (with_reducible refine Below.setCell ?_ (by first | omega | (simp; done) | (simp; omega)) _) | (with_reducible refine Below.drew ?_) | (with_reducible refine below_drewN ?_ _)))⟩
end Go.Proofs.Ytghmjdmiaajbnaa
/-
  Layer 2: dilated and eroded images, said outright; the statements' own examples of convolutions, shapes, turns, points and sums.
-/
namespace Go.Proofs.Ytghmjdmiaajbnaa
open Go.RowKit
set_option linter.unusedVariables false
set_option linter.unusedSimpArgs false

theorem dilate_ok (W H SW SH : Int) (a a' : Option Addr) (n c m c' : Nat) (zs : List Int) (bs : List Bool) (hI : okI W H zs) (hS : okSh SW SH bs) (hn : n ≤ maxLen) (hm : m ≤ maxLen) (w : World) (hR : Row w a n (iv zs)) (hT : Row w a' m (bv bs)) :
    Calls Try.prog 25 #[.agg #[.int .i64 W, .int .i64 H, .slice a n c], .agg #[.int .i64 SW, .int .i64 SH, .slice a' m c']] w (RetI W H (made n fun k => exD W H zs SW SH bs ((k : Int) % W) ((k : Int) / W) m) 0 w) := by
  have hl : zs.length = n := by have := hR.1; rwa [iv_length] at this
  have hN : W * H = (n : Int) := by rw [← hl]; exact hI.2.1.symm
  refine dilate_of W H SW SH _ _ _ _ a a' n c m c' zs bs w hR hT (Lib.hid (fun w hR hT => extremes_ok W H SW SH (-2147483648) 64 68 (fun p q => (if p < q then q else p)) (fun x y (k : Nat) => (x - ((k : Int) % SW - SW / 2))) (fun x y (k : Nat) => (y - ((k : Int) / SW - SH / 2))) (fun k => exD W H zs SW SH bs ((k : Int) % W) ((k : Int) / W) m) a a' n c m c' zs bs (fun (j : Nat) => stpD W H zs SW SH bs ((j : Int) % W) ((j : Int) / W)) hI hS hn hm w hR hT (enters_of Try.func64 (by kernel_rfl) rfl) (enters_of Try.func68 (by kernel_rfl) rfl) ?_ (Lib.hid (fun p q w => dilate1_any p q w)) ?_ ?_ ?_))
  · refine Lib.hid (fun j hj k hk w => ?_)
    have hp := place_in hI.1.1 hI.1.2 hN hj
    have h1 := hI.1.1.2; have h2 := hI.1.2.2
    have s1 : 1 ≤ SW ∧ SW ≤ 5 := by have := hS.1.1; unfold okK at this; omega
    have s2 : 1 ≤ SH ∧ SH ≤ 5 := by have := hS.1.2; unfold okK at this; omega
    have hb : bs.length = m := by have := hT.1; rwa [bv_length] at this
    have hm2 : m ≤ 25 := by have := okK_mul hS.1.1 hS.1.2; have := hS.2.1; omega
    have := small_div k SW s1.1 (by omega)
    exact minus_any _ _ _ _ (by omega) (by omega) (by omega) (by omega) w
  · exact Lib.hid (fun j p k h1 h2 => if_pos ⟨by rw [h1]; rfl, h2⟩)
  · exact Lib.hid (fun j p k h => if_neg (fun ⟨h1, h2⟩ => h.elim (fun e => by rw [e] at h1; cases h1) (fun e => e h2)))
  · exact Lib.hid (fun j _ => ⟨exD_fold W H zs SW SH bs _ _ m, exD_ok hI SW SH bs _ _ m⟩)

/-! ### The examples -/
theorem a_conv (a a' : Option Addr) (c c' : Nat) (w : World) (hR : Row w a 3 (iv [1, 2, 3])) (hT : Row w a' 3 (iv [1, 0, -1])) :
    Calls Try.prog 20 #[.agg #[.int .i64 3, .int .i64 1, .slice a 3 c], .agg #[.int .i64 3, .int .i64 1, .slice a' 3 c'], .int .u8 3] w (RetI 3 1 [-1, 2, -1] 0 w) := by
  have h := convolve_ok 3 3 1 3 1 (by omega) a a' 3 c 3 c' [1, 2, 3] [1, 0, -1] (by decide) (by decide) (by decide) (by decide) w hR hT
  rwa [show (made 3 fun k => inR (cvN 3 3 1 [1, 2, 3] 3 1 [1, 0, -1] ((k : Int) % 3) ((k : Int) / 3) 3) (-2147483648) 2147483648) = [-1, 2, -1] by kernel_rfl] at h
theorem a_dil (a a' : Option Addr) (c c' : Nat) (w : World) (hR : Row w a 3 (iv [5, 1, 4])) (hT : Row w a' 3 (bv [true, true, true])) :
    Calls Try.prog 25 #[.agg #[.int .i64 3, .int .i64 1, .slice a 3 c], .agg #[.int .i64 3, .int .i64 1, .slice a' 3 c']] w (RetI 3 1 [5, 5, 4] 0 w) := by
  have h := dilate_ok 3 1 3 1 a a' 3 c 3 c' [5, 1, 4] [true, true, true] (by decide) (by decide) (by decide) (by decide) w hR hT
  rwa [show (made 3 fun k => exD 3 1 [5, 1, 4] 3 1 [true, true, true] ((k : Int) % 3) ((k : Int) / 3) 3) = [5, 5, 4] by kernel_rfl] at h
theorem a_turn (a : Option Addr) (c : Nat) (w : World) (hR : Row w a 6 (iv [1, 2, 3, 4, 5, 6])) :
    Calls Try.prog 49 #[.agg #[.int .i64 3, .int .i64 2, .slice a 6 c]] w (RetI 2 3 [4, 1, 5, 2, 6, 3] 0 w) := by
  have h := turn_ok 3 2 a 6 c [1, 2, 3, 4, 5, 6] (by decide) (by decide) w hR
  rwa [show (made ([1, 2, 3, 4, 5, 6] : List Int).length fun k => pixAt 3 [1, 2, 3, 4, 5, 6] ((k : Int) / 2) (2 - 1 - (k : Int) % 2)) = [4, 1, 5, 2, 6, 3] by kernel_rfl] at h
theorem a_point (a : Option Addr) (c : Nat) (w : World) (hR : Row w a 1 (iv [7])) :
    Calls Try.prog 15 #[.agg #[.int .i64 1, .int .i64 1, .slice a 1 c], .agg #[.int .i64 (-1), .int .i64 0, .int .i64 2, .int .i64 (-100), .int .i64 100]] w (RetI 1 1 [-4] 0 w) := by
  have h := point_ok 1 1 (-1) 0 2 (-100) 100 a 1 c [7] (by decide) (by decide) (by decide) w hR
  rwa [show (made 1 fun k => ptV (-1) 0 2 (-100) 100 (([7] : List Int)[k]?.getD 0)) = [-4] by kernel_rfl] at h
theorem a_box (a : Option Addr) (c : Nat) (w : World) (hR : Row w a 4 (iv [1, 2, 3, 4])) :
    Calls Try.prog 48 #[.agg #[.int .i64 2, .int .i64 2, .slice a 4 c], .int .i64 0, .int .i64 0, .int .i64 2, .int .i64 1] w fun e w' => e = .returned (.tuple #[.int .i64 3, .int .i64 0]) ∧ Below w.heap.size w w' := by
  have hI : okI 2 2 [1, 2, 3, 4] := by decide
  obtain ⟨bb, off, rfl, hbb, hlen, hc⟩ := row_vals2 hI hR (by omega)
  have h := (callsIn_wide (n := 9)).1 (box_in 9 (by omega) 2 2 0 0 2 1 bb off 4 c [1, 2, 3, 4] hI rfl (by omega) (by omega) w hbb hc (Lib.hid (fun w1 h1 => icheck_ok hI _ 4 c (by decide) w1 (hR.later h1))))
  rwa [show sumN (fun i => if inB 2 0 0 2 1 i then ([1, 2, 3, 4] : List Int)[i]?.getD 0 else 0) 4 = 3 by kernel_rfl] at h
end Go.Proofs.Ytghmjdmiaajbnaa
