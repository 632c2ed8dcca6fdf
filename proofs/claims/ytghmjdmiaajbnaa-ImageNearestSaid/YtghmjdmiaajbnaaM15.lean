/-
  The texts that the laws of this seat share, merged: part 15.
-/
import Derived.BigQuiet
import Derived.Carry
import Derived.Deep.CutRange
import Derived.Deep.DeepCutAuto
import Derived.Deep.Draws
import Derived.Deep.LoopGhost
import Derived.Deep.OwnRows
import Derived.Deep.QuietTactic
import Derived.Deep.RegionHeld3
import Derived.Laws.AppendOwn
import Derived.Laws.StructEq
import Derived.Lib.Hide
import Derived.LoopIn
import Derived.LoopNIn
import Derived.MapKept
import Derived.Maps.AppendAt
import Derived.OneCell
import Derived.Orders
import Derived.OwnWalkIn
import Derived.RangeFuncBound
import Derived.RangeFuncCalls
import Derived.RangeFuncLeaves
import Derived.RangeFuncNested
import Derived.Shelf.Abstract
import Derived.Shelf.AbstractIn
import Derived.Shelf.RegionOpen
import Derived.StillTailTactics
import Derived.TacticsIn
import Derived.TacticsInMore
import Derived.Test.YtghmjdmiaajbnaaProg
import Derived.WalkKit
import Derived.WalkSmall
import Derived.WalkSpells
import Derived.WideLaws
import Derived.Test.YtghmjdmiaajbnaaM2
import Derived.Test.YtghmjdmiaajbnaaM4
import Derived.Test.YtghmjdmiaajbnaaM7
import Derived.Test.YtghmjdmiaajbnaaM14
/-
  Layer 2: labels with four neighbours, by the code, for an image whose pixels are all alone.
-/
namespace Go.Proofs.Ytghmjdmiaajbnaa
open Go.RowKit Go.Shelf
set_option linter.unusedVariables false
set_option linter.unusedSimpArgs false

attribute [local go_sem] Oper.semAt_some

/-- The labels and their number when k pixels have come. -/
def labS (zs : List Int) (m : Nat) : Nat → List Int × Int
  | 0 => (List.replicate m 0, 0)
  | k + 1 => if zs[k]?.getD 0 = 0 then labS zs m k else ((labS zs m k).1.set k ((labS zs m k).2 + 1), (labS zs m k).2 + 1)
theorem labS_length (zs : List Int) (m k : Nat) : (labS zs m k).1.length = m := by
  induction k with
  | zero => exact List.length_replicate
  | succ k ih => unfold labS; split; exact ih; rw [List.length_set]; exact ih
theorem labS_rest (zs : List Int) (m k i : Nat) (hk : k ≤ i) (hi : i < m) : (labS zs m k).1[i]? = some 0 := by
  induction k with
  | zero => unfold labS; rw [List.getElem?_replicate, if_pos hi]
  | succ k ih =>
    unfold labS
    split
    · exact ih (by omega)
    · rw [List.getElem?_set_ne (by omega)]; exact ih (by omega)
theorem labS_bd (zs : List Int) (m k : Nat) : 0 ≤ (labS zs m k).2 ∧ (labS zs m k).2 ≤ (k : Int) := by
  induction k with
  | zero => exact ⟨Int.le_refl _, Int.le_refl _⟩
  | succ k ih => unfold labS; split <;> ((try dsimp only); omega)
theorem keepsFrom_grownG {B g : Nat} {X Y : World} (hg : X.grownBy Y (some g)) (h : g < B) : KeepsFrom B X Y :=
  ⟨hg.size, fun k o hBk hk _ => (hg.block k (Array.getElem?_eq_some_iff.1 hk).1 (fun e => by cases e; omega)).trans hk⟩
theorem below_grownG {w X Y : World} {g : Nat} (hB : Below w.heap.size w X) (hg : X.grownBy Y (some g)) (h : w.heap.size ≤ g) : Below w.heap.size w Y :=
  hB.grown hg hB.size (fun k hk => by cases hk; exact h)
theorem wpIn_gen {F : Fence} {n : Nat} {P : Program} {c : Code} {Q : Exit → Act → World → Prop} {a : Act} {W : World} (h : ∀ W0, W0 = W → c.wpIn F n P Q a W0) : c.wpIn F n P Q a W := h W rfl

set_option maxRecDepth 100000 in
set_option maxHeartbeats 8000000 in
theorem label_in (n : Nat) (hn : 3 ≤ n) (W H : Int) (bb off m c : Nat) (zs : List Int) (hI : okI W H zs) (hm : zs.length = m)
    (hlone : ∀ k : Nat, k < m → zs[k]?.getD 0 ≠ 0 → ∀ (j : Nat) (ox oy : Int), offs4[j]? = some (ox, oy) → inP W H ((k : Int) % W + ox) ((k : Int) / W + oy) → pixAt W zs ((k : Int) % W + ox) ((k : Int) / W + oy) = 0)
    (w : World) (hbb : bb < w.heap.size) (hR : ∀ j, j < m → ∃ z, ValR zs j z ∧ w.cell? ⟨bb, off + j, none⟩ = some (.int .i64 z)) (hRow : Row w (some ⟨bb, off, none⟩) m (iv zs))
    (HK : Hid (∀ w1, Below w.heap.size w w1 → Calls Try.prog 51 #[.agg #[.int .i64 W, .int .i64 H, .slice (some ⟨bb, off, none⟩) m c]] w1 fun e w' => e = .returned (.int .i64 0) ∧ Below w1.heap.size w1 w')) :
    CallsIn Fence.wide n Try.prog 27 #[.agg #[.int .i64 W, .int .i64 H, .slice (some ⟨bb, off, none⟩) m c], .bool false] w fun e w' => ∃ g, e = .returned (.tuple #[.agg #[.int .i64 W, .int .i64 H, .slice (some ⟨g, 0, none⟩) m m], .int .i64 (labS zs m m).2, .int .i64 0]) ∧ w.heap.size ≤ g ∧ Blk w' g (ints (labS zs m m).1) 3 ∧ Below w.heap.size w w' := by
  have HI := Lib.hid hI
  obtain ⟨⟨⟨w0, w1⟩, h0, h1⟩, hL, -⟩ := hI
  have hmul := okS_mul ⟨w0, w1⟩ ⟨h0, h1⟩
  have m1 : 1 ≤ m := by omega
  have m2 : m ≤ 256 := by omega
  have HR := Lib.hid hR
  have HRW := Lib.hid hRow
  have HLO := Lib.hid hlone
  have HWH : Hid (W * H = (m : Int)) := by show _ = _; omega
  have hmk := run_make_ints m (by omega)
  clear hR hL hmul hm hRow hlone
  refine callsIn_of_wp_marks Try.func27 rfl trivial ?_ rfl
  simp only [Try.ntmps27, List.size_toArray, List.length_cons, List.length_nil, Nat.reduceAdd, Nat.reduceSub, Array.replicate_succ, Array.replicate_zero, List.push_toArray, List.append_toArray, List.nil_append, List.cons_append]
  have n1 : 1 ≤ n := by omega
  have n2 : 1 ≤ n - 1 - 1 := by omega
  have hmx : Try.prog.follows .mixedOrders = true := by kernel_rfl
  gi_wp2_with ((try (refine ⟨trivial, ?_⟩)); gi_at_call 51; refine (callsIn_wide.2 (HK.out _ (by (repeat' (first | (with_reducible exact Below.refl _ _) | (with_reducible assumption) | (with_reducible refine belowThru ?_ (by assumption)) | (with_reducible refine belowAlloc ?_) | (with_reducible refine Below.setCell ?_ (by first | omega | (simp; done) | (simp; omega)) _) | (with_reducible refine Below.drew ?_) | (with_reducible refine below_drewN ?_ _)))))).mono ?_; rintro e wA ⟨rfl, hbA⟩; have km : Blk wA w.heap.size #[.int .i64 W, .int .i64 H, .slice (some ⟨bb, off, none⟩) m c] 24 := Blk.later hbA (Blk.alloc (Blk.alloc (Blk.new rfl))); have k8 : Blk wA (w.heap.size + 1) #[.bool false] 4 := Blk.later hbA (Blk.alloc (Blk.new (by simp))); have kZ : Blk wA (w.heap.size + 1 + 1) #[.int .i64 0, .int .i64 0, .slice none 0 0] 24 := Blk.later hbA (Blk.new (by simp)); obtain ⟨am, bm⟩ := km.read; obtain ⟨aZ, bZ⟩ := kZ.read; have zZ := kZ.lt; have zM := km.lt; have hBA : Below w.heap.size w wA := (by (repeat' (first | (with_reducible exact Below.refl _ _) | (with_reducible assumption) | (with_reducible refine belowThru ?_ (by assumption)) | (with_reducible refine belowAlloc ?_) | (with_reducible refine Below.setCell ?_ (by first | omega | (simp; done) | (simp; omega)) _) | (with_reducible refine Below.drew ?_) | (with_reducible refine below_drewN ?_ _)))))
  refine held_w (fun w' => (Blk w' w.heap.size #[.int .i64 W, .int .i64 H, .slice (some ⟨bb, off, none⟩) m c] 24 ∧ (∀ i : Nat, w'.cell? ⟨w.heap.size, i, none⟩ = (#[.int .i64 W, .int .i64 H, .slice (some ⟨bb, off, none⟩) m c] : Array Value)[i]?)) ∧ Below w.heap.size w w') hmx (by kernel_rfl) ⟨km.drew.full, hBA.drew⟩ (fun hHeld => ?_)
  refine wpAnyH_take (i := 0) (v := ?_) rfl (by kernel_rfl) (by kernel_rfl) (by kernel_rfl) (fun _ _ _ h => h) (Or.inl ⟨by rfl, ?hT0⟩) (by assumption) ?_
  case hT0 => ((intro w hSw; (try dsimp only at hSw); go_simp); try (with_reducible rfl))
  try simp only [Act.put, List.setIfInBounds_toArray, List.set_cons_zero, List.set_cons_succ]
  refine wpAnyH_take (i := 1) (v := ?_) rfl (by kernel_rfl) (by kernel_rfl) (by kernel_rfl) (fun _ _ _ h => h) (Or.inl ⟨by rfl, ?hT1⟩) (by assumption) ?_
  case hT1 => ((intro w hSw; (try dsimp only at hSw); go_simp); try (with_reducible rfl))
  try simp only [Act.put, List.setIfInBounds_toArray, List.set_cons_zero, List.set_cons_succ]
  refine wpAnyH_take (i := 2) (v := ?_) rfl (by kernel_rfl) (by kernel_rfl) (by kernel_rfl) (fun _ _ _ h => h) (Or.inl ⟨by rfl, ?hT2⟩) (by assumption) ?_
  case hT2 => ((intro w hSw; (try dsimp only at hSw); go_simp); try (with_reducible rfl))
  try simp only [Act.put, List.setIfInBounds_toArray, List.set_cons_zero, List.set_cons_succ]
  refine wpAnyH_take (i := 3) (v := ?_) rfl (by kernel_rfl) (by kernel_rfl) (by kernel_rfl) (fun _ _ _ h => h) (Or.inl ⟨by rfl, ?hT3⟩) (by assumption) ?_
  case hT3 => ((intro w hSw; (try dsimp only at hSw); go_simp); try (with_reducible rfl))
  try simp only [Act.put, List.setIfInBounds_toArray, List.set_cons_zero, List.set_cons_succ]
  refine wpAnyH_take (i := 4) (v := ?_) rfl (by kernel_rfl) (by kernel_rfl) (by kernel_rfl) (fun _ _ _ h => h) (Or.inl ⟨by rfl, ?hT4⟩) (by assumption) ?_
  case hT4 => ((intro w hSw; (try dsimp only at hSw); go_simp); try (with_reducible rfl))
  try simp only [Act.put, List.setIfInBounds_toArray, List.set_cons_zero, List.set_cons_succ]
  refine wpAnyH_take (i := 5) (v := ?_) rfl (by kernel_rfl) (by kernel_rfl) (by kernel_rfl) (fun _ _ _ h => h) (Or.inl ⟨by rfl, ?hT5⟩) (by assumption) ?_
  case hT5 => ((intro w hSw; (try dsimp only at hSw); go_simp); try (with_reducible rfl))
  try simp only [Act.put, List.setIfInBounds_toArray, List.set_cons_zero, List.set_cons_succ]
  refine wpAnyH_take (i := 6) (v := ?_) rfl (by kernel_rfl) (by kernel_rfl) (by kernel_rfl) (fun _ _ _ h => h) (Or.inl ⟨by rfl, ?hT6⟩) (by assumption) ?_
  case hT6 => ((intro w hSw; (try dsimp only at hSw); go_simp); try (with_reducible rfl))
  try simp only [Act.put, List.setIfInBounds_toArray, List.set_cons_zero, List.set_cons_succ]
  refine wpAnyH_ready (rs := [7, 9]) (by kernel_rfl) (by simp) ?_
  refine AllReadyH.cons rfl (fun K hK => ?_) (AllReadyH.cons rfl (fun K hK => ?_) AllReadyH.nil)
  · go_simp
    refine hK.out _ _ ?_ (fun hHeldN => ?_)
    · (try dsimp only); (((first | (apply hold1; (focus assumption); intro p0 pB) | skip); refine ⟨Blk.full ?_, ?_⟩; all_goals (first | ((repeat' (first | (with_reducible assumption) | ((with_reducible refine Blk.new ?_); first | rfl | (simp; done)) | (with_reducible refine Blk.later (by assumption) ?_) | (with_reducible refine Blk.alloc ?_) | (with_reducible refine Blk.drewN ?_) | (with_reducible refine Blk.drew ?_) | (with_reducible refine Blk.other ?_ (by first | omega | (simp; done) | (simp; omega))))); done) | ((repeat' (first | (with_reducible exact Below.refl _ _) | (with_reducible assumption) | (with_reducible refine belowThru ?_ (by assumption)) | (with_reducible refine belowAlloc ?_) | (with_reducible refine Below.setCell ?_ (by first | omega | (simp; done) | (simp; omega)) _) | (with_reducible refine Below.drew ?_) | (with_reducible refine below_drewN ?_ _))); done))))
    clear hK K hHeld
    have hHeld := hHeldN
    clear hHeldN
    try simp only [Act.put, List.setIfInBounds_toArray, List.set_cons_zero, List.set_cons_succ]
    refine wpAnyH_take (i := 8) (v := ?_) rfl (by kernel_rfl) (by kernel_rfl) (by kernel_rfl) (fun _ _ _ h => h) (Or.inl ⟨by rfl, ?hT7⟩) (by assumption) ?_
    case hT7 => ((intro w hSw; (try dsimp only at hSw); go_simp); try (with_reducible rfl))
    try simp only [Act.put, List.setIfInBounds_toArray, List.set_cons_zero, List.set_cons_succ]
    refine wpAnyH_ready (rs := [9]) (by kernel_rfl) (by simp) ?_
    refine AllReadyH.cons rfl (fun K hK => ?_) AllReadyH.nil
    go_simp
    refine hK.out _ _ ?_ (fun hHeldN => ?_)
    · (try dsimp only); (((first | (apply hold1; (focus assumption); intro p0 pB) | skip); refine ⟨Blk.full ?_, ?_⟩; all_goals (first | ((repeat' (first | (with_reducible assumption) | ((with_reducible refine Blk.new ?_); first | rfl | (simp; done)) | (with_reducible refine Blk.later (by assumption) ?_) | (with_reducible refine Blk.alloc ?_) | (with_reducible refine Blk.drewN ?_) | (with_reducible refine Blk.drew ?_) | (with_reducible refine Blk.other ?_ (by first | omega | (simp; done) | (simp; omega))))); done) | ((repeat' (first | (with_reducible exact Below.refl _ _) | (with_reducible assumption) | (with_reducible refine belowThru ?_ (by assumption)) | (with_reducible refine belowAlloc ?_) | (with_reducible refine Below.setCell ?_ (by first | omega | (simp; done) | (simp; omega)) _) | (with_reducible refine Below.drew ?_) | (with_reducible refine below_drewN ?_ _))); done))))
    clear hK K hHeld
    have hHeld := hHeldN
    clear hHeldN
    try simp only [Act.put, List.setIfInBounds_toArray, List.set_cons_zero, List.set_cons_succ]
    refine wpAnyH_ready (rs := [10]) (by kernel_rfl) (by simp) ?_
    refine AllReadyH.cons rfl (fun K hK => ?_) AllReadyH.nil
    go_simp
    refine hK.out _ _ ?_ (fun hHeldN => ?_)
    · (try dsimp only); (((first | (apply hold1; (focus assumption); intro p0 pB) | skip); refine ⟨Blk.full ?_, ?_⟩; all_goals (first | ((repeat' (first | (with_reducible assumption) | ((with_reducible refine Blk.new ?_); first | rfl | (simp; done)) | (with_reducible refine Blk.later (by assumption) ?_) | (with_reducible refine Blk.alloc ?_) | (with_reducible refine Blk.drewN ?_) | (with_reducible refine Blk.drew ?_) | (with_reducible refine Blk.other ?_ (by first | omega | (simp; done) | (simp; omega))))); done) | ((repeat' (first | (with_reducible exact Below.refl _ _) | (with_reducible assumption) | (with_reducible refine belowThru ?_ (by assumption)) | (with_reducible refine belowAlloc ?_) | (with_reducible refine Below.setCell ?_ (by first | omega | (simp; done) | (simp; omega)) _) | (with_reducible refine Below.drew ?_) | (with_reducible refine below_drewN ?_ _))); done))))
    clear hK K hHeld
    have hHeld := hHeldN
    clear hHeldN
    try simp only [Act.put, List.setIfInBounds_toArray, List.set_cons_zero, List.set_cons_succ]
    refine wpAnyH_done (by kernel_rfl) ?_ _
    unfold onlyN
    obtain ⟨⟨q0, -⟩, qB⟩ := hHeld
    obtain ⟨c0, d0⟩ := q0.read
    have yq : w.heap.size < wA.heap.size + 1 + 1 := by omega
    gi_wp2_with ((try (refine ⟨trivial, ?_⟩)); gi_at_call 69; refine (callsIn_wide.2 (pixels_any _ _ _ _ _ _)).mono ?_; rintro e w' ⟨rfl, rfl⟩)
    refine wpIn_gen ?_
    intro W0 hW0
    have kN : Blk W0 wA.heap.size (ints (List.replicate m 0)) 3 := by rw [hW0]; (repeat' (first | (with_reducible assumption) | ((with_reducible refine Blk.new ?_); first | rfl | (simp; done)) | (with_reducible refine Blk.later (by assumption) ?_) | (with_reducible refine Blk.alloc ?_) | (with_reducible refine Blk.drewN ?_) | (with_reducible refine Blk.drew ?_) | (with_reducible refine Blk.other ?_ (by first | omega | (simp; done) | (simp; omega)))))
    have kB : Blk W0 (wA.heap.size + 1) #[.int .i64 W, .int .i64 H, .slice (some ⟨wA.heap.size, 0, none⟩) m m] 86 := by rw [hW0]; exact Blk.alloc (Blk.alloc (Blk.new (by simp)))
    have kC : Blk W0 (wA.heap.size + 1 + 1) #[.int .i64 0] 3 := by rw [hW0]; exact Blk.alloc (Blk.new (by simp))
    have kP : Blk W0 (wA.heap.size + 1 + 1 + 1) #[.int .i64 W, .int .i64 H, .slice (some ⟨bb, off, none⟩) m c] 86 := by rw [hW0]; exact Blk.new (by simp)
    have hB9 : Below wA.heap.size wA W0 := by rw [hW0]; (repeat' (first | (with_reducible exact Below.refl _ _) | (with_reducible assumption) | (with_reducible refine belowThru ?_ (by assumption)) | (with_reducible refine belowAlloc ?_) | (with_reducible refine Below.setCell ?_ (by first | omega | (simp; done) | (simp; omega)) _) | (with_reducible refine Below.drew ?_) | (with_reducible refine below_drewN ?_ _)))
    have hsz : W0.heap.size = wA.heap.size + 1 + 1 + 1 + 1 := by rw [hW0]; simp
    have km0 := Blk.later hB9 km
    have k80 := Blk.later hB9 k8
    have kZ0 := Blk.later hB9 kZ
    have hB0 : Below w.heap.size w W0 := hBA.trans (hB9.mono hBA.size)
    clear hW0 q0 qB c0 d0
    have hG0 : PixG (wA.heap.size + 1 + 1 + 1) bb off m c W H (ValR zs) W0 :=
      ⟨kP.cells 0, kP.cells 1, kP.cells 2, fun j hj => by obtain ⟨z, hz, hc⟩ := HR.out j hj; exact ⟨z, hz, cell_later hB0 hc⟩⟩
    refine wpIn_rangeFunc_ownH rfl n1 (gf := 110) (lb := #[.pointer (some ⟨wA.heap.size + 1 + 1 + 1, 0, none⟩)]) rfl trivial (enters_of Try.func110 (by kernel_rfl) rfl)
      (pix_stops (n - 1) (wA.heap.size + 1 + 1 + 1) bb off m c W H (ValR zs) (by omega) w0 (by omega) W0 (by omega) (by omega) hG0)
      (fun hAB hBC hA => hBC (hAB hA))
      (fun W1 l o o' hl ho hc _ hG => PixG.putObj hG ho hc)
      (Below.refl _ _) (fun _ => rfl)
      (fun pre W1 => (∃ ls cnt, ls.length = m ∧ (PixAll pre.length pre → (ls, cnt) = labS zs m pre.length) ∧ Blk W1 wA.heap.size (ints ls) 3 ∧ Blk W1 (wA.heap.size + 1 + 1) #[.int .i64 cnt] 3) ∧ (Blk W1 w.heap.size #[.int .i64 W, .int .i64 H, .slice (some ⟨bb, off, none⟩) m c] 24 ∧ Blk W1 (w.heap.size + 1) #[.bool false] 4 ∧ Blk W1 (w.heap.size + 1 + 1) #[.int .i64 0, .int .i64 0, .slice none 0 0] 24 ∧ Blk W1 (wA.heap.size + 1) #[.int .i64 W, .int .i64 H, .slice (some ⟨wA.heap.size, 0, none⟩) m m] 86 ∧ Blk W1 (wA.heap.size + 1 + 1 + 1) #[.int .i64 W, .int .i64 H, .slice (some ⟨bb, off, none⟩) m c] 86) ∧ Below w.heap.size w W1)
      (fun _ _ _ => False)
      (fun s X Y row hs hg hr => by
        obtain ⟨⟨ls, cnt, hl, hp, b5, b6⟩, ⟨b0, b1, b2, b3, b4⟩, hb⟩ := hs
        have hr' := fun r e => (hr r e).2
        exact ⟨⟨ls, cnt, hl, hp, b5.own hg hr', b6.own hg hr'⟩, ⟨b0.own hg hr', b1.own hg hr', b2.own hg hr', b3.own hg hr', b4.own hg hr'⟩, ownFrom_below (β := Unit) (Nat.le_refl _) hB0.size () X Y row hb hg hr⟩)
      (fun _ _ _ _ _ hs _ _ => hs)
      ⟨⟨_, 0, List.length_replicate, fun _ => rfl, kN, kC⟩, ⟨km0, k80, kZ0, kB, kP⟩, hB0⟩
      (fun x a' W1 => ∃ Bx, Blk W1 Bx #[.int .i64 ((x.1.1 : Int) % W), .int .i64 ((x.1.1 : Int) / W)] 83 ∧ wA.heap.size + 1 + 1 + 1 < Bx ∧ a' = { tmps := #[.agg #[.int .i64 W, .int .i64 H, .slice (some ⟨bb, off, none⟩) m c], .bool false, .pointer (some ⟨w.heap.size, 0, none⟩), .pointer (some ⟨w.heap.size + 1, 0, none⟩), .pointer (some ⟨w.heap.size + 1 + 1, 0, none⟩), .int .i64 0, .int .i64 0, .int .i64 0, .pointer (some ⟨(wA.heap.size + 1), 0, none⟩), .pointer (some ⟨wA.heap.size + 1 + 1, 0, none⟩), .pointer (some ⟨Bx, 0, none⟩), .int .i64 x.1.2, .agg #[.int .i64 W, .int .i64 H, .slice (some ⟨bb, off, none⟩) m c], .int .i64 0, .int .i64 0, .bool false, undef, undef, .pointer (some ⟨w.heap.size, 0, none⟩), .int .i64 W, .pointer (some ⟨w.heap.size, 1, none⟩), .int .i64 H, .pointer (some ⟨w.heap.size, 2, none⟩), .slice (some ⟨bb, off, none⟩) m c, .int .i64 m, .slice (some ⟨wA.heap.size, 0, none⟩) m m, .agg #[.int .i64 W, .int .i64 H, .slice (some ⟨wA.heap.size, 0, none⟩) m m], .agg #[.int .i64 W, .int .i64 H, .slice (some ⟨bb, off, none⟩) m c], .func (.func 110) #[] #[.pointer (some ⟨wA.heap.size + 1 + 1 + 1, 0, none⟩)], .agg #[.int .i64 ((x.1.1 : Int) % W), .int .i64 ((x.1.1 : Int) / W)], .int .i64 x.1.2, undef, undef, undef, undef, undef, undef, undef, undef, undef, undef, undef, undef, undef, undef, undef, undef, undef, undef, undef], defers := [] })
      (fun x a' _ X Y row hs hg hr => by obtain ⟨Bx, h1, h2, h3⟩ := hs; exact ⟨Bx, h1.own hg (fun r e => (hr r e).2), h2, h3⟩)
      ?assign ?body ?done ?stop
    case assign =>
      rintro l pre x W1 K ⟨⟨ls, cnt, hl, hp, b5, b6⟩, ⟨b0, b1, b2, b3, b4⟩, hb⟩ hK
      have hsz1 := b4.lt
      simp only [pxEnc]
      gi_wp2
      exact hK _ _ ((KeepsOthers.alloc _ _).from _) (fun hG => hG.alloc _) ⟨⟨ls, cnt, hl, hp, b5.alloc, b6.alloc⟩, ⟨b0.alloc, b1.alloc, b2.alloc, b3.alloc, b4.alloc⟩, hb.alloc hb.size _⟩ ⟨W1.heap.size, Blk.new rfl, by omega, rfl⟩
    case body =>
      rintro l pre x a' W1 hl _ ⟨⟨ls, cnt, hln, hp, k5, k6⟩, ⟨k0, k1, kz, k3, k4⟩, hB⟩ ⟨Bx, k2, hx, rfl⟩ hlt
      obtain ⟨⟨k, z⟩, hk, ht⟩ := x
      dsimp only at hk k2 ⊢
      have hplace := place_in (W := W) (H := H) ⟨w0, w1⟩ ⟨h0, h1⟩ HWH.out hk
      have hdm : (k : Int) / W * W + (k : Int) % W = (k : Int) := by have := Int.mul_ediv_add_emod (k : Int) W; rw [Int.mul_comm]; omega
      have hzk : zs[k]? = some z := ht.1
      have hlo := HLO.out k hk
      obtain ⟨px, hpx⟩ : ∃ px, (k : Int) % W = px := ⟨_, rfl⟩
      obtain ⟨py, hpy⟩ : ∃ py, (k : Int) / W = py := ⟨_, rfl⟩
      rw [hpx, hpy] at k2 hplace hdm hlo ⊢
      have HDM := Lib.hid hdm
      have HZK := Lib.hid hzk
      obtain ⟨u, hu⟩ : ∃ u, ls[k]? = some u := ⟨ls[k]'(by omega), List.getElem?_eq_getElem (by omega)⟩
      have HU := Lib.hid hu
      have HAT : Hid (∀ w1, Blk w1 wA.heap.size (ints ls) 3 → Calls Try.prog 57 #[.agg #[.int .i64 W, .int .i64 H, .slice (some ⟨wA.heap.size, 0, none⟩) m m], .agg #[.int .i64 px, .int .i64 py]] w1 fun e w' => e = .returned (.int .i64 u) ∧ Below w1.heap.size w1 w') := fun w1 q => at_any W H px py k wA.heap.size 0 m m u HDM hplace.2.1 (by have := hplace.2.2; omega) (by omega) (by omega) hplace.1.1 (by have := hplace.1.2; omega) hk w1 (by rw [q.cells, ints_get, Nat.zero_add, HU.out]; rfl)
      have HP := Lib.hid hp
      have HPL := Lib.hid hplace
      have HLN := Lib.hid hln
      have hmB := hB.size
      have hsz1 := k4.lt
      obtain ⟨d8, e8⟩ := k3.read; obtain ⟨dx, ex⟩ := k2.read
      clear hpx hpy hplace hdm hzk hu hp hln hG0 kN kB kP kC km0 k80 kZ0 km k8 kZ hB9
      by_cases hz0 : z = 0
      · subst hz0
        have HK3 : Hid (PixAll (pre ++ [(⟨(k, 0), hk, ht⟩ : Pel m (ValR zs))]).length (pre ++ [(⟨(k, 0), hk, ht⟩ : Pel m (ValR zs))]) → (ls, cnt) = labS zs m (pre ++ [(⟨(k, 0), hk, ht⟩ : Pel m (ValR zs))]).length) := by
          intro hall
          rw [List.length_append, List.length_singleton] at hall ⊢
          obtain ⟨ha, hb⟩ := hall.cut2
          have hb' : k = pre.length := hb
          have hz9 : zs[pre.length]?.getD 0 = 0 := by rw [← hb', HZK.out]; rfl
          rw [HP.out ha]
          show _ = if zs[pre.length]?.getD 0 = 0 then _ else _
          rw [if_pos hz9]
        gi_wp2
        refine ⟨trivial, ?_⟩
        gi_wp2
        exact ⟨(KeepsOthers.refl _).from _, fun hG => hG, ⟨⟨ls, cnt, HLN.out, HK3.out, k5, k6⟩, ⟨k0, k1, kz, k3, k4⟩, hB⟩⟩
      · have hzb : (z != 0) = true := by simpa using hz0
        have hzc : (z == 0) = false := by simpa using hz0
        by_cases hu0 : u = 0
        · subst hu0
          have HNA : Hid (∀ (v : Int) (B4 : Nat) (w2 : World), Row w2 (some ⟨bb, off, none⟩) m (iv zs) → Blk w2 wA.heap.size (ints ls) 3 → Blk w2 B4 cells4 83 → Calls Try.prog 72 #[.agg #[.int .i64 W, .int .i64 H, .slice (some ⟨bb, off, none⟩) m c], .agg #[.int .i64 W, .int .i64 H, .slice (some ⟨wA.heap.size, 0, none⟩) m m], .agg #[.int .i64 px, .int .i64 py], .int .i64 v, .slice (some ⟨B4, 0, none⟩) 4 4] w2 fun e w' => e = .returned (.tuple #[]) ∧ w2.grownBy w' (some wA.heap.size) ∧ Blk w' wA.heap.size (ints (ls.set k v)) 3) := fun v B4 w2 hr q q4 => number_alone W H px py v k wA.heap.size m B4 (some ⟨bb, off, none⟩) m c zs ls HI.out HPL.out HDM.out hk HLN.out (hlo (by rw [HZK.out]; exact hz0)) w2 hr (fun ad e => by cases e; dsimp only; omega) q q4
          obtain ⟨v, hv⟩ : ∃ v, IntKind.i64.wrap (cnt + 1) = v := ⟨_, rfl⟩
          have HK3 : Hid (PixAll (pre ++ [(⟨(k, z), hk, ht⟩ : Pel m (ValR zs))]).length (pre ++ [(⟨(k, z), hk, ht⟩ : Pel m (ValR zs))]) → (ls.set k v, v) = labS zs m (pre ++ [(⟨(k, z), hk, ht⟩ : Pel m (ValR zs))]).length) := by
            intro hall
            rw [List.length_append, List.length_singleton] at hall ⊢
            obtain ⟨ha, hb⟩ := hall.cut2
            have hb' : k = pre.length := hb
            have e1 := HP.out ha
            have hbd := labS_bd zs m pre.length
            have hz9 : ¬ zs[pre.length]?.getD 0 = 0 := by rw [← hb', HZK.out]; exact hz0
            have e2 : ls = (labS zs m pre.length).1 := congrArg Prod.fst e1
            have e3 : cnt = (labS zs m pre.length).2 := congrArg Prod.snd e1
            have e4 : v = cnt + 1 := by rw [← hv]; exact IntWalk.i64_in _ (by omega)
            show _ = if zs[pre.length]?.getD 0 = 0 then _ else _
            rw [if_neg hz9, e4, e2, e3, hb']
          obtain ⟨d6, e6⟩ := k6.read
          clear hlo
          gi_wp2_with ((try (refine ⟨trivial, ?_⟩)); gi_at_call 57; refine (callsIn_of_calls (HAT.out _ (by (repeat' (first | (with_reducible assumption) | ((with_reducible refine Blk.new ?_); first | rfl | (simp; done)) | (with_reducible refine Blk.later (by assumption) ?_) | (with_reducible refine Blk.alloc ?_) | (with_reducible refine Blk.drewN ?_) | (with_reducible refine Blk.drew ?_) | (with_reducible refine Blk.other ?_ (by first | omega | (simp; done) | (simp; omega)))))))).mono ?_; rintro e wB ⟨rfl, hbB⟩; have hA : Below W1.heap.size W1 wB := (by (repeat' (first | (with_reducible exact Below.refl _ _) | (with_reducible assumption) | (with_reducible refine belowThru ?_ (by assumption)) | (with_reducible refine belowAlloc ?_) | (with_reducible refine Below.setCell ?_ (by first | omega | (simp; done) | (simp; omega)) _) | (with_reducible refine Below.drew ?_) | (with_reducible refine below_drewN ?_ _)))); have q0 := Blk.later hA k0; have q1 := Blk.later hA k1; have qz := Blk.later hA kz; have q2 := Blk.later hA k2; have q3 := Blk.later hA k3; have q4 := Blk.later hA k4; have q5 := Blk.later hA k5; have q6 := Blk.later hA k6; obtain ⟨g6, f6⟩ := q6.read)
          have hBB : Below w.heap.size w wB := hB.trans (hA.mono hB.size)
          have hWB := hBB.size
          have yB := q4.lt
          refine held_in (fun w' => (Blk w' w.heap.size #[.int .i64 W, .int .i64 H, .slice (some ⟨bb, off, none⟩) m c] 24 ∧ (∀ i : Nat, w'.cell? ⟨w.heap.size, i, none⟩ = (#[.int .i64 W, .int .i64 H, .slice (some ⟨bb, off, none⟩) m c] : Array Value)[i]?)) ∧ (Blk w' (wA.heap.size + 1) #[.int .i64 W, .int .i64 H, .slice (some ⟨wA.heap.size, 0, none⟩) m m] 86 ∧ (∀ i : Nat, w'.cell? ⟨(wA.heap.size + 1), i, none⟩ = (#[.int .i64 W, .int .i64 H, .slice (some ⟨wA.heap.size, 0, none⟩) m m] : Array Value)[i]?)) ∧ (Blk w' Bx #[.int .i64 px, .int .i64 py] 83 ∧ (∀ i : Nat, w'.cell? ⟨Bx, i, none⟩ = (#[.int .i64 px, .int .i64 py] : Array Value)[i]?)) ∧ (Blk w' (wA.heap.size + 1 + 1) #[.int .i64 v] 3 ∧ (∀ i : Nat, w'.cell? ⟨(wA.heap.size + 1 + 1), i, none⟩ = (#[.int .i64 v] : Array Value)[i]?)) ∧ (Blk w' (w.heap.size + 1) #[.bool false] 4 ∧ (∀ i : Nat, w'.cell? ⟨(w.heap.size + 1), i, none⟩ = (#[.bool false] : Array Value)[i]?)) ∧ Blk w' (w.heap.size + 1 + 1) #[.int .i64 0, .int .i64 0, .slice none 0 0] 24 ∧ Blk w' (wA.heap.size + 1 + 1 + 1) #[.int .i64 W, .int .i64 H, .slice (some ⟨bb, off, none⟩) m c] 86 ∧ KeepsFrom W0.heap.size W1 w' ∧ (PixG (wA.heap.size + 1 + 1 + 1) bb off m c W H (ValR zs) W1 → PixG (wA.heap.size + 1 + 1 + 1) bb off m c W H (ValR zs) w') ∧ Below w.heap.size w w') hmx (by kernel_rfl) (by rintro ⟨_, _, h⟩; exact h) ⟨Blk.full (Blk.drew (Blk.other q0 (by first | omega | (simp; done) | (simp; omega)))), Blk.full (Blk.drew (Blk.other q3 (by first | omega | (simp; done) | (simp; omega)))), Blk.full (Blk.drew (Blk.other q2 (by first | omega | (simp; done) | (simp; omega)))), Blk.full (Blk.drew (Blk.set q6)), Blk.full (Blk.drew (Blk.other q1 (by first | omega | (simp; done) | (simp; omega)))), Blk.drew (Blk.other qz (by first | omega | (simp; done) | (simp; omega))), Blk.drew (Blk.other q4 (by first | omega | (simp; done) | (simp; omega))), (KeepsFrom.set (KeepsFrom.of_below hA) _ _).trans ((KeepsOthers.drew _).from _), fun hG => (((hG.later hA).set (by omega) (by omega))).drew, (Below.setCell hBB (by first | omega | (simp; done) | (simp; omega)) _).drew⟩ (fun hHeld => ?_)
          refine wpAnyH_take (i := 0) (v := ?_) rfl (by kernel_rfl) (by kernel_rfl) (by kernel_rfl) (fun _ _ _ h => h) (Or.inl ⟨by rfl, ?hT8⟩) (by assumption) ?_
          case hT8 => ((intro w hSw; (try dsimp only at hSw); go_simp); try (with_reducible rfl))
          try simp only [Act.put, List.setIfInBounds_toArray, List.set_cons_zero, List.set_cons_succ]
          refine wpAnyH_take (i := 1) (v := ?_) rfl (by kernel_rfl) (by kernel_rfl) (by kernel_rfl) (fun _ _ _ h => h) (Or.inl ⟨by rfl, ?hT9⟩) (by assumption) ?_
          case hT9 => ((intro w hSw; (try dsimp only at hSw); go_simp); try (with_reducible rfl))
          try simp only [Act.put, List.setIfInBounds_toArray, List.set_cons_zero, List.set_cons_succ]
          refine wpAnyH_take (i := 2) (v := ?_) rfl (by kernel_rfl) (by kernel_rfl) (by kernel_rfl) (fun _ _ _ h => h) (Or.inl ⟨by rfl, ?hT10⟩) (by assumption) ?_
          case hT10 => ((intro w hSw; (try dsimp only at hSw); go_simp); try (with_reducible rfl))
          try simp only [Act.put, List.setIfInBounds_toArray, List.set_cons_zero, List.set_cons_succ]
          refine wpAnyH_take (i := 3) (v := ?_) rfl (by kernel_rfl) (by kernel_rfl) (by kernel_rfl) (fun _ _ _ h => h) (Or.inl ⟨by rfl, ?hT11⟩) (by assumption) ?_
          case hT11 => ((intro w hSw; (try dsimp only at hSw); go_simp); try (with_reducible rfl))
          try simp only [Act.put, List.setIfInBounds_toArray, List.set_cons_zero, List.set_cons_succ]
          refine wpAnyH_take (i := 4) (v := ?_) rfl (by kernel_rfl) (by kernel_rfl) (by kernel_rfl) (fun _ _ _ h => h) (Or.inl ⟨by rfl, ?hT12⟩) (by assumption) ?_
          case hT12 => ((intro w hSw; (try dsimp only at hSw); go_simp); try (with_reducible rfl))
          try simp only [Act.put, List.setIfInBounds_toArray, List.set_cons_zero, List.set_cons_succ]
          refine wpAnyH_ready (rs := [5]) (by kernel_rfl) (by simp) ?_
          refine AllReadyH.cons rfl (fun K hK => ?_) AllReadyH.nil
          go_simp
          (go_at_call 73; (with_reducible refine (around4_any _).mono ?_); rintro e wC ⟨rfl, kC4, hb⟩)
          refine hK.out _ _ ?_ (fun hHeldN => ?_)
          · (try dsimp only); (obtain ⟨⟨p0, -⟩, ⟨p1, -⟩, ⟨p2, -⟩, ⟨p3, -⟩, ⟨p4, -⟩, p5, p6, p7, p8, p9⟩ := hHeld; exact ⟨Blk.full (Blk.later hb p0), Blk.full (Blk.later hb p1), Blk.full (Blk.later hb p2), Blk.full (Blk.later hb p3), Blk.full (Blk.later hb p4), Blk.later hb p5, Blk.later hb p6, KeepsFrom.call p7 hb, fun hG => (p8 hG).later hb, p9.trans (hb.mono p9.size)⟩)
          clear hK K hHeld
          have hHeld := hHeldN
          clear hHeldN
          try simp only [Act.put, List.setIfInBounds_toArray, List.set_cons_zero, List.set_cons_succ]
          have pN := Blk.later hb (Blk.drew (Blk.other q5 (by first | omega | (simp; done) | (simp; omega))))
          clear hb
          refine wpAnyH_ready (rs := [6]) (by kernel_rfl) (by simp) ?_
          refine AllReadyH.cons rfl (fun K hK => ?_) AllReadyH.nil
          go_simp
          obtain ⟨⟨p0, -⟩, ⟨p1, -⟩, ⟨p2, -⟩, ⟨p3, -⟩, ⟨p4, -⟩, p5, p6, p7, p8, p9⟩ := hHeld
          (go_at_call 72; (with_reducible refine (HNA.out v wB.heap.size _ (HRW.out.later p9) pN (by simpa using kC4)).mono ?_); rintro e wD ⟨rfl, hg, kND⟩)
          refine hK.out _ _ ?_ (fun hHeldN => ?_)
          · (try dsimp only)
            have y0 := p0.lt; have y1 := p9.size
            exact ⟨Blk.full (Blk.but hg (fun g e => by cases e; omega) p0), Blk.full (Blk.but hg (fun g e => by cases e; omega) p1), Blk.full (Blk.but hg (fun g e => by cases e; omega) p2), Blk.full (Blk.but hg (fun g e => by cases e; omega) p3), Blk.full (Blk.but hg (fun g e => by cases e; omega) p4), Blk.but hg (fun g e => by cases e; omega) p5, Blk.but hg (fun g e => by cases e; omega) p6, p7.trans (keepsFrom_grownG hg (by omega)), fun hG => PixG.grown hg (fun g e => by cases e; omega) (fun g e => by cases e; omega) p6.lt (by omega) (p8 hG), below_grownG p9 hg (by omega)⟩
          clear hK K
          refine wpAnyH_done (by kernel_rfl) ?_ _
          obtain ⟨⟨r0, -⟩, ⟨r1, -⟩, ⟨r2, -⟩, ⟨r3, -⟩, ⟨r4, -⟩, r5, r6, r7, r8, r9⟩ := hHeldN
          gi_wp2
          exact ⟨r7, r8, ⟨⟨_, v, (by rw [List.length_set]; exact HLN.out), HK3.out, kND, r3⟩, ⟨r0, r4, r5, r1, r6⟩, r9⟩⟩
        · have hub : (u == 0) = false := by simpa using hu0
          have HK3 : Hid (PixAll (pre ++ [(⟨(k, z), hk, ht⟩ : Pel m (ValR zs))]).length (pre ++ [(⟨(k, z), hk, ht⟩ : Pel m (ValR zs))]) → (ls, cnt) = labS zs m (pre ++ [(⟨(k, z), hk, ht⟩ : Pel m (ValR zs))]).length) := by
            intro hall
            rw [List.length_append, List.length_singleton] at hall ⊢
            obtain ⟨ha, hb⟩ := hall.cut2
            have hb' : k = pre.length := hb
            have e1 := HP.out ha
            have e2 : ls = (labS zs m pre.length).1 := congrArg Prod.fst e1
            have e5 := labS_rest zs m pre.length k (by omega) hk
            rw [← e2, HU.out] at e5
            exact absurd (Option.some.inj e5) hu0
          gi_wp2_with ((try (refine ⟨trivial, ?_⟩)); gi_at_call 57; refine (callsIn_of_calls (HAT.out _ (by (repeat' (first | (with_reducible assumption) | ((with_reducible refine Blk.new ?_); first | rfl | (simp; done)) | (with_reducible refine Blk.later (by assumption) ?_) | (with_reducible refine Blk.alloc ?_) | (with_reducible refine Blk.drewN ?_) | (with_reducible refine Blk.drew ?_) | (with_reducible refine Blk.other ?_ (by first | omega | (simp; done) | (simp; omega)))))))).mono ?_; rintro e wB ⟨rfl, hbB⟩; have hA : Below W1.heap.size W1 wB := (by (repeat' (first | (with_reducible exact Below.refl _ _) | (with_reducible assumption) | (with_reducible refine belowThru ?_ (by assumption)) | (with_reducible refine belowAlloc ?_) | (with_reducible refine Below.setCell ?_ (by first | omega | (simp; done) | (simp; omega)) _) | (with_reducible refine Below.drew ?_) | (with_reducible refine below_drewN ?_ _)))); have q0 := Blk.later hA k0; have q1 := Blk.later hA k1; have qz := Blk.later hA kz; have q2 := Blk.later hA k2; have q3 := Blk.later hA k3; have q4 := Blk.later hA k4; have q5 := Blk.later hA k5; have q6 := Blk.later hA k6; obtain ⟨g6, f6⟩ := q6.read)
          exact ⟨KeepsFrom.of_below hA, fun hG => hG.later hA, ⟨⟨ls, cnt, HLN.out, HK3.out, q5, q6⟩, ⟨q0, q1, qz, q3, q4⟩, hB.trans (hA.mono hB.size)⟩⟩
    case done =>
      rintro D xs W1 hD hall ⟨⟨ls, cnt, hln, hp, k5, k6⟩, ⟨k0, k1, kz, k3, k4⟩, hB⟩ hK
      have hp2 := hp (by rw [hall.length]; exact hall)
      rw [hall.length] at hp2
      obtain rfl : ls = (labS zs m m).1 := congrArg Prod.fst hp2
      obtain rfl : cnt = (labS zs m m).2 := congrArg Prod.snd hp2
      clear hp hp2 hln
      have hWs := hB.size
      have hbz := kz.lt
      have hb5 := k5.lt
      obtain ⟨eZ, fZ⟩ := kz.read
      gi_wp2
      refine held_w (fun w' => (Blk w' (wA.heap.size + 1) #[.int .i64 W, .int .i64 H, .slice (some ⟨wA.heap.size, 0, none⟩) m m] 86 ∧ (∀ i : Nat, w'.cell? ⟨(wA.heap.size + 1), i, none⟩ = (#[.int .i64 W, .int .i64 H, .slice (some ⟨wA.heap.size, 0, none⟩) m m] : Array Value)[i]?)) ∧ (Blk w' (wA.heap.size + 1 + 1) #[.int .i64 (labS zs m m).2] 3 ∧ (∀ i : Nat, w'.cell? ⟨(wA.heap.size + 1 + 1), i, none⟩ = (#[.int .i64 (labS zs m m).2] : Array Value)[i]?)) ∧ Below w.heap.size w w') hmx (by kernel_rfl) ⟨k3.drew.full, k6.drew.full, hB.drew⟩ (fun hHeld => ?_)
      refine wpAnyH_take (i := 0) (v := ?_) rfl (by kernel_rfl) (by kernel_rfl) (by kernel_rfl) (fun _ _ _ h => h) (Or.inl ⟨by rfl, ?hT13⟩) (by assumption) ?_
      case hT13 => ((intro w hSw; (try dsimp only at hSw); go_simp); try (with_reducible rfl))
      try simp only [Act.put, List.setIfInBounds_toArray, List.set_cons_zero, List.set_cons_succ]
      refine wpAnyH_take (i := 1) (v := ?_) rfl (by kernel_rfl) (by kernel_rfl) (by kernel_rfl) (fun _ _ _ h => h) (Or.inl ⟨by rfl, ?hT14⟩) (by assumption) ?_
      case hT14 => ((intro w hSw; (try dsimp only at hSw); go_simp); try (with_reducible rfl))
      try simp only [Act.put, List.setIfInBounds_toArray, List.set_cons_zero, List.set_cons_succ]
      refine wpAnyH_ready (rs := [2]) (by kernel_rfl) (by simp) ?_
      refine AllReadyH.cons rfl (fun K hK => ?_) AllReadyH.nil
      go_simp
      refine hK.out _ _ ?_ (fun hHeldN => ?_)
      · (try dsimp only); (obtain ⟨⟨p0, -⟩, ⟨p1, -⟩, pB⟩ := hHeld; exact ⟨Blk.full (Blk.other (Blk.other (Blk.other p0 (by simp; omega)) (by simp; omega)) (by simp; omega)), Blk.full (Blk.other (Blk.other (Blk.other p1 (by simp; omega)) (by simp; omega)) (by simp; omega)), by (repeat' (first | (with_reducible exact Below.refl _ _) | (with_reducible assumption) | (with_reducible refine belowThru ?_ (by assumption)) | (with_reducible refine belowAlloc ?_) | (with_reducible refine Below.setCell ?_ (by first | omega | (simp; done) | (simp; omega)) _) | (with_reducible refine Below.drew ?_) | (with_reducible refine below_drewN ?_ _)))⟩)
      clear hK K hHeld
      have hHeld := hHeldN
      clear hHeldN
      try simp only [Act.put, List.setIfInBounds_toArray, List.set_cons_zero, List.set_cons_succ]
      refine wpAnyH_take (i := 3) (v := ?_) rfl (by kernel_rfl) (by kernel_rfl) (by kernel_rfl) (fun _ _ _ h => h) (Or.inl ⟨by rfl, ?hT15⟩) (by assumption) ?_
      case hT15 => ((intro w hSw; (try dsimp only at hSw); go_simp); try (with_reducible rfl))
      try simp only [Act.put, List.setIfInBounds_toArray, List.set_cons_zero, List.set_cons_succ]
      refine wpAnyH_take (i := 4) (v := ?_) rfl (by kernel_rfl) (by kernel_rfl) (by kernel_rfl) (fun _ _ _ h => h) (Or.inl ⟨by rfl, ?hT16⟩) (by assumption) ?_
      case hT16 => ((intro w hSw; (try dsimp only at hSw); go_simp); try (with_reducible rfl))
      try simp only [Act.put, List.setIfInBounds_toArray, List.set_cons_zero, List.set_cons_succ]
      refine wpAnyH_done (by kernel_rfl) ?_ _
      obtain ⟨-, -, qB⟩ := hHeld
      have kr : Blk ((((W1.setCell ⟨w.heap.size + 1 + 1, 0, none⟩ (.int .i64 W)).setCell ⟨w.heap.size + 1 + 1, 1, none⟩ (.int .i64 H)).setCell ⟨w.heap.size + 1 + 1, 2, none⟩ (.slice (some ⟨wA.heap.size, 0, none⟩) m m)).drew) (w.heap.size + 1 + 1) #[.int .i64 W, .int .i64 H, .slice (some ⟨wA.heap.size, 0, none⟩) m m] 24 := Blk.drew (Blk.set (Blk.set (Blk.set kz)))
      have kq : Blk ((((W1.setCell ⟨w.heap.size + 1 + 1, 0, none⟩ (.int .i64 W)).setCell ⟨w.heap.size + 1 + 1, 1, none⟩ (.int .i64 H)).setCell ⟨w.heap.size + 1 + 1, 2, none⟩ (.slice (some ⟨wA.heap.size, 0, none⟩) m m)).drew) wA.heap.size (ints (labS zs m m).1) 3 := Blk.drew (Blk.other (Blk.other (Blk.other k5 (by simp; omega)) (by simp; omega)) (by simp; omega))
      have hKf : ((((W1.setCell ⟨w.heap.size + 1 + 1, 0, none⟩ (.int .i64 W)).setCell ⟨w.heap.size + 1 + 1, 1, none⟩ (.int .i64 H)).setCell ⟨w.heap.size + 1 + 1, 2, none⟩ (.slice (some ⟨wA.heap.size, 0, none⟩) m m)).drew).heap[D]? = some (.deferred (some [])) := (Below.heap_setCell _ _ _ D (by simp; omega)).trans ((Below.heap_setCell _ _ _ D (by simp; omega)).trans ((Below.heap_setCell _ _ _ D (by simp; omega)).trans hK))
      unfold onlyN
      gi_wp2
      obtain ⟨Wf, hWf⟩ : ∃ Wf, (((W1.setCell ⟨w.heap.size + 1 + 1, 0, none⟩ (.int .i64 W)).setCell ⟨w.heap.size + 1 + 1, 1, none⟩ (.int .i64 H)).setCell ⟨w.heap.size + 1 + 1, 2, none⟩ (.slice (some ⟨wA.heap.size, 0, none⟩) m m)).drew = Wf := ⟨_, rfl⟩
      rw [hWf] at kr kq hKf qB ⊢
      clear hWf
      have kr2 := kr.own (grownBy_putObj' Wf D (.deferred none)) (fun r e => by cases e; exact ⟨_, hKf, rfl⟩)
      have kz2 := kq.own (grownBy_putObj' Wf D (.deferred none)) (fun r e => by cases e; exact ⟨_, hKf, rfl⟩)
      have er := kr2.read.1
      refine ⟨by simp, .inl ⟨_, _, rfl, run_takeDeferred hKf, ?_⟩⟩
      refine ⟨.tuple #[.agg #[.int .i64 W, .int .i64 H, .slice (some ⟨wA.heap.size, 0, none⟩) m m], .int .i64 (labS zs m m).2, .int .i64 0], ?_, _, rfl, by omega, kz2, qB.trans (belowK_b (w := w) (Nat.le_refl _) Wf D _ _ (by omega) hKf rfl rfl)⟩
      simp only [results, Try.results27]
      go_simp
    case stop =>
      rintro D cc pre W1 _ _ h _
      exact h.elim
  · go_simp
    refine hK.out _ _ ?_ (fun hHeldN => ?_)
    · (try dsimp only); (((first | (apply hold1; (focus assumption); intro p0 pB) | skip); refine ⟨Blk.full ?_, ?_⟩; all_goals (first | ((repeat' (first | (with_reducible assumption) | ((with_reducible refine Blk.new ?_); first | rfl | (simp; done)) | (with_reducible refine Blk.later (by assumption) ?_) | (with_reducible refine Blk.alloc ?_) | (with_reducible refine Blk.drewN ?_) | (with_reducible refine Blk.drew ?_) | (with_reducible refine Blk.other ?_ (by first | omega | (simp; done) | (simp; omega))))); done) | ((repeat' (first | (with_reducible exact Below.refl _ _) | (with_reducible assumption) | (with_reducible refine belowThru ?_ (by assumption)) | (with_reducible refine belowAlloc ?_) | (with_reducible refine Below.setCell ?_ (by first | omega | (simp; done) | (simp; omega)) _) | (with_reducible refine Below.drew ?_) | (with_reducible refine below_drewN ?_ _))); done))))
    clear hK K hHeld
    have hHeld := hHeldN
    clear hHeldN
    try simp only [Act.put, List.setIfInBounds_toArray, List.set_cons_zero, List.set_cons_succ]
    refine wpAnyH_ready (rs := [7]) (by kernel_rfl) (by simp) ?_
    refine AllReadyH.cons rfl (fun K hK => ?_) AllReadyH.nil
    go_simp
    refine hK.out _ _ ?_ (fun hHeldN => ?_)
    · (try dsimp only); (((first | (apply hold1; (focus assumption); intro p0 pB) | skip); refine ⟨Blk.full ?_, ?_⟩; all_goals (first | ((repeat' (first | (with_reducible assumption) | ((with_reducible refine Blk.new ?_); first | rfl | (simp; done)) | (with_reducible refine Blk.later (by assumption) ?_) | (with_reducible refine Blk.alloc ?_) | (with_reducible refine Blk.drewN ?_) | (with_reducible refine Blk.drew ?_) | (with_reducible refine Blk.other ?_ (by first | omega | (simp; done) | (simp; omega))))); done) | ((repeat' (first | (with_reducible exact Below.refl _ _) | (with_reducible assumption) | (with_reducible refine belowThru ?_ (by assumption)) | (with_reducible refine belowAlloc ?_) | (with_reducible refine Below.setCell ?_ (by first | omega | (simp; done) | (simp; omega)) _) | (with_reducible refine Below.drew ?_) | (with_reducible refine below_drewN ?_ _))); done))))
    clear hK K hHeld
    have hHeld := hHeldN
    clear hHeldN
    try simp only [Act.put, List.setIfInBounds_toArray, List.set_cons_zero, List.set_cons_succ]
    refine wpAnyH_take (i := 8) (v := ?_) rfl (by kernel_rfl) (by kernel_rfl) (by kernel_rfl) (fun _ _ _ h => h) (Or.inl ⟨by rfl, ?hT17⟩) (by assumption) ?_
    case hT17 => ((intro w hSw; (try dsimp only at hSw); go_simp); try (with_reducible rfl))
    try simp only [Act.put, List.setIfInBounds_toArray, List.set_cons_zero, List.set_cons_succ]
    refine wpAnyH_ready (rs := [10]) (by kernel_rfl) (by simp) ?_
    refine AllReadyH.cons rfl (fun K hK => ?_) AllReadyH.nil
    go_simp
    refine hK.out _ _ ?_ (fun hHeldN => ?_)
    · (try dsimp only); (((first | (apply hold1; (focus assumption); intro p0 pB) | skip); refine ⟨Blk.full ?_, ?_⟩; all_goals (first | ((repeat' (first | (with_reducible assumption) | ((with_reducible refine Blk.new ?_); first | rfl | (simp; done)) | (with_reducible refine Blk.later (by assumption) ?_) | (with_reducible refine Blk.alloc ?_) | (with_reducible refine Blk.drewN ?_) | (with_reducible refine Blk.drew ?_) | (with_reducible refine Blk.other ?_ (by first | omega | (simp; done) | (simp; omega))))); done) | ((repeat' (first | (with_reducible exact Below.refl _ _) | (with_reducible assumption) | (with_reducible refine belowThru ?_ (by assumption)) | (with_reducible refine belowAlloc ?_) | (with_reducible refine Below.setCell ?_ (by first | omega | (simp; done) | (simp; omega)) _) | (with_reducible refine Below.drew ?_) | (with_reducible refine below_drewN ?_ _))); done))))
    clear hK K hHeld
    have hHeld := hHeldN
    clear hHeldN
    try simp only [Act.put, List.setIfInBounds_toArray, List.set_cons_zero, List.set_cons_succ]
    refine wpAnyH_done (by kernel_rfl) ?_ _
    unfold onlyN
    obtain ⟨⟨q0, -⟩, qB⟩ := hHeld
    obtain ⟨c0, d0⟩ := q0.read
    have yq : w.heap.size < wA.heap.size + 1 + 1 := by omega
    gi_wp2_with ((try (refine ⟨trivial, ?_⟩)); gi_at_call 69; refine (callsIn_wide.2 (pixels_any _ _ _ _ _ _)).mono ?_; rintro e w' ⟨rfl, rfl⟩)
    refine wpIn_gen ?_
    intro W0 hW0
    have kN : Blk W0 (wA.heap.size + 1) (ints (List.replicate m 0)) 3 := by rw [hW0]; (repeat' (first | (with_reducible assumption) | ((with_reducible refine Blk.new ?_); first | rfl | (simp; done)) | (with_reducible refine Blk.later (by assumption) ?_) | (with_reducible refine Blk.alloc ?_) | (with_reducible refine Blk.drewN ?_) | (with_reducible refine Blk.drew ?_) | (with_reducible refine Blk.other ?_ (by first | omega | (simp; done) | (simp; omega)))))
    have kB : Blk W0 wA.heap.size #[.int .i64 W, .int .i64 H, .slice (some ⟨(wA.heap.size + 1), 0, none⟩) m m] 86 := by rw [hW0]; exact Blk.alloc (Blk.alloc (Blk.alloc (Blk.new rfl)))
    have kC : Blk W0 (wA.heap.size + 1 + 1) #[.int .i64 0] 3 := by rw [hW0]; exact Blk.alloc (Blk.new (by simp))
    have kP : Blk W0 (wA.heap.size + 1 + 1 + 1) #[.int .i64 W, .int .i64 H, .slice (some ⟨bb, off, none⟩) m c] 86 := by rw [hW0]; exact Blk.new (by simp)
    have hB9 : Below wA.heap.size wA W0 := by rw [hW0]; (repeat' (first | (with_reducible exact Below.refl _ _) | (with_reducible assumption) | (with_reducible refine belowThru ?_ (by assumption)) | (with_reducible refine belowAlloc ?_) | (with_reducible refine Below.setCell ?_ (by first | omega | (simp; done) | (simp; omega)) _) | (with_reducible refine Below.drew ?_) | (with_reducible refine below_drewN ?_ _)))
    have hsz : W0.heap.size = wA.heap.size + 1 + 1 + 1 + 1 := by rw [hW0]; simp
    have km0 := Blk.later hB9 km
    have k80 := Blk.later hB9 k8
    have kZ0 := Blk.later hB9 kZ
    have hB0 : Below w.heap.size w W0 := hBA.trans (hB9.mono hBA.size)
    clear hW0 q0 qB c0 d0
    have hG0 : PixG (wA.heap.size + 1 + 1 + 1) bb off m c W H (ValR zs) W0 :=
      ⟨kP.cells 0, kP.cells 1, kP.cells 2, fun j hj => by obtain ⟨z, hz, hc⟩ := HR.out j hj; exact ⟨z, hz, cell_later hB0 hc⟩⟩
    refine wpIn_rangeFunc_ownH rfl n1 (gf := 110) (lb := #[.pointer (some ⟨wA.heap.size + 1 + 1 + 1, 0, none⟩)]) rfl trivial (enters_of Try.func110 (by kernel_rfl) rfl)
      (pix_stops (n - 1) (wA.heap.size + 1 + 1 + 1) bb off m c W H (ValR zs) (by omega) w0 (by omega) W0 (by omega) (by omega) hG0)
      (fun hAB hBC hA => hBC (hAB hA))
      (fun W1 l o o' hl ho hc _ hG => PixG.putObj hG ho hc)
      (Below.refl _ _) (fun _ => rfl)
      (fun pre W1 => (∃ ls cnt, ls.length = m ∧ (PixAll pre.length pre → (ls, cnt) = labS zs m pre.length) ∧ Blk W1 (wA.heap.size + 1) (ints ls) 3 ∧ Blk W1 (wA.heap.size + 1 + 1) #[.int .i64 cnt] 3) ∧ (Blk W1 w.heap.size #[.int .i64 W, .int .i64 H, .slice (some ⟨bb, off, none⟩) m c] 24 ∧ Blk W1 (w.heap.size + 1) #[.bool false] 4 ∧ Blk W1 (w.heap.size + 1 + 1) #[.int .i64 0, .int .i64 0, .slice none 0 0] 24 ∧ Blk W1 wA.heap.size #[.int .i64 W, .int .i64 H, .slice (some ⟨(wA.heap.size + 1), 0, none⟩) m m] 86 ∧ Blk W1 (wA.heap.size + 1 + 1 + 1) #[.int .i64 W, .int .i64 H, .slice (some ⟨bb, off, none⟩) m c] 86) ∧ Below w.heap.size w W1)
      (fun _ _ _ => False)
      (fun s X Y row hs hg hr => by
        obtain ⟨⟨ls, cnt, hl, hp, b5, b6⟩, ⟨b0, b1, b2, b3, b4⟩, hb⟩ := hs
        have hr' := fun r e => (hr r e).2
        exact ⟨⟨ls, cnt, hl, hp, b5.own hg hr', b6.own hg hr'⟩, ⟨b0.own hg hr', b1.own hg hr', b2.own hg hr', b3.own hg hr', b4.own hg hr'⟩, ownFrom_below (β := Unit) (Nat.le_refl _) hB0.size () X Y row hb hg hr⟩)
      (fun _ _ _ _ _ hs _ _ => hs)
      ⟨⟨_, 0, List.length_replicate, fun _ => rfl, kN, kC⟩, ⟨km0, k80, kZ0, kB, kP⟩, hB0⟩
      (fun x a' W1 => ∃ Bx, Blk W1 Bx #[.int .i64 ((x.1.1 : Int) % W), .int .i64 ((x.1.1 : Int) / W)] 83 ∧ wA.heap.size + 1 + 1 + 1 < Bx ∧ a' = { tmps := #[.agg #[.int .i64 W, .int .i64 H, .slice (some ⟨bb, off, none⟩) m c], .bool false, .pointer (some ⟨w.heap.size, 0, none⟩), .pointer (some ⟨w.heap.size + 1, 0, none⟩), .pointer (some ⟨w.heap.size + 1 + 1, 0, none⟩), .int .i64 0, .int .i64 0, .int .i64 0, .pointer (some ⟨wA.heap.size, 0, none⟩), .pointer (some ⟨wA.heap.size + 1 + 1, 0, none⟩), .pointer (some ⟨Bx, 0, none⟩), .int .i64 x.1.2, .agg #[.int .i64 W, .int .i64 H, .slice (some ⟨bb, off, none⟩) m c], .int .i64 0, .int .i64 0, .bool false, undef, undef, .pointer (some ⟨w.heap.size, 0, none⟩), .int .i64 W, .pointer (some ⟨w.heap.size, 1, none⟩), .int .i64 H, .pointer (some ⟨w.heap.size, 2, none⟩), .slice (some ⟨bb, off, none⟩) m c, .int .i64 m, .slice (some ⟨(wA.heap.size + 1), 0, none⟩) m m, .agg #[.int .i64 W, .int .i64 H, .slice (some ⟨(wA.heap.size + 1), 0, none⟩) m m], .agg #[.int .i64 W, .int .i64 H, .slice (some ⟨bb, off, none⟩) m c], .func (.func 110) #[] #[.pointer (some ⟨wA.heap.size + 1 + 1 + 1, 0, none⟩)], .agg #[.int .i64 ((x.1.1 : Int) % W), .int .i64 ((x.1.1 : Int) / W)], .int .i64 x.1.2, undef, undef, undef, undef, undef, undef, undef, undef, undef, undef, undef, undef, undef, undef, undef, undef, undef, undef, undef], defers := [] })
      (fun x a' _ X Y row hs hg hr => by obtain ⟨Bx, h1, h2, h3⟩ := hs; exact ⟨Bx, h1.own hg (fun r e => (hr r e).2), h2, h3⟩)
      ?assign ?body ?done ?stop
    case assign =>
      rintro l pre x W1 K ⟨⟨ls, cnt, hl, hp, b5, b6⟩, ⟨b0, b1, b2, b3, b4⟩, hb⟩ hK
      have hsz1 := b4.lt
      simp only [pxEnc]
      gi_wp2
      exact hK _ _ ((KeepsOthers.alloc _ _).from _) (fun hG => hG.alloc _) ⟨⟨ls, cnt, hl, hp, b5.alloc, b6.alloc⟩, ⟨b0.alloc, b1.alloc, b2.alloc, b3.alloc, b4.alloc⟩, hb.alloc hb.size _⟩ ⟨W1.heap.size, Blk.new rfl, by omega, rfl⟩
    case body =>
      rintro l pre x a' W1 hl _ ⟨⟨ls, cnt, hln, hp, k5, k6⟩, ⟨k0, k1, kz, k3, k4⟩, hB⟩ ⟨Bx, k2, hx, rfl⟩ hlt
      obtain ⟨⟨k, z⟩, hk, ht⟩ := x
      dsimp only at hk k2 ⊢
      have hplace := place_in (W := W) (H := H) ⟨w0, w1⟩ ⟨h0, h1⟩ HWH.out hk
      have hdm : (k : Int) / W * W + (k : Int) % W = (k : Int) := by have := Int.mul_ediv_add_emod (k : Int) W; rw [Int.mul_comm]; omega
      have hzk : zs[k]? = some z := ht.1
      have hlo := HLO.out k hk
      obtain ⟨px, hpx⟩ : ∃ px, (k : Int) % W = px := ⟨_, rfl⟩
      obtain ⟨py, hpy⟩ : ∃ py, (k : Int) / W = py := ⟨_, rfl⟩
      rw [hpx, hpy] at k2 hplace hdm hlo ⊢
      have HDM := Lib.hid hdm
      have HZK := Lib.hid hzk
      obtain ⟨u, hu⟩ : ∃ u, ls[k]? = some u := ⟨ls[k]'(by omega), List.getElem?_eq_getElem (by omega)⟩
      have HU := Lib.hid hu
      have HAT : Hid (∀ w1, Blk w1 (wA.heap.size + 1) (ints ls) 3 → Calls Try.prog 57 #[.agg #[.int .i64 W, .int .i64 H, .slice (some ⟨(wA.heap.size + 1), 0, none⟩) m m], .agg #[.int .i64 px, .int .i64 py]] w1 fun e w' => e = .returned (.int .i64 u) ∧ Below w1.heap.size w1 w') := fun w1 q => at_any W H px py k (wA.heap.size + 1) 0 m m u HDM hplace.2.1 (by have := hplace.2.2; omega) (by omega) (by omega) hplace.1.1 (by have := hplace.1.2; omega) hk w1 (by rw [q.cells, ints_get, Nat.zero_add, HU.out]; rfl)
      have HP := Lib.hid hp
      have HPL := Lib.hid hplace
      have HLN := Lib.hid hln
      have hmB := hB.size
      have hsz1 := k4.lt
      obtain ⟨d8, e8⟩ := k3.read; obtain ⟨dx, ex⟩ := k2.read
      clear hpx hpy hplace hdm hzk hu hp hln hG0 kN kB kP kC km0 k80 kZ0 km k8 kZ hB9
      by_cases hz0 : z = 0
      · subst hz0
        have HK3 : Hid (PixAll (pre ++ [(⟨(k, 0), hk, ht⟩ : Pel m (ValR zs))]).length (pre ++ [(⟨(k, 0), hk, ht⟩ : Pel m (ValR zs))]) → (ls, cnt) = labS zs m (pre ++ [(⟨(k, 0), hk, ht⟩ : Pel m (ValR zs))]).length) := by
          intro hall
          rw [List.length_append, List.length_singleton] at hall ⊢
          obtain ⟨ha, hb⟩ := hall.cut2
          have hb' : k = pre.length := hb
          have hz9 : zs[pre.length]?.getD 0 = 0 := by rw [← hb', HZK.out]; rfl
          rw [HP.out ha]
          show _ = if zs[pre.length]?.getD 0 = 0 then _ else _
          rw [if_pos hz9]
        gi_wp2
        refine ⟨trivial, ?_⟩
        gi_wp2
        exact ⟨(KeepsOthers.refl _).from _, fun hG => hG, ⟨⟨ls, cnt, HLN.out, HK3.out, k5, k6⟩, ⟨k0, k1, kz, k3, k4⟩, hB⟩⟩
      · have hzb : (z != 0) = true := by simpa using hz0
        have hzc : (z == 0) = false := by simpa using hz0
        by_cases hu0 : u = 0
        · subst hu0
          have HNA : Hid (∀ (v : Int) (B4 : Nat) (w2 : World), Row w2 (some ⟨bb, off, none⟩) m (iv zs) → Blk w2 (wA.heap.size + 1) (ints ls) 3 → Blk w2 B4 cells4 83 → Calls Try.prog 72 #[.agg #[.int .i64 W, .int .i64 H, .slice (some ⟨bb, off, none⟩) m c], .agg #[.int .i64 W, .int .i64 H, .slice (some ⟨(wA.heap.size + 1), 0, none⟩) m m], .agg #[.int .i64 px, .int .i64 py], .int .i64 v, .slice (some ⟨B4, 0, none⟩) 4 4] w2 fun e w' => e = .returned (.tuple #[]) ∧ w2.grownBy w' (some (wA.heap.size + 1)) ∧ Blk w' (wA.heap.size + 1) (ints (ls.set k v)) 3) := fun v B4 w2 hr q q4 => number_alone W H px py v k (wA.heap.size + 1) m B4 (some ⟨bb, off, none⟩) m c zs ls HI.out HPL.out HDM.out hk HLN.out (hlo (by rw [HZK.out]; exact hz0)) w2 hr (fun ad e => by cases e; dsimp only; omega) q q4
          obtain ⟨v, hv⟩ : ∃ v, IntKind.i64.wrap (cnt + 1) = v := ⟨_, rfl⟩
          have HK3 : Hid (PixAll (pre ++ [(⟨(k, z), hk, ht⟩ : Pel m (ValR zs))]).length (pre ++ [(⟨(k, z), hk, ht⟩ : Pel m (ValR zs))]) → (ls.set k v, v) = labS zs m (pre ++ [(⟨(k, z), hk, ht⟩ : Pel m (ValR zs))]).length) := by
            intro hall
            rw [List.length_append, List.length_singleton] at hall ⊢
            obtain ⟨ha, hb⟩ := hall.cut2
            have hb' : k = pre.length := hb
            have e1 := HP.out ha
            have hbd := labS_bd zs m pre.length
            have hz9 : ¬ zs[pre.length]?.getD 0 = 0 := by rw [← hb', HZK.out]; exact hz0
            have e2 : ls = (labS zs m pre.length).1 := congrArg Prod.fst e1
            have e3 : cnt = (labS zs m pre.length).2 := congrArg Prod.snd e1
            have e4 : v = cnt + 1 := by rw [← hv]; exact IntWalk.i64_in _ (by omega)
            show _ = if zs[pre.length]?.getD 0 = 0 then _ else _
            rw [if_neg hz9, e4, e2, e3, hb']
          obtain ⟨d6, e6⟩ := k6.read
          clear hlo
          gi_wp2_with ((try (refine ⟨trivial, ?_⟩)); gi_at_call 57; refine (callsIn_of_calls (HAT.out _ (by (repeat' (first | (with_reducible assumption) | ((with_reducible refine Blk.new ?_); first | rfl | (simp; done)) | (with_reducible refine Blk.later (by assumption) ?_) | (with_reducible refine Blk.alloc ?_) | (with_reducible refine Blk.drewN ?_) | (with_reducible refine Blk.drew ?_) | (with_reducible refine Blk.other ?_ (by first | omega | (simp; done) | (simp; omega)))))))).mono ?_; rintro e wB ⟨rfl, hbB⟩; have hA : Below W1.heap.size W1 wB := (by (repeat' (first | (with_reducible exact Below.refl _ _) | (with_reducible assumption) | (with_reducible refine belowThru ?_ (by assumption)) | (with_reducible refine belowAlloc ?_) | (with_reducible refine Below.setCell ?_ (by first | omega | (simp; done) | (simp; omega)) _) | (with_reducible refine Below.drew ?_) | (with_reducible refine below_drewN ?_ _)))); have q0 := Blk.later hA k0; have q1 := Blk.later hA k1; have qz := Blk.later hA kz; have q2 := Blk.later hA k2; have q3 := Blk.later hA k3; have q4 := Blk.later hA k4; have q5 := Blk.later hA k5; have q6 := Blk.later hA k6; obtain ⟨g6, f6⟩ := q6.read)
          have hBB : Below w.heap.size w wB := hB.trans (hA.mono hB.size)
          have hWB := hBB.size
          have yB := q4.lt
          refine held_in (fun w' => (Blk w' w.heap.size #[.int .i64 W, .int .i64 H, .slice (some ⟨bb, off, none⟩) m c] 24 ∧ (∀ i : Nat, w'.cell? ⟨w.heap.size, i, none⟩ = (#[.int .i64 W, .int .i64 H, .slice (some ⟨bb, off, none⟩) m c] : Array Value)[i]?)) ∧ (Blk w' wA.heap.size #[.int .i64 W, .int .i64 H, .slice (some ⟨(wA.heap.size + 1), 0, none⟩) m m] 86 ∧ (∀ i : Nat, w'.cell? ⟨wA.heap.size, i, none⟩ = (#[.int .i64 W, .int .i64 H, .slice (some ⟨(wA.heap.size + 1), 0, none⟩) m m] : Array Value)[i]?)) ∧ (Blk w' Bx #[.int .i64 px, .int .i64 py] 83 ∧ (∀ i : Nat, w'.cell? ⟨Bx, i, none⟩ = (#[.int .i64 px, .int .i64 py] : Array Value)[i]?)) ∧ (Blk w' (wA.heap.size + 1 + 1) #[.int .i64 v] 3 ∧ (∀ i : Nat, w'.cell? ⟨(wA.heap.size + 1 + 1), i, none⟩ = (#[.int .i64 v] : Array Value)[i]?)) ∧ (Blk w' (w.heap.size + 1) #[.bool false] 4 ∧ (∀ i : Nat, w'.cell? ⟨(w.heap.size + 1), i, none⟩ = (#[.bool false] : Array Value)[i]?)) ∧ Blk w' (w.heap.size + 1 + 1) #[.int .i64 0, .int .i64 0, .slice none 0 0] 24 ∧ Blk w' (wA.heap.size + 1 + 1 + 1) #[.int .i64 W, .int .i64 H, .slice (some ⟨bb, off, none⟩) m c] 86 ∧ KeepsFrom W0.heap.size W1 w' ∧ (PixG (wA.heap.size + 1 + 1 + 1) bb off m c W H (ValR zs) W1 → PixG (wA.heap.size + 1 + 1 + 1) bb off m c W H (ValR zs) w') ∧ Below w.heap.size w w') hmx (by kernel_rfl) (by rintro ⟨_, _, h⟩; exact h) ⟨Blk.full (Blk.drew (Blk.other q0 (by first | omega | (simp; done) | (simp; omega)))), Blk.full (Blk.drew (Blk.other q3 (by first | omega | (simp; done) | (simp; omega)))), Blk.full (Blk.drew (Blk.other q2 (by first | omega | (simp; done) | (simp; omega)))), Blk.full (Blk.drew (Blk.set q6)), Blk.full (Blk.drew (Blk.other q1 (by first | omega | (simp; done) | (simp; omega)))), Blk.drew (Blk.other qz (by first | omega | (simp; done) | (simp; omega))), Blk.drew (Blk.other q4 (by first | omega | (simp; done) | (simp; omega))), (KeepsFrom.set (KeepsFrom.of_below hA) _ _).trans ((KeepsOthers.drew _).from _), fun hG => (((hG.later hA).set (by omega) (by omega))).drew, (Below.setCell hBB (by first | omega | (simp; done) | (simp; omega)) _).drew⟩ (fun hHeld => ?_)
          refine wpAnyH_take (i := 0) (v := ?_) rfl (by kernel_rfl) (by kernel_rfl) (by kernel_rfl) (fun _ _ _ h => h) (Or.inl ⟨by rfl, ?hT18⟩) (by assumption) ?_
          case hT18 => ((intro w hSw; (try dsimp only at hSw); go_simp); try (with_reducible rfl))
          try simp only [Act.put, List.setIfInBounds_toArray, List.set_cons_zero, List.set_cons_succ]
          refine wpAnyH_take (i := 1) (v := ?_) rfl (by kernel_rfl) (by kernel_rfl) (by kernel_rfl) (fun _ _ _ h => h) (Or.inl ⟨by rfl, ?hT19⟩) (by assumption) ?_
          case hT19 => ((intro w hSw; (try dsimp only at hSw); go_simp); try (with_reducible rfl))
          try simp only [Act.put, List.setIfInBounds_toArray, List.set_cons_zero, List.set_cons_succ]
          refine wpAnyH_take (i := 2) (v := ?_) rfl (by kernel_rfl) (by kernel_rfl) (by kernel_rfl) (fun _ _ _ h => h) (Or.inl ⟨by rfl, ?hT20⟩) (by assumption) ?_
          case hT20 => ((intro w hSw; (try dsimp only at hSw); go_simp); try (with_reducible rfl))
          try simp only [Act.put, List.setIfInBounds_toArray, List.set_cons_zero, List.set_cons_succ]
          refine wpAnyH_take (i := 3) (v := ?_) rfl (by kernel_rfl) (by kernel_rfl) (by kernel_rfl) (fun _ _ _ h => h) (Or.inl ⟨by rfl, ?hT21⟩) (by assumption) ?_
          case hT21 => ((intro w hSw; (try dsimp only at hSw); go_simp); try (with_reducible rfl))
          try simp only [Act.put, List.setIfInBounds_toArray, List.set_cons_zero, List.set_cons_succ]
          refine wpAnyH_take (i := 4) (v := ?_) rfl (by kernel_rfl) (by kernel_rfl) (by kernel_rfl) (fun _ _ _ h => h) (Or.inl ⟨by rfl, ?hT22⟩) (by assumption) ?_
          case hT22 => ((intro w hSw; (try dsimp only at hSw); go_simp); try (with_reducible rfl))
          try simp only [Act.put, List.setIfInBounds_toArray, List.set_cons_zero, List.set_cons_succ]
          refine wpAnyH_ready (rs := [5]) (by kernel_rfl) (by simp) ?_
          refine AllReadyH.cons rfl (fun K hK => ?_) AllReadyH.nil
          go_simp
          (go_at_call 73; (with_reducible refine (around4_any _).mono ?_); rintro e wC ⟨rfl, kC4, hb⟩)
          refine hK.out _ _ ?_ (fun hHeldN => ?_)
          · (try dsimp only); (obtain ⟨⟨p0, -⟩, ⟨p1, -⟩, ⟨p2, -⟩, ⟨p3, -⟩, ⟨p4, -⟩, p5, p6, p7, p8, p9⟩ := hHeld; exact ⟨Blk.full (Blk.later hb p0), Blk.full (Blk.later hb p1), Blk.full (Blk.later hb p2), Blk.full (Blk.later hb p3), Blk.full (Blk.later hb p4), Blk.later hb p5, Blk.later hb p6, KeepsFrom.call p7 hb, fun hG => (p8 hG).later hb, p9.trans (hb.mono p9.size)⟩)
          clear hK K hHeld
          have hHeld := hHeldN
          clear hHeldN
          try simp only [Act.put, List.setIfInBounds_toArray, List.set_cons_zero, List.set_cons_succ]
          have pN := Blk.later hb (Blk.drew (Blk.other q5 (by first | omega | (simp; done) | (simp; omega))))
          clear hb
          refine wpAnyH_ready (rs := [6]) (by kernel_rfl) (by simp) ?_
          refine AllReadyH.cons rfl (fun K hK => ?_) AllReadyH.nil
          go_simp
          obtain ⟨⟨p0, -⟩, ⟨p1, -⟩, ⟨p2, -⟩, ⟨p3, -⟩, ⟨p4, -⟩, p5, p6, p7, p8, p9⟩ := hHeld
          (go_at_call 72; (with_reducible refine (HNA.out v wB.heap.size _ (HRW.out.later p9) pN (by simpa using kC4)).mono ?_); rintro e wD ⟨rfl, hg, kND⟩)
          refine hK.out _ _ ?_ (fun hHeldN => ?_)
          · (try dsimp only)
            have y0 := p0.lt; have y1 := p9.size
            exact ⟨Blk.full (Blk.but hg (fun g e => by cases e; omega) p0), Blk.full (Blk.but hg (fun g e => by cases e; omega) p1), Blk.full (Blk.but hg (fun g e => by cases e; omega) p2), Blk.full (Blk.but hg (fun g e => by cases e; omega) p3), Blk.full (Blk.but hg (fun g e => by cases e; omega) p4), Blk.but hg (fun g e => by cases e; omega) p5, Blk.but hg (fun g e => by cases e; omega) p6, p7.trans (keepsFrom_grownG hg (by omega)), fun hG => PixG.grown hg (fun g e => by cases e; omega) (fun g e => by cases e; omega) p6.lt (by omega) (p8 hG), below_grownG p9 hg (by omega)⟩
          clear hK K
          refine wpAnyH_done (by kernel_rfl) ?_ _
          obtain ⟨⟨r0, -⟩, ⟨r1, -⟩, ⟨r2, -⟩, ⟨r3, -⟩, ⟨r4, -⟩, r5, r6, r7, r8, r9⟩ := hHeldN
          gi_wp2
          exact ⟨r7, r8, ⟨⟨_, v, (by rw [List.length_set]; exact HLN.out), HK3.out, kND, r3⟩, ⟨r0, r4, r5, r1, r6⟩, r9⟩⟩
        · have hub : (u == 0) = false := by simpa using hu0
          have HK3 : Hid (PixAll (pre ++ [(⟨(k, z), hk, ht⟩ : Pel m (ValR zs))]).length (pre ++ [(⟨(k, z), hk, ht⟩ : Pel m (ValR zs))]) → (ls, cnt) = labS zs m (pre ++ [(⟨(k, z), hk, ht⟩ : Pel m (ValR zs))]).length) := by
            intro hall
            rw [List.length_append, List.length_singleton] at hall ⊢
            obtain ⟨ha, hb⟩ := hall.cut2
            have hb' : k = pre.length := hb
            have e1 := HP.out ha
            have e2 : ls = (labS zs m pre.length).1 := congrArg Prod.fst e1
            have e5 := labS_rest zs m pre.length k (by omega) hk
            rw [← e2, HU.out] at e5
            exact absurd (Option.some.inj e5) hu0
          gi_wp2_with ((try (refine ⟨trivial, ?_⟩)); gi_at_call 57; refine (callsIn_of_calls (HAT.out _ (by (repeat' (first | (with_reducible assumption) | ((with_reducible refine Blk.new ?_); first | rfl | (simp; done)) | (with_reducible refine Blk.later (by assumption) ?_) | (with_reducible refine Blk.alloc ?_) | (with_reducible refine Blk.drewN ?_) | (with_reducible refine Blk.drew ?_) | (with_reducible refine Blk.other ?_ (by first | omega | (simp; done) | (simp; omega)))))))).mono ?_; rintro e wB ⟨rfl, hbB⟩; have hA : Below W1.heap.size W1 wB := (by (repeat' (first | (with_reducible exact Below.refl _ _) | (with_reducible assumption) | (with_reducible refine belowThru ?_ (by assumption)) | (with_reducible refine belowAlloc ?_) | (with_reducible refine Below.setCell ?_ (by first | omega | (simp; done) | (simp; omega)) _) | (with_reducible refine Below.drew ?_) | (with_reducible refine below_drewN ?_ _)))); have q0 := Blk.later hA k0; have q1 := Blk.later hA k1; have qz := Blk.later hA kz; have q2 := Blk.later hA k2; have q3 := Blk.later hA k3; have q4 := Blk.later hA k4; have q5 := Blk.later hA k5; have q6 := Blk.later hA k6; obtain ⟨g6, f6⟩ := q6.read)
          exact ⟨KeepsFrom.of_below hA, fun hG => hG.later hA, ⟨⟨ls, cnt, HLN.out, HK3.out, q5, q6⟩, ⟨q0, q1, qz, q3, q4⟩, hB.trans (hA.mono hB.size)⟩⟩
    case done =>
      rintro D xs W1 hD hall ⟨⟨ls, cnt, hln, hp, k5, k6⟩, ⟨k0, k1, kz, k3, k4⟩, hB⟩ hK
      have hp2 := hp (by rw [hall.length]; exact hall)
      rw [hall.length] at hp2
      obtain rfl : ls = (labS zs m m).1 := congrArg Prod.fst hp2
      obtain rfl : cnt = (labS zs m m).2 := congrArg Prod.snd hp2
      clear hp hp2 hln
      have hWs := hB.size
      have hbz := kz.lt
      have hb5 := k5.lt
      obtain ⟨eZ, fZ⟩ := kz.read
      gi_wp2
      refine held_w (fun w' => (Blk w' wA.heap.size #[.int .i64 W, .int .i64 H, .slice (some ⟨(wA.heap.size + 1), 0, none⟩) m m] 86 ∧ (∀ i : Nat, w'.cell? ⟨wA.heap.size, i, none⟩ = (#[.int .i64 W, .int .i64 H, .slice (some ⟨(wA.heap.size + 1), 0, none⟩) m m] : Array Value)[i]?)) ∧ (Blk w' (wA.heap.size + 1 + 1) #[.int .i64 (labS zs m m).2] 3 ∧ (∀ i : Nat, w'.cell? ⟨(wA.heap.size + 1 + 1), i, none⟩ = (#[.int .i64 (labS zs m m).2] : Array Value)[i]?)) ∧ Below w.heap.size w w') hmx (by kernel_rfl) ⟨k3.drew.full, k6.drew.full, hB.drew⟩ (fun hHeld => ?_)
      refine wpAnyH_take (i := 0) (v := ?_) rfl (by kernel_rfl) (by kernel_rfl) (by kernel_rfl) (fun _ _ _ h => h) (Or.inl ⟨by rfl, ?hT23⟩) (by assumption) ?_
      case hT23 => ((intro w hSw; (try dsimp only at hSw); go_simp); try (with_reducible rfl))
      try simp only [Act.put, List.setIfInBounds_toArray, List.set_cons_zero, List.set_cons_succ]
      refine wpAnyH_take (i := 1) (v := ?_) rfl (by kernel_rfl) (by kernel_rfl) (by kernel_rfl) (fun _ _ _ h => h) (Or.inl ⟨by rfl, ?hT24⟩) (by assumption) ?_
      case hT24 => ((intro w hSw; (try dsimp only at hSw); go_simp); try (with_reducible rfl))
      try simp only [Act.put, List.setIfInBounds_toArray, List.set_cons_zero, List.set_cons_succ]
      refine wpAnyH_ready (rs := [2]) (by kernel_rfl) (by simp) ?_
      refine AllReadyH.cons rfl (fun K hK => ?_) AllReadyH.nil
      go_simp
      refine hK.out _ _ ?_ (fun hHeldN => ?_)
      · (try dsimp only); (obtain ⟨⟨p0, -⟩, ⟨p1, -⟩, pB⟩ := hHeld; exact ⟨Blk.full (Blk.other (Blk.other (Blk.other p0 (by simp; omega)) (by simp; omega)) (by simp; omega)), Blk.full (Blk.other (Blk.other (Blk.other p1 (by simp; omega)) (by simp; omega)) (by simp; omega)), by (repeat' (first | (with_reducible exact Below.refl _ _) | (with_reducible assumption) | (with_reducible refine belowThru ?_ (by assumption)) | (with_reducible refine belowAlloc ?_) | (with_reducible refine Below.setCell ?_ (by first | omega | (simp; done) | (simp; omega)) _) | (with_reducible refine Below.drew ?_) | (with_reducible refine below_drewN ?_ _)))⟩)
      clear hK K hHeld
      have hHeld := hHeldN
      clear hHeldN
      try simp only [Act.put, List.setIfInBounds_toArray, List.set_cons_zero, List.set_cons_succ]
      refine wpAnyH_take (i := 3) (v := ?_) rfl (by kernel_rfl) (by kernel_rfl) (by kernel_rfl) (fun _ _ _ h => h) (Or.inl ⟨by rfl, ?hT25⟩) (by assumption) ?_
      case hT25 => ((intro w hSw; (try dsimp only at hSw); go_simp); try (with_reducible rfl))
      try simp only [Act.put, List.setIfInBounds_toArray, List.set_cons_zero, List.set_cons_succ]
      refine wpAnyH_take (i := 4) (v := ?_) rfl (by kernel_rfl) (by kernel_rfl) (by kernel_rfl) (fun _ _ _ h => h) (Or.inl ⟨by rfl, ?hT26⟩) (by assumption) ?_
      case hT26 => ((intro w hSw; (try dsimp only at hSw); go_simp); try (with_reducible rfl))
      try simp only [Act.put, List.setIfInBounds_toArray, List.set_cons_zero, List.set_cons_succ]
      refine wpAnyH_done (by kernel_rfl) ?_ _
      obtain ⟨-, -, qB⟩ := hHeld
      have kr : Blk ((((W1.setCell ⟨w.heap.size + 1 + 1, 0, none⟩ (.int .i64 W)).setCell ⟨w.heap.size + 1 + 1, 1, none⟩ (.int .i64 H)).setCell ⟨w.heap.size + 1 + 1, 2, none⟩ (.slice (some ⟨(wA.heap.size + 1), 0, none⟩) m m)).drew) (w.heap.size + 1 + 1) #[.int .i64 W, .int .i64 H, .slice (some ⟨(wA.heap.size + 1), 0, none⟩) m m] 24 := Blk.drew (Blk.set (Blk.set (Blk.set kz)))
      have kq : Blk ((((W1.setCell ⟨w.heap.size + 1 + 1, 0, none⟩ (.int .i64 W)).setCell ⟨w.heap.size + 1 + 1, 1, none⟩ (.int .i64 H)).setCell ⟨w.heap.size + 1 + 1, 2, none⟩ (.slice (some ⟨(wA.heap.size + 1), 0, none⟩) m m)).drew) (wA.heap.size + 1) (ints (labS zs m m).1) 3 := Blk.drew (Blk.other (Blk.other (Blk.other k5 (by simp; omega)) (by simp; omega)) (by simp; omega))
      have hKf : ((((W1.setCell ⟨w.heap.size + 1 + 1, 0, none⟩ (.int .i64 W)).setCell ⟨w.heap.size + 1 + 1, 1, none⟩ (.int .i64 H)).setCell ⟨w.heap.size + 1 + 1, 2, none⟩ (.slice (some ⟨(wA.heap.size + 1), 0, none⟩) m m)).drew).heap[D]? = some (.deferred (some [])) := (Below.heap_setCell _ _ _ D (by simp; omega)).trans ((Below.heap_setCell _ _ _ D (by simp; omega)).trans ((Below.heap_setCell _ _ _ D (by simp; omega)).trans hK))
      unfold onlyN
      gi_wp2
      obtain ⟨Wf, hWf⟩ : ∃ Wf, (((W1.setCell ⟨w.heap.size + 1 + 1, 0, none⟩ (.int .i64 W)).setCell ⟨w.heap.size + 1 + 1, 1, none⟩ (.int .i64 H)).setCell ⟨w.heap.size + 1 + 1, 2, none⟩ (.slice (some ⟨(wA.heap.size + 1), 0, none⟩) m m)).drew = Wf := ⟨_, rfl⟩
      rw [hWf] at kr kq hKf qB ⊢
      clear hWf
      have kr2 := kr.own (grownBy_putObj' Wf D (.deferred none)) (fun r e => by cases e; exact ⟨_, hKf, rfl⟩)
      have kz2 := kq.own (grownBy_putObj' Wf D (.deferred none)) (fun r e => by cases e; exact ⟨_, hKf, rfl⟩)
      have er := kr2.read.1
      refine ⟨by simp, .inl ⟨_, _, rfl, run_takeDeferred hKf, ?_⟩⟩
      refine ⟨.tuple #[.agg #[.int .i64 W, .int .i64 H, .slice (some ⟨(wA.heap.size + 1), 0, none⟩) m m], .int .i64 (labS zs m m).2, .int .i64 0], ?_, _, rfl, by omega, kz2, qB.trans (belowK_b (w := w) (Nat.le_refl _) Wf D _ _ (by omega) hKf rfl rfl)⟩
      simp only [results, Try.results27]
      go_simp
    case stop =>
      rintro D cc pre W1 _ _ h _
      exact h.elim
end Go.Proofs.Ytghmjdmiaajbnaa
