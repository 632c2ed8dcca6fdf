/-
  The texts that the laws of this seat share, merged: part 7.
-/
import Derived.BigQuiet
import Derived.Carry
import Derived.Deep.CutRange
import Derived.Deep.DeepCutAuto
import Derived.Deep.Draws
import Derived.Deep.LoopGhost
import Derived.Deep.OwnRows
import Derived.Deep.QuietTactic
import Derived.Deep.RegionHeld3
import Derived.Laws.AppendOwn
import Derived.Laws.StructEq
import Derived.Lib.Hide
import Derived.LoopIn
import Derived.LoopNIn
import Derived.MapKept
import Derived.Maps.AppendAt
import Derived.OneCell
import Derived.Orders
import Derived.OwnWalkIn
import Derived.RangeFuncBound
import Derived.RangeFuncCalls
import Derived.RangeFuncLeaves
import Derived.RangeFuncNested
import Derived.Shelf.Abstract
import Derived.Shelf.AbstractIn
import Derived.Shelf.RegionOpen
import Derived.StillTailTactics
import Derived.TacticsIn
import Derived.TacticsInMore
import Derived.Test.YtghmjdmiaajbnaaProg
import Derived.WalkKit
import Derived.WalkSmall
import Derived.WalkSpells
import Derived.WideLaws
import Derived.Test.YtghmjdmiaajbnaaM2
import Derived.Test.YtghmjdmiaajbnaaM4
import Derived.Test.YtghmjdmiaajbnaaM6
/-
  Layer 2: the numbers of the basins of all pixels, by the code.
-/
namespace Go.Proofs.Ytghmjdmiaajbnaa
open Go.RowKit Go.Shelf
set_option linter.unusedVariables false
set_option linter.unusedSimpArgs false

attribute [local go_sem] Oper.semAt_some

def plc (W : Int) (k : Nat) : Int × Int := ((k : Int) % W, (k : Int) / W)
/-- A pixel is its own lowest neighbour. -/
def ownB (W H : Int) (zs : List Int) (p : Int × Int) : Bool := decide (nxtP W H zs p = p)
/-- The pixels of those that have come that are their own lowest neighbours, and of the first k. -/
def endsP {N : Nat} {zs : List Int} (W H : Int) (pre : List (Pel N (ValR zs))) : List (Int × Int) := (pre.map fun x => plc W x.1.1).filter (ownB W H zs)
def endsN (W H : Int) (zs : List Int) (k : Nat) : List (Int × Int) := ((List.range k).map (plc W)).filter (ownB W H zs)
theorem endsP_all {N : Nat} {zs : List Int} {W H : Int} {k : Nat} {pre : List (Pel N (ValR zs))} (h : PixAll k pre) : endsP W H pre = endsN W H zs k := by
  unfold endsP endsN
  rw [← (show pre.map (fun x => x.1.1) = List.range k from h), List.map_map]; rfl
theorem plc_inj {W : Int} (hW : 1 ≤ W) {i j : Nat} (h : plc W i = plc W j) : i = j := by
  unfold plc at h
  have h1 := congrArg Prod.fst h
  have h2 := congrArg Prod.snd h
  dsimp only at h1 h2
  have e1 := Int.mul_ediv_add_emod (i : Int) W
  have e2 := Int.mul_ediv_add_emod (j : Int) W
  rw [h1, h2] at e1
  omega
theorem endsN_new {W H : Int} {zs : List Int} (hW : 1 ≤ W) (k : Nat) : plc W k ∉ endsN W H zs k := by
  unfold endsN
  intro h
  obtain ⟨i, hi, he⟩ := List.mem_map.1 (List.mem_filter.1 h).1
  have := plc_inj hW he
  have := List.mem_range.1 hi
  omega
/-- What the map holds: places with numbers; in order, the right ones. -/
def BasP {N : Nat} {zs : List Int} (W H : Int) (pre : List (Pel N (ValR zs))) (l : List ((Int × Int) × Int × Nat)) (c : Nat) : Prop := PixAll pre.length pre → l = nums 0 (endsP W H pre) ∧ c = (endsP W H pre).length

theorem allocM (w : World) (c0 : Array Value) (t0 : TypeId) (c1 : Array Value) (t1 : TypeId) :
    ∃ W0, ((w.alloc (.map #[] 0)).alloc (.cells c0 t0)).alloc (.cells c1 t1) = W0 ∧ W0.heap[w.heap.size]? = some (.map (mpG []).toArray 0) ∧ Blk W0 (w.heap.size + 1) c0 t0 ∧ Blk W0 (w.heap.size + 1 + 1) c1 t1 ∧ Below w.heap.size w W0 ∧ W0.heap.size = w.heap.size + 1 + 1 + 1 :=
  ⟨_, rfl, by
    have h1 : (w.alloc (.map #[] 0)).heap[w.heap.size]? = some (.map #[] 0) := World.alloc_heap_new w _
    exact map_later (belowAlloc (belowAlloc (Below.refl _ _))) h1, Blk.alloc (Blk.new (by simp)), Blk.new (by simp), by (repeat' (first | (with_reducible exact Below.refl _ _) | (with_reducible assumption) | (with_reducible refine belowThru ?_ (by assumption)) | (with_reducible refine belowAlloc ?_) | (with_reducible refine Below.setCell ?_ (by first | omega | (simp; done) | (simp; omega)) _) | (with_reducible refine Below.drew ?_) | (with_reducible refine below_drewN ?_ _))), by simp⟩
theorem KeepsFrom.put {B : Nat} {X : World} {r : Nat} {o : Obj} (h : r < B) : KeepsFrom B X (X.putObj r o) := ⟨by simp [World.putObj], fun k o' hBk hk _ => (World.putObj_heap_other (by omega)).trans hk⟩
theorem PixAll.cut2 {len k : Nat} {R : Nat → Int → Prop} {xs : List (Pel len R)} {x : Pel len R} (h : PixAll (k + 1) (xs ++ [x])) : PixAll k xs ∧ x.1.1 = k := by
  unfold PixAll at *
  rw [List.map_append, List.range_succ] at h
  have := List.append_inj' h rfl
  exact ⟨this.1, by simpa using this.2⟩
theorem map_set {w : World} {r : Nat} {es : Array MapEntry} {c : Nat} {a : Addr} {v : Value} (h : w.heap[r]? = some (.map es c)) (hne : r ≠ a.block) : (w.setCell a v).heap[r]? = some (.map es c) := (Below.heap_setCell w a v r hne).trans h
theorem Blk.put {w : World} {b r : Nat} {c : Array Value} {t : TypeId} {o : Obj} (h : Blk w b c t) (hne : b ≠ r) : Blk (w.putObj r o) b c t := (World.putObj_heap_other (o := o) hne).trans h
set_option maxRecDepth 100000 in
set_option maxHeartbeats 8000000 in
theorem basins_in (n : Nat) (hn : 3 ≤ n) (W H : Int) (bb off m c : Nat) (zs : List Int) (V : Nat → Int) (hI : okI W H zs) (hm : zs.length = m)
    (w : World) (hbb : bb < w.heap.size) (hR : ∀ j, j < m → ∃ z, ValR zs j z ∧ w.cell? ⟨bb, off + j, none⟩ = some (.int .i64 z)) (hRow : Row w (some ⟨bb, off, none⟩) m (iv zs))
    (HV : Hid (∀ k, k < m → ∃ (t i : Nat), nxtP W H zs (itN W H zs (plc W k) t) = itN W H zs (plc W k) t ∧ (∀ j, j < t → nxtP W H zs (itN W H zs (plc W k) j) ≠ itN W H zs (plc W k) j) ∧ (endsN W H zs m)[i]? = some (itN W H zs (plc W k) t) ∧ (∀ i', i' < i → (endsN W H zs m)[i']? ≠ some (itN W H zs (plc W k) t)) ∧ V k = (i : Int) + 1))
    (HK : Hid (∀ w1, Below w.heap.size w w1 → Calls Try.prog 51 #[.agg #[.int .i64 W, .int .i64 H, .slice (some ⟨bb, off, none⟩) m c]] w1 fun e w' => e = .returned (.int .i64 0) ∧ Below w1.heap.size w1 w')) :
    CallsIn Fence.wide n Try.prog 38 #[.agg #[.int .i64 W, .int .i64 H, .slice (some ⟨bb, off, none⟩) m c]] w fun e w' => ∃ g, e = .returned (.tuple #[.agg #[.int .i64 W, .int .i64 H, .slice (some ⟨g, 0, none⟩) m m], .int .i64 ((endsN W H zs m).length : Nat), .int .i64 0]) ∧ w.heap.size ≤ g ∧ Blk w' g (ints ((List.range m).map fun k => inR (V k) (-2147483648) 2147483648)) 3 ∧ Below w.heap.size w w' := by
  have HI := Lib.hid hI
  obtain ⟨⟨⟨w0, w1⟩, h0, h1⟩, hL, -⟩ := hI
  have hmul := okS_mul ⟨w0, w1⟩ ⟨h0, h1⟩
  have m1 : 1 ≤ m := by omega
  have m2 : m ≤ 256 := by omega
  have HR := Lib.hid hR
  have HRW := Lib.hid hRow
  have HWH : Hid (W * H = (m : Int)) := by show _ = _; omega
  have hmk := @run_makeMap Try.prog
  clear hR hL hmul hm hRow
  refine callsIn_of_wp_marks Try.func38 rfl trivial ?_ rfl
  simp only [Try.ntmps38, List.size_toArray, List.length_cons, List.length_nil, Nat.reduceAdd, Nat.reduceSub, Array.replicate_succ, Array.replicate_zero, List.push_toArray, List.append_toArray, List.nil_append, List.cons_append]
  have n1 : 1 ≤ n := by omega
  have n2 : 1 ≤ n - 1 - 1 := by omega
  have hmx : Try.prog.follows .mixedOrders = true := by kernel_rfl
  gi_wp2_with (first
    | ((try (refine ⟨trivial, ?_⟩)); gi_at_call 51; refine (callsIn_wide.2 (HK.out _ (by (repeat' (first | (with_reducible exact Below.refl _ _) | (with_reducible assumption) | (with_reducible refine belowThru ?_ (by assumption)) | (with_reducible refine belowAlloc ?_) | (with_reducible refine Below.setCell ?_ (by first | omega | (simp; done) | (simp; omega)) _) | (with_reducible refine Below.drew ?_) | (with_reducible refine below_drewN ?_ _)))))).mono ?_; rintro e wA ⟨rfl, hbA⟩; have km : Blk wA w.heap.size #[.int .i64 W, .int .i64 H, .slice (some ⟨bb, off, none⟩) m c] 24 := Blk.later hbA (Blk.alloc (Blk.new rfl)); have kZ : Blk wA (w.heap.size + 1) #[.int .i64 0, .int .i64 0, .slice none 0 0] 24 := Blk.later hbA (Blk.new (by simp)); obtain ⟨am, bm⟩ := km.read; obtain ⟨aZ, bZ⟩ := kZ.read; have zZ := kZ.lt; have zM := km.lt; have hBA : Below w.heap.size w wA := (by (repeat' (first | (with_reducible exact Below.refl _ _) | (with_reducible assumption) | (with_reducible refine belowThru ?_ (by assumption)) | (with_reducible refine belowAlloc ?_) | (with_reducible refine Below.setCell ?_ (by first | omega | (simp; done) | (simp; omega)) _) | (with_reducible refine Below.drew ?_) | (with_reducible refine below_drewN ?_ _)))))
    | ((try (refine ⟨trivial, ?_⟩)); gi_at_call 69; refine (callsIn_wide.2 (pixels_any _ _ _ _ _ _)).mono ?_; rintro e w' ⟨rfl, rfl⟩))
  clear am bm aZ bZ hmk
  obtain ⟨W0, hW0, hmap0, kN, kP, hB9, hsz⟩ := allocM wA #[.map (some wA.heap.size)] 115 #[.int .i64 W, .int .i64 H, .slice (some ⟨bb, off, none⟩) m c] 86
  rw [hW0]
  have km0 := Blk.later hB9 km
  have kZ0 := Blk.later hB9 kZ
  have hB0 : Below w.heap.size w W0 := hBA.trans (hB9.mono hBA.size)
  clear hW0
  have hG0 : PixG (wA.heap.size + 1 + 1) bb off m c W H (ValR zs) W0 :=
    ⟨kP.cells 0, kP.cells 1, kP.cells 2, fun j hj => by obtain ⟨z, hz, hc⟩ := HR.out j hj; exact ⟨z, hz, cell_later hB0 hc⟩⟩
  refine wpIn_rangeFunc_ownH rfl n1 (gf := 110) (lb := #[.pointer (some ⟨wA.heap.size + 1 + 1, 0, none⟩)]) rfl trivial (enters_of Try.func110 (by kernel_rfl) rfl)
    (pix_stops (n - 1) (wA.heap.size + 1 + 1) bb off m c W H (ValR zs) (by omega) w0 (by omega) W0 (by omega) (by omega) hG0)
    (fun hAB hBC hA => hBC (hAB hA))
    (fun W1 l o o' hl ho hc _ hG => PixG.putObj hG ho hc)
    (Below.refl _ _) (fun _ => rfl)
    (fun pre W1 => (∃ ls c', BasP W H pre ls c' ∧ W1.heap[wA.heap.size]? = some (.map (mpG ls).toArray c')) ∧ (Blk W1 w.heap.size #[.int .i64 W, .int .i64 H, .slice (some ⟨bb, off, none⟩) m c] 24 ∧ Blk W1 (w.heap.size + 1) #[.int .i64 0, .int .i64 0, .slice none 0 0] 24 ∧ Blk W1 (wA.heap.size + 1) #[.map (some wA.heap.size)] 115 ∧ Blk W1 (wA.heap.size + 1 + 1) #[.int .i64 W, .int .i64 H, .slice (some ⟨bb, off, none⟩) m c] 86) ∧ Below w.heap.size w W1)
    (fun _ _ _ => False)
    (fun s X Y row hs hg hr => by
      obtain ⟨⟨ls, c', hp, hmp⟩, ⟨b0, bz, b1, b2⟩, hb⟩ := hs
      have hr' := fun r e => (hr r e).2
      exact ⟨⟨ls, c', hp, (hg.block _ (Array.getElem?_eq_some_iff.1 hmp).1 (fun e => by have := (hr _ e.symm).1; omega)).trans hmp⟩, ⟨b0.own hg hr', bz.own hg hr', b1.own hg hr', b2.own hg hr'⟩, ownFrom_below (β := Unit) (Nat.le_refl _) hB0.size () X Y row hb hg hr⟩)
    (fun _ _ _ _ _ hs _ _ => hs)
    ⟨⟨[], 0, fun _ => ⟨rfl, rfl⟩, hmap0⟩, ⟨km0, kZ0, kN, kP⟩, hB0⟩
    (fun x a' W1 => ∃ Bx, Blk W1 Bx #[.int .i64 ((x.1.1 : Int) % W), .int .i64 ((x.1.1 : Int) / W)] 83 ∧ wA.heap.size + 1 + 1 < Bx ∧ a' = { tmps := #[.agg #[.int .i64 W, .int .i64 H, .slice (some ⟨bb, off, none⟩) m c], .pointer (some ⟨w.heap.size, 0, none⟩), .pointer (some ⟨w.heap.size + 1, 0, none⟩), .int .i64 0, .int .i64 0, .int .i64 0, .pointer (some ⟨wA.heap.size + 1, 0, none⟩), .pointer (some ⟨Bx, 0, none⟩), .agg #[.int .i64 W, .int .i64 H, .slice (some ⟨bb, off, none⟩) m c], .int .i64 0, .int .i64 0, .bool false, undef, undef, .map (some wA.heap.size), .agg #[.int .i64 W, .int .i64 H, .slice (some ⟨bb, off, none⟩) m c], .func (.func 110) #[] #[.pointer (some ⟨wA.heap.size + 1 + 1, 0, none⟩)], .agg #[.int .i64 ((x.1.1 : Int) % W), .int .i64 ((x.1.1 : Int) / W)], .int .i64 x.1.2, undef, undef, undef, undef, undef, undef, undef, undef, undef, undef, undef, undef, undef, undef, undef, undef, undef, undef], defers := [] })
    (fun x a' _ X Y row hs hg hr => by obtain ⟨Bx, h1, h2, h3⟩ := hs; exact ⟨Bx, h1.own hg (fun r e => (hr r e).2), h2, h3⟩)
    ?assign ?body ?done ?stop
  case assign =>
    rintro l pre x W1 K ⟨⟨ls, c', hp, hmp⟩, ⟨b0, bz, b1, b2⟩, hb⟩ hK
    have hsz1 := b2.lt
    simp only [pxEnc]
    gi_wp2
    exact hK _ _ ((KeepsOthers.alloc _ _).from _) (fun hG => hG.alloc _) ⟨⟨_, _, hp, map_later (belowAlloc (Below.refl _ _)) hmp⟩, ⟨b0.alloc, bz.alloc, b1.alloc, b2.alloc⟩, hb.alloc hb.size _⟩ ⟨W1.heap.size, Blk.new rfl, by omega, rfl⟩
  case body =>
    rintro l pre x a' W1 hl _ ⟨⟨ls, c', hp, hmp⟩, ⟨k0, kz, k3, k4⟩, hB⟩ ⟨Bx, k2, hx, rfl⟩ hlt
    obtain ⟨⟨k, z⟩, hk, ht⟩ := x
    dsimp only at hk k2 ⊢
    have hplace := place_in (W := W) (H := H) ⟨w0, w1⟩ ⟨h0, h1⟩ HWH.out hk
    have hpl : plc W k = ((k : Int) % W, (k : Int) / W) := rfl
    obtain ⟨px, hpx⟩ : ∃ px, (k : Int) % W = px := ⟨_, rfl⟩
    obtain ⟨py, hpy⟩ : ∃ py, (k : Int) / W = py := ⟨_, rfl⟩
    rw [hpx, hpy] at k2 hpl hplace ⊢
    have HLW := Lib.hid (lowest_any W H px py (some ⟨bb, off, none⟩) m c zs HI.out hplace)
    have HOW : Hid (ownB W H zs (px, py) = decide (lowN W H zs px py 4 = (px, py))) := rfl
    obtain ⟨q, hq⟩ : ∃ q, lowN W H zs px py 4 = q := ⟨_, rfl⟩
    rw [hq] at HLW HOW
    obtain ⟨qx, qy⟩ := q
    have HPL := Lib.hid hpl
    have HP := Lib.hid hp
    have hmB := hB.size
    have hsz1 := k4.lt
    clear hpx hpy hpl hplace hq hp hG0 kN kP km0 kZ0 km kZ hB9
    by_cases hown : qx = px ∧ qy = py
    · obtain ⟨rfl, rfl⟩ := hown
      gi_wp2
      refine held_in (fun w' => (Blk w' w.heap.size #[.int .i64 W, .int .i64 H, .slice (some ⟨bb, off, none⟩) m c] 24 ∧ (∀ i : Nat, w'.cell? ⟨w.heap.size, i, none⟩ = (#[.int .i64 W, .int .i64 H, .slice (some ⟨bb, off, none⟩) m c] : Array Value)[i]?)) ∧ (Blk w' Bx #[.int .i64 qx, .int .i64 qy] 83 ∧ (∀ i : Nat, w'.cell? ⟨Bx, i, none⟩ = (#[.int .i64 qx, .int .i64 qy] : Array Value)[i]?)) ∧ Below w.heap.size w w') hmx (by kernel_rfl) (by rintro ⟨_, _, h⟩; exact h) ⟨k0.drew.full, k2.drew.full, hB.drew⟩ (fun hHeld => ?_)
      refine wpAnyH_take (i := 0) (v := ?_) rfl (by kernel_rfl) (by kernel_rfl) (by kernel_rfl) (fun _ _ _ h => h) (Or.inl ⟨by rfl, ?hT0⟩) (by assumption) ?_
      case hT0 => ((intro w hSw; (try dsimp only at hSw); go_simp); try (with_reducible rfl))
      try simp only [Act.put, List.setIfInBounds_toArray, List.set_cons_zero, List.set_cons_succ]
      refine wpAnyH_take (i := 1) (v := ?_) rfl (by kernel_rfl) (by kernel_rfl) (by kernel_rfl) (fun _ _ _ h => h) (Or.inl ⟨by rfl, ?hT1⟩) (by assumption) ?_
      case hT1 => ((intro w hSw; (try dsimp only at hSw); go_simp); try (with_reducible rfl))
      try simp only [Act.put, List.setIfInBounds_toArray, List.set_cons_zero, List.set_cons_succ]
      refine wpAnyH_take (i := 3) (v := ?_) rfl (by kernel_rfl) (by kernel_rfl) (by kernel_rfl) (fun _ _ _ h => h) (Or.inl ⟨by rfl, ?hT2⟩) (by assumption) ?_
      case hT2 => ((intro w hSw; (try dsimp only at hSw); go_simp); try (with_reducible rfl))
      try simp only [Act.put, List.setIfInBounds_toArray, List.set_cons_zero, List.set_cons_succ]
      refine wpAnyH_ready (rs := [2]) (by kernel_rfl) (by simp) ?_
      refine AllReadyH.cons rfl (fun K hK => ?_) AllReadyH.nil
      go_simp
      (go_at_call 87; (with_reducible refine (HLW.out _ (HRW.out.later (by (repeat' (first | (with_reducible exact Below.refl _ _) | (with_reducible assumption) | (with_reducible refine belowThru ?_ (by assumption)) | (with_reducible refine belowAlloc ?_) | (with_reducible refine Below.setCell ?_ (by first | omega | (simp; done) | (simp; omega)) _) | (with_reducible refine Below.drew ?_) | (with_reducible refine below_drewN ?_ _)))))).mono ?_); rintro e wB ⟨rfl, hb⟩)
      refine hK.out _ _ ?_ (fun hHeldN => ?_)
      · (try dsimp only); (((first | (apply hold2; (focus assumption); intro p0 p1 pB) | skip); refine ⟨Blk.full ?_, Blk.full ?_, ?_⟩; all_goals (first | ((repeat' (first | (with_reducible assumption) | ((with_reducible refine Blk.new ?_); first | rfl | (simp; done)) | (with_reducible refine Blk.later (by assumption) ?_) | (with_reducible refine Blk.alloc ?_) | (with_reducible refine Blk.drewN ?_) | (with_reducible refine Blk.drew ?_) | (with_reducible refine Blk.other ?_ (by first | omega | (simp; done) | (simp; omega))))); done) | ((repeat' (first | (with_reducible exact Below.refl _ _) | (with_reducible assumption) | (with_reducible refine belowThru ?_ (by assumption)) | (with_reducible refine belowAlloc ?_) | (with_reducible refine Below.setCell ?_ (by first | omega | (simp; done) | (simp; omega)) _) | (with_reducible refine Below.drew ?_) | (with_reducible refine below_drewN ?_ _))); done))))
      clear hK K hHeld
      have hHeld := hHeldN
      clear hHeldN
      try simp only [Act.put, List.setIfInBounds_toArray, List.set_cons_zero, List.set_cons_succ]
      have hA : Below W1.heap.size W1 wB := ((Below.refl _ W1).drew).trans hb
      clear hb
      refine wpAnyH_ready (rs := [4]) (by kernel_rfl) (by simp) ?_
      refine AllReadyH.cons rfl (fun K hK => ?_) AllReadyH.nil
      go_simp
      refine hK.out _ _ ?_ (fun hHeldN => ?_)
      · (try dsimp only); (((first | (apply hold2; (focus assumption); intro p0 p1 pB) | skip); refine ⟨Blk.full ?_, Blk.full ?_, ?_⟩; all_goals (first | ((repeat' (first | (with_reducible assumption) | ((with_reducible refine Blk.new ?_); first | rfl | (simp; done)) | (with_reducible refine Blk.later (by assumption) ?_) | (with_reducible refine Blk.alloc ?_) | (with_reducible refine Blk.drewN ?_) | (with_reducible refine Blk.drew ?_) | (with_reducible refine Blk.other ?_ (by first | omega | (simp; done) | (simp; omega))))); done) | ((repeat' (first | (with_reducible exact Below.refl _ _) | (with_reducible assumption) | (with_reducible refine belowThru ?_ (by assumption)) | (with_reducible refine belowAlloc ?_) | (with_reducible refine Below.setCell ?_ (by first | omega | (simp; done) | (simp; omega)) _) | (with_reducible refine Below.drew ?_) | (with_reducible refine below_drewN ?_ _))); done))))
      clear hK K hHeld
      have hHeld := hHeldN
      clear hHeldN
      try simp only [Act.put, List.setIfInBounds_toArray, List.set_cons_zero, List.set_cons_succ]
      refine wpAnyH_done (by kernel_rfl) ?_ _
      obtain ⟨⟨q0, -⟩, ⟨q2, -⟩, qB⟩ := hHeld
      have qz := Blk.later hA kz
      have q3 := Blk.later hA k3
      have q4 := Blk.later hA k4
      have hm2 := map_later hA hmp
      obtain ⟨nl, hnl⟩ : ∃ nl, ls.length = nl := ⟨_, rfl⟩
      obtain ⟨v, hv⟩ : ∃ v, IntKind.i64.wrap ((nl : Int) + 1) = v := ⟨_, rfl⟩
      have hml : (mpG ls).length = nl := by rw [mpG_length, hnl]
      have hln : (Builtin.len_ #[115] 3 #[.map (some wA.heap.size)]).run Try.prog wB = .ok (.int .i64 (nl : Int)) wB := by
        rw [run_len_map wB 115 3 wA.heap.size _ _ (by kernel_rfl) hm2, List.size_toArray, hml]; rfl
      obtain ⟨l2, c2, hins, hnew⟩ := insert_g (qx, qy) v ls c' wB wA.heap.size hm2
      have hq3 : Blk (wB.putObj wA.heap.size (.map (mpG l2).toArray c2)) (wA.heap.size + 1) #[.map (some wA.heap.size)] 115 := q3.put (by omega)
      have hm3 : (wB.putObj wA.heap.size (.map (mpG l2).toArray c2)).heap[wA.heap.size]? = some (.map (mpG l2).toArray c2) := World.putObj_heap_same (Array.getElem?_eq_some_iff.1 hm2).1
      have HK1 : Hid (KeepsFrom W0.heap.size W1 (wB.putObj wA.heap.size (.map (mpG l2).toArray c2))) := (KeepsFrom.of_below hA).trans (KeepsFrom.put (by omega))
      have HK2 : Hid (PixG (wA.heap.size + 1 + 1) bb off m c W H (ValR zs) W1 → PixG (wA.heap.size + 1 + 1) bb off m c W H (ValR zs) (wB.putObj wA.heap.size (.map (mpG l2).toArray c2))) := fun hG => (hG.later hA).putObj hm2 rfl
      have HK3 : Hid (BasP W H (pre ++ [⟨(k, z), hk, ht⟩]) l2 c2) := by
        intro hall
        rw [List.length_append, List.length_singleton] at hall
        obtain ⟨ha, hb⟩ := hall.cut2
        obtain ⟨e1, e2⟩ := HP.out ha
        have hb' : k = pre.length := hb
        have e3 : endsP W H (pre ++ [⟨(k, z), hk, ht⟩]) = endsP W H pre ++ [(qx, qy)] := by
          unfold endsP
          rw [List.map_append, List.filter_append, List.map_singleton]
          congr 1
          have e9 : ownB W H zs (qx, qy) = true := by rw [HOW.out]; simp
          show [plc W k].filter _ = _
          rw [HPL.out]; simp [List.filter_cons, e9]
        have e4 : (qx, qy) ∉ ls.map (·.1) := by
          rw [e1, nums_keys, endsP_all ha, ← HPL.out, hb']
          exact endsN_new w0 _
        obtain ⟨f1, f2⟩ := hnew e4
        have e5 : (endsP W H pre).length ≤ 256 := by
          have : (endsP W H pre).length ≤ pre.length := by unfold endsP; exact Nat.le_trans (List.length_filter_le _ _) (by simp)
          omega
        have e6 : nl = (endsP W H pre).length := by rw [← hnl, e1, nums_length]
        have e7 : v = (nl : Int) + 1 := by rw [← hv]; exact IntWalk.i64_in _ (by omega)
        refine ⟨?_, ?_⟩
        · rw [e3, f1, nums_snoc, e1, e7, e2, e6, Nat.zero_add]
        · rw [f2, e3, List.length_append, e2]; rfl
      have hB3 : Below w.heap.size w (wB.putObj wA.heap.size (.map (mpG l2).toArray c2)) := below_put _ qB hBA.size
      have r0 := q0.put (o := .map (mpG l2).toArray c2) (r := wA.heap.size) (by omega)
      have rz := qz.put (o := .map (mpG l2).toArray c2) (r := wA.heap.size) (by omega)
      have r4 := q4.put (o := .map (mpG l2).toArray c2) (r := wA.heap.size) (by omega)
      obtain ⟨wC, hwC⟩ : ∃ wC, wB.putObj wA.heap.size (.map (mpG l2).toArray c2) = wC := ⟨_, rfl⟩
      rw [hwC] at hins hq3 hm3 HK1 HK2 hB3 r0 rz r4
      unfold pv at hins
      dsimp only at hins
      clear hnew hnl hwC
      obtain ⟨a2, b2⟩ := q2.read; obtain ⟨a3, b3⟩ := q3.read
      gi_wp2
      exact ⟨HK1.out, HK2.out, ⟨⟨l2, c2, HK3.out, hm3⟩, ⟨r0, rz, hq3, r4⟩, hB3⟩⟩
    · have HOF : Hid (ownB W H zs (px, py) = false) := by show _ = _; rw [HOW.out]; exact decide_eq_false (fun e => hown ⟨congrArg Prod.fst e, congrArg Prod.snd e⟩)
      by_cases hxx : qx = px
      · have hyy : ¬ qy = py := fun e => hown ⟨hxx, e⟩
        clear hown
        subst hxx
        gi_wp2
        refine held_in (fun w' => (Blk w' w.heap.size #[.int .i64 W, .int .i64 H, .slice (some ⟨bb, off, none⟩) m c] 24 ∧ (∀ i : Nat, w'.cell? ⟨w.heap.size, i, none⟩ = (#[.int .i64 W, .int .i64 H, .slice (some ⟨bb, off, none⟩) m c] : Array Value)[i]?)) ∧ (Blk w' Bx #[.int .i64 qx, .int .i64 py] 83 ∧ (∀ i : Nat, w'.cell? ⟨Bx, i, none⟩ = (#[.int .i64 qx, .int .i64 py] : Array Value)[i]?)) ∧ Below w.heap.size w w') hmx (by kernel_rfl) (by rintro ⟨_, _, h⟩; exact h) ⟨k0.drew.full, k2.drew.full, hB.drew⟩ (fun hHeld => ?_)
        refine wpAnyH_take (i := 0) (v := ?_) rfl (by kernel_rfl) (by kernel_rfl) (by kernel_rfl) (fun _ _ _ h => h) (Or.inl ⟨by rfl, ?hT3⟩) (by assumption) ?_
        case hT3 => ((intro w hSw; (try dsimp only at hSw); go_simp); try (with_reducible rfl))
        try simp only [Act.put, List.setIfInBounds_toArray, List.set_cons_zero, List.set_cons_succ]
        refine wpAnyH_take (i := 1) (v := ?_) rfl (by kernel_rfl) (by kernel_rfl) (by kernel_rfl) (fun _ _ _ h => h) (Or.inl ⟨by rfl, ?hT4⟩) (by assumption) ?_
        case hT4 => ((intro w hSw; (try dsimp only at hSw); go_simp); try (with_reducible rfl))
        try simp only [Act.put, List.setIfInBounds_toArray, List.set_cons_zero, List.set_cons_succ]
        refine wpAnyH_take (i := 3) (v := ?_) rfl (by kernel_rfl) (by kernel_rfl) (by kernel_rfl) (fun _ _ _ h => h) (Or.inl ⟨by rfl, ?hT5⟩) (by assumption) ?_
        case hT5 => ((intro w hSw; (try dsimp only at hSw); go_simp); try (with_reducible rfl))
        try simp only [Act.put, List.setIfInBounds_toArray, List.set_cons_zero, List.set_cons_succ]
        refine wpAnyH_ready (rs := [2]) (by kernel_rfl) (by simp) ?_
        refine AllReadyH.cons rfl (fun K hK => ?_) AllReadyH.nil
        go_simp
        (go_at_call 87; (with_reducible refine (HLW.out _ (HRW.out.later (by (repeat' (first | (with_reducible exact Below.refl _ _) | (with_reducible assumption) | (with_reducible refine belowThru ?_ (by assumption)) | (with_reducible refine belowAlloc ?_) | (with_reducible refine Below.setCell ?_ (by first | omega | (simp; done) | (simp; omega)) _) | (with_reducible refine Below.drew ?_) | (with_reducible refine below_drewN ?_ _)))))).mono ?_); rintro e wB ⟨rfl, hb⟩)
        refine hK.out _ _ ?_ (fun hHeldN => ?_)
        · (try dsimp only); (((first | (apply hold2; (focus assumption); intro p0 p1 pB) | skip); refine ⟨Blk.full ?_, Blk.full ?_, ?_⟩; all_goals (first | ((repeat' (first | (with_reducible assumption) | ((with_reducible refine Blk.new ?_); first | rfl | (simp; done)) | (with_reducible refine Blk.later (by assumption) ?_) | (with_reducible refine Blk.alloc ?_) | (with_reducible refine Blk.drewN ?_) | (with_reducible refine Blk.drew ?_) | (with_reducible refine Blk.other ?_ (by first | omega | (simp; done) | (simp; omega))))); done) | ((repeat' (first | (with_reducible exact Below.refl _ _) | (with_reducible assumption) | (with_reducible refine belowThru ?_ (by assumption)) | (with_reducible refine belowAlloc ?_) | (with_reducible refine Below.setCell ?_ (by first | omega | (simp; done) | (simp; omega)) _) | (with_reducible refine Below.drew ?_) | (with_reducible refine below_drewN ?_ _))); done))))
        clear hK K hHeld
        have hHeld := hHeldN
        clear hHeldN
        try simp only [Act.put, List.setIfInBounds_toArray, List.set_cons_zero, List.set_cons_succ]
        have hA : Below W1.heap.size W1 wB := ((Below.refl _ W1).drew).trans hb
        clear hb
        refine wpAnyH_ready (rs := [4]) (by kernel_rfl) (by simp) ?_
        refine AllReadyH.cons rfl (fun K hK => ?_) AllReadyH.nil
        go_simp
        refine hK.out _ _ ?_ (fun hHeldN => ?_)
        · (try dsimp only); (((first | (apply hold2; (focus assumption); intro p0 p1 pB) | skip); refine ⟨Blk.full ?_, Blk.full ?_, ?_⟩; all_goals (first | ((repeat' (first | (with_reducible assumption) | ((with_reducible refine Blk.new ?_); first | rfl | (simp; done)) | (with_reducible refine Blk.later (by assumption) ?_) | (with_reducible refine Blk.alloc ?_) | (with_reducible refine Blk.drewN ?_) | (with_reducible refine Blk.drew ?_) | (with_reducible refine Blk.other ?_ (by first | omega | (simp; done) | (simp; omega))))); done) | ((repeat' (first | (with_reducible exact Below.refl _ _) | (with_reducible assumption) | (with_reducible refine belowThru ?_ (by assumption)) | (with_reducible refine belowAlloc ?_) | (with_reducible refine Below.setCell ?_ (by first | omega | (simp; done) | (simp; omega)) _) | (with_reducible refine Below.drew ?_) | (with_reducible refine below_drewN ?_ _))); done))))
        clear hK K hHeld
        have hHeld := hHeldN
        clear hHeldN
        try simp only [Act.put, List.setIfInBounds_toArray, List.set_cons_zero, List.set_cons_succ]
        refine wpAnyH_done (by kernel_rfl) ?_ _
        obtain ⟨⟨q0, -⟩, ⟨q2, -⟩, qB⟩ := hHeld
        have qz := Blk.later hA kz
        have q3 := Blk.later hA k3
        have q4 := Blk.later hA k4
        have hm2 := map_later hA hmp
        have HK3 : Hid (BasP W H (pre ++ [⟨(k, z), hk, ht⟩]) ls c') := by
          intro hall
          rw [List.length_append, List.length_singleton] at hall
          obtain ⟨ha, hb⟩ := hall.cut2
          have e3 : endsP W H (pre ++ [⟨(k, z), hk, ht⟩]) = endsP W H pre := by
            unfold endsP
            rw [List.map_append, List.filter_append, List.map_singleton]
            have : [plc W k].filter (ownB W H zs) = [] := by
              have e9 : ownB W H zs (qx, py) = false := HOF.out
              rw [HPL.out]; simp [List.filter_cons, e9]
            show _ ++ [plc W k].filter _ = _
            rw [this, List.append_nil]
          rw [e3]
          exact HP.out ha
        have HK1 : Hid (KeepsFrom W0.heap.size W1 wB) := KeepsFrom.of_below hA
        gi_wp2
        exact ⟨HK1.out, fun hG => hG.later hA, ⟨⟨ls, c', HK3.out, hm2⟩, ⟨q0, qz, q3, q4⟩, qB⟩⟩
      · clear hown
        gi_wp2
        refine held_in (fun w' => (Blk w' w.heap.size #[.int .i64 W, .int .i64 H, .slice (some ⟨bb, off, none⟩) m c] 24 ∧ (∀ i : Nat, w'.cell? ⟨w.heap.size, i, none⟩ = (#[.int .i64 W, .int .i64 H, .slice (some ⟨bb, off, none⟩) m c] : Array Value)[i]?)) ∧ (Blk w' Bx #[.int .i64 px, .int .i64 py] 83 ∧ (∀ i : Nat, w'.cell? ⟨Bx, i, none⟩ = (#[.int .i64 px, .int .i64 py] : Array Value)[i]?)) ∧ Below w.heap.size w w') hmx (by kernel_rfl) (by rintro ⟨_, _, h⟩; exact h) ⟨k0.drew.full, k2.drew.full, hB.drew⟩ (fun hHeld => ?_)
        refine wpAnyH_take (i := 0) (v := ?_) rfl (by kernel_rfl) (by kernel_rfl) (by kernel_rfl) (fun _ _ _ h => h) (Or.inl ⟨by rfl, ?hT6⟩) (by assumption) ?_
        case hT6 => ((intro w hSw; (try dsimp only at hSw); go_simp); try (with_reducible rfl))
        try simp only [Act.put, List.setIfInBounds_toArray, List.set_cons_zero, List.set_cons_succ]
        refine wpAnyH_take (i := 1) (v := ?_) rfl (by kernel_rfl) (by kernel_rfl) (by kernel_rfl) (fun _ _ _ h => h) (Or.inl ⟨by rfl, ?hT7⟩) (by assumption) ?_
        case hT7 => ((intro w hSw; (try dsimp only at hSw); go_simp); try (with_reducible rfl))
        try simp only [Act.put, List.setIfInBounds_toArray, List.set_cons_zero, List.set_cons_succ]
        refine wpAnyH_take (i := 3) (v := ?_) rfl (by kernel_rfl) (by kernel_rfl) (by kernel_rfl) (fun _ _ _ h => h) (Or.inl ⟨by rfl, ?hT8⟩) (by assumption) ?_
        case hT8 => ((intro w hSw; (try dsimp only at hSw); go_simp); try (with_reducible rfl))
        try simp only [Act.put, List.setIfInBounds_toArray, List.set_cons_zero, List.set_cons_succ]
        refine wpAnyH_ready (rs := [2]) (by kernel_rfl) (by simp) ?_
        refine AllReadyH.cons rfl (fun K hK => ?_) AllReadyH.nil
        go_simp
        (go_at_call 87; (with_reducible refine (HLW.out _ (HRW.out.later (by (repeat' (first | (with_reducible exact Below.refl _ _) | (with_reducible assumption) | (with_reducible refine belowThru ?_ (by assumption)) | (with_reducible refine belowAlloc ?_) | (with_reducible refine Below.setCell ?_ (by first | omega | (simp; done) | (simp; omega)) _) | (with_reducible refine Below.drew ?_) | (with_reducible refine below_drewN ?_ _)))))).mono ?_); rintro e wB ⟨rfl, hb⟩)
        refine hK.out _ _ ?_ (fun hHeldN => ?_)
        · (try dsimp only); (((first | (apply hold2; (focus assumption); intro p0 p1 pB) | skip); refine ⟨Blk.full ?_, Blk.full ?_, ?_⟩; all_goals (first | ((repeat' (first | (with_reducible assumption) | ((with_reducible refine Blk.new ?_); first | rfl | (simp; done)) | (with_reducible refine Blk.later (by assumption) ?_) | (with_reducible refine Blk.alloc ?_) | (with_reducible refine Blk.drewN ?_) | (with_reducible refine Blk.drew ?_) | (with_reducible refine Blk.other ?_ (by first | omega | (simp; done) | (simp; omega))))); done) | ((repeat' (first | (with_reducible exact Below.refl _ _) | (with_reducible assumption) | (with_reducible refine belowThru ?_ (by assumption)) | (with_reducible refine belowAlloc ?_) | (with_reducible refine Below.setCell ?_ (by first | omega | (simp; done) | (simp; omega)) _) | (with_reducible refine Below.drew ?_) | (with_reducible refine below_drewN ?_ _))); done))))
        clear hK K hHeld
        have hHeld := hHeldN
        clear hHeldN
        try simp only [Act.put, List.setIfInBounds_toArray, List.set_cons_zero, List.set_cons_succ]
        have hA : Below W1.heap.size W1 wB := ((Below.refl _ W1).drew).trans hb
        clear hb
        refine wpAnyH_ready (rs := [4]) (by kernel_rfl) (by simp) ?_
        refine AllReadyH.cons rfl (fun K hK => ?_) AllReadyH.nil
        go_simp
        refine hK.out _ _ ?_ (fun hHeldN => ?_)
        · (try dsimp only); (((first | (apply hold2; (focus assumption); intro p0 p1 pB) | skip); refine ⟨Blk.full ?_, Blk.full ?_, ?_⟩; all_goals (first | ((repeat' (first | (with_reducible assumption) | ((with_reducible refine Blk.new ?_); first | rfl | (simp; done)) | (with_reducible refine Blk.later (by assumption) ?_) | (with_reducible refine Blk.alloc ?_) | (with_reducible refine Blk.drewN ?_) | (with_reducible refine Blk.drew ?_) | (with_reducible refine Blk.other ?_ (by first | omega | (simp; done) | (simp; omega))))); done) | ((repeat' (first | (with_reducible exact Below.refl _ _) | (with_reducible assumption) | (with_reducible refine belowThru ?_ (by assumption)) | (with_reducible refine belowAlloc ?_) | (with_reducible refine Below.setCell ?_ (by first | omega | (simp; done) | (simp; omega)) _) | (with_reducible refine Below.drew ?_) | (with_reducible refine below_drewN ?_ _))); done))))
        clear hK K hHeld
        have hHeld := hHeldN
        clear hHeldN
        try simp only [Act.put, List.setIfInBounds_toArray, List.set_cons_zero, List.set_cons_succ]
        refine wpAnyH_done (by kernel_rfl) ?_ _
        obtain ⟨⟨q0, -⟩, ⟨q2, -⟩, qB⟩ := hHeld
        have qz := Blk.later hA kz
        have q3 := Blk.later hA k3
        have q4 := Blk.later hA k4
        have hm2 := map_later hA hmp
        have HK3 : Hid (BasP W H (pre ++ [⟨(k, z), hk, ht⟩]) ls c') := by
          intro hall
          rw [List.length_append, List.length_singleton] at hall
          obtain ⟨ha, hb⟩ := hall.cut2
          have e3 : endsP W H (pre ++ [⟨(k, z), hk, ht⟩]) = endsP W H pre := by
            unfold endsP
            rw [List.map_append, List.filter_append, List.map_singleton]
            have : [plc W k].filter (ownB W H zs) = [] := by
              have e9 : ownB W H zs (px, py) = false := HOF.out
              rw [HPL.out]; simp [List.filter_cons, e9]
            show _ ++ [plc W k].filter _ = _
            rw [this, List.append_nil]
          rw [e3]
          exact HP.out ha
        have HK1 : Hid (KeepsFrom W0.heap.size W1 wB) := KeepsFrom.of_below hA
        gi_wp2
        exact ⟨HK1.out, fun hG => hG.later hA, ⟨⟨ls, c', HK3.out, hm2⟩, ⟨q0, qz, q3, q4⟩, qB⟩⟩
  case done =>
    rintro D xs W1 hD hall ⟨⟨ls, c', hp, hmp⟩, ⟨b0, bz, b1, b2⟩, hb⟩ hK
    obtain ⟨hls, hcc⟩ := hp (by rw [hall.length]; exact hall)
    rw [endsP_all hall] at hls hcc
    subst hls hcc
    rw [mpG_nums] at hmp
    have hml : (mpL 0 (endsN W H zs m)).length = (endsN W H zs m).length := mpL_length 0 _
    have HBV : Hid (∀ k, k < m → ∀ W2, Below W1.drew.heap.size W1.drew W2 → Calls Try.prog 88 (#[.agg #[.int .i64 ((k : Int) % W), .int .i64 ((k : Int) / W)]] ++ #[.pointer (some ⟨wA.heap.size + 1, 0, none⟩), .pointer (some ⟨w.heap.size, 0, none⟩)]) W2 fun e W3 => e = .returned (.int .i64 (V k)) ∧ Below W2.heap.size W2 W3) := fun k hk W2 hW2 => by
      obtain ⟨t, i, g1, g2, g3, g4, g5⟩ := HV.out k hk
      have hplace := place_in (W := W) (H := H) ⟨w0, w1⟩ ⟨h0, h1⟩ HWH.out hk
      rw [g5]
      exact basins1_any W H (plc W k) t (some ⟨bb, off, none⟩) m c zs (endsN W H zs m) i (wA.heap.size + 1) w.heap.size wA.heap.size HI.out hplace g1 g2 g3 g4 W2 (HRW.out.later (hb.drew.trans (hW2.mono hb.drew.size))) (Blk.later hW2 b1.drew) (Blk.later hW2 b0.drew) (map_later hW2 (show W1.drew.heap[wA.heap.size]? = _ from hmp))
    have HBB := Lib.hid (build_any W H m 88 #[.pointer (some ⟨wA.heap.size + 1, 0, none⟩), .pointer (some ⟨w.heap.size, 0, none⟩)] V HWH.out w0 w1 h0 h1 m2 (enters_of Try.func88 (by kernel_rfl) rfl) W1.drew HBV)
    have hbz := bz.lt
    have hWs := hb.size
    obtain ⟨e0, f0⟩ := b0.read; obtain ⟨e1, f1⟩ := b1.read; obtain ⟨eZ, fZ⟩ := bz.read
    have hln : ∀ w', w'.heap[wA.heap.size]? = some (.map (mpL 0 (endsN W H zs m)).toArray (endsN W H zs m).length) → (Builtin.len_ #[115] 3 #[.map (some wA.heap.size)]).run Try.prog w' = .ok (.int .i64 ((endsN W H zs m).length : Nat)) w' := fun w' h => by
      rw [run_len_map w' 115 3 wA.heap.size _ _ (by kernel_rfl) h, List.size_toArray, hml]; rfl
    clear hml
    gi_wp2
    refine held_w (fun w' => (Blk w' w.heap.size #[.int .i64 W, .int .i64 H, .slice (some ⟨bb, off, none⟩) m c] 24 ∧ (∀ i : Nat, w'.cell? ⟨w.heap.size, i, none⟩ = (#[.int .i64 W, .int .i64 H, .slice (some ⟨bb, off, none⟩) m c] : Array Value)[i]?)) ∧ (Blk w' (wA.heap.size + 1) #[.map (some wA.heap.size)] 115 ∧ (∀ i : Nat, w'.cell? ⟨(wA.heap.size + 1), i, none⟩ = (#[.map (some wA.heap.size)] : Array Value)[i]?)) ∧ w'.heap[wA.heap.size]? = some (.map (mpL 0 (endsN W H zs m)).toArray (endsN W H zs m).length) ∧ Below w.heap.size w w') hmx (by kernel_rfl) ⟨b0.drew.full, b1.drew.full, hmp, hb.drew⟩ (fun hHeld => ?_)
    refine wpAnyH_take (i := 0) (v := ?_) rfl (by kernel_rfl) (by kernel_rfl) (by kernel_rfl) (fun _ _ _ h => h) (Or.inl ⟨by rfl, ?hT9⟩) (by assumption) ?_
    case hT9 => ((intro w hSw; (try dsimp only at hSw); go_simp); try (with_reducible rfl))
    try simp only [Act.put, List.setIfInBounds_toArray, List.set_cons_zero, List.set_cons_succ]
    refine wpAnyH_take (i := 1) (v := ?_) rfl (by kernel_rfl) (by kernel_rfl) (by kernel_rfl) (fun _ _ _ h => h) (Or.inl ⟨by rfl, ?hT10⟩) (by assumption) ?_
    case hT10 => ((intro w hSw; (try dsimp only at hSw); go_simp); try (with_reducible rfl))
    try simp only [Act.put, List.setIfInBounds_toArray, List.set_cons_zero, List.set_cons_succ]
    refine wpAnyH_take (i := 2) (v := ?_) rfl (by kernel_rfl) (by kernel_rfl) (by kernel_rfl) (fun _ _ _ h => h) (Or.inl ⟨by rfl, ?hT11⟩) (by assumption) ?_
    case hT11 => ((intro w hSw; (try dsimp only at hSw); go_simp); try (with_reducible rfl))
    try simp only [Act.put, List.setIfInBounds_toArray, List.set_cons_zero, List.set_cons_succ]
    refine wpAnyH_take (i := 3) (v := ?_) rfl (by kernel_rfl) (by kernel_rfl) (by kernel_rfl) (fun _ _ _ h => h) (Or.inl ⟨by rfl, ?hT12⟩) (by assumption) ?_
    case hT12 => ((intro w hSw; (try dsimp only at hSw); go_simp); try (with_reducible rfl))
    try simp only [Act.put, List.setIfInBounds_toArray, List.set_cons_zero, List.set_cons_succ]
    refine wpAnyH_take (i := 4) (v := ?_) rfl (by kernel_rfl) (by kernel_rfl) (by kernel_rfl) (fun _ _ _ h => h) (Or.inl ⟨by rfl, ?hT13⟩) (by assumption) ?_
    case hT13 => ((intro w hSw; (try dsimp only at hSw); go_simp); try (with_reducible rfl))
    try simp only [Act.put, List.setIfInBounds_toArray, List.set_cons_zero, List.set_cons_succ]
    refine wpAnyH_take (i := 6) (v := ?_) rfl (by kernel_rfl) (by kernel_rfl) (by kernel_rfl) (fun _ _ _ h => h) (Or.inl ⟨by rfl, ?hT14⟩) (by assumption) ?_
    case hT14 => ((intro w hSw; (try dsimp only at hSw); go_simp); try (with_reducible rfl))
    try simp only [Act.put, List.setIfInBounds_toArray, List.set_cons_zero, List.set_cons_succ]
    refine wpAnyH_ready (rs := [5]) (by kernel_rfl) (by simp) ?_
    refine AllReadyH.cons rfl (fun K hK => ?_) AllReadyH.nil
    go_simp
    (go_at_call 53; (with_reducible refine (HBB.out).mono ?_); rintro e wB ⟨g, rfl, hg, kG, hbB⟩)
    refine hK.out _ _ ?_ (fun hHeldN => ?_)
    · (try dsimp only); (obtain ⟨⟨p0, -⟩, ⟨p1, -⟩, pm, pB⟩ := hHeld; exact ⟨Blk.full (Blk.later hbB p0), Blk.full (Blk.later hbB p1), map_later hbB pm, pB.trans (hbB.mono pB.size)⟩)
    clear hK K hHeld
    have hHeld := hHeldN
    clear hHeldN
    try simp only [Act.put, List.setIfInBounds_toArray, List.set_cons_zero, List.set_cons_succ]
    have qz := Blk.later hbB bz.drew
    obtain ⟨gZ, hZ⟩ := qz.read
    have hg2 : W1.heap.size ≤ g := by simpa using hg
    refine wpAnyH_take (i := 7) (v := ?_) rfl (by kernel_rfl) (by kernel_rfl) (by kernel_rfl) (fun _ _ _ h => h) (Or.inl ⟨by rfl, ?hT15⟩) (by assumption) ?_
    case hT15 => ((intro w hSw; (try dsimp only at hSw); go_simp); try (with_reducible rfl))
    try simp only [Act.put, List.setIfInBounds_toArray, List.set_cons_zero, List.set_cons_succ]
    refine wpAnyH_ready (rs := [8]) (by kernel_rfl) (by simp) ?_
    refine AllReadyH.cons rfl (fun K hK => ?_) AllReadyH.nil
    go_simp
    refine hK.out _ _ ?_ (fun hHeldN => ?_)
    · (try dsimp only); (obtain ⟨⟨p0, -⟩, ⟨p1, -⟩, pm, pB⟩ := hHeld; exact ⟨Blk.full (Blk.other (Blk.other (Blk.other p0 (by simp)) (by simp)) (by simp)), Blk.full (Blk.other (Blk.other (Blk.other p1 (by simp; omega)) (by simp; omega)) (by simp; omega)), map_set (map_set (map_set pm (by simp; omega)) (by simp; omega)) (by simp; omega), by (repeat' (first | (with_reducible exact Below.refl _ _) | (with_reducible assumption) | (with_reducible refine belowThru ?_ (by assumption)) | (with_reducible refine belowAlloc ?_) | (with_reducible refine Below.setCell ?_ (by first | omega | (simp; done) | (simp; omega)) _) | (with_reducible refine Below.drew ?_) | (with_reducible refine below_drewN ?_ _)))⟩)
    clear hK K hHeld
    have hHeld := hHeldN
    clear hHeldN
    try simp only [Act.put, List.setIfInBounds_toArray, List.set_cons_zero, List.set_cons_succ]
    refine wpAnyH_take (i := 9) (v := ?_) rfl (by kernel_rfl) (by kernel_rfl) (by kernel_rfl) (fun _ _ _ h => h) (Or.inl ⟨by rfl, ?hT16⟩) (by assumption) ?_
    case hT16 => ((intro w hSw; (try dsimp only at hSw); go_simp); try (with_reducible rfl))
    try simp only [Act.put, List.setIfInBounds_toArray, List.set_cons_zero, List.set_cons_succ]
    refine wpAnyH_take (i := 10) (v := ?_) rfl (by kernel_rfl) (by kernel_rfl) (by kernel_rfl) (fun _ _ _ h => h) (Or.inl ⟨by rfl, ?hT17⟩) (by assumption) ?_
    case hT17 => ((intro w hSw; (try dsimp only at hSw); go_simp); try (with_reducible rfl))
    try simp only [Act.put, List.setIfInBounds_toArray, List.set_cons_zero, List.set_cons_succ]
    refine wpAnyH_done (by kernel_rfl) ?_ _
    obtain ⟨-, -, -, qB⟩ := hHeld
    have kr : Blk (((wB.setCell ⟨w.heap.size + 1, 0, none⟩ (.int .i64 W)).setCell ⟨w.heap.size + 1, 1, none⟩ (.int .i64 H)).setCell ⟨w.heap.size + 1, 2, none⟩ (.slice (some ⟨g, 0, none⟩) m m)) (w.heap.size + 1) #[.int .i64 W, .int .i64 H, .slice (some ⟨g, 0, none⟩) m m] 24 := Blk.set (Blk.set (Blk.set qz))
    have kz : Blk (((wB.setCell ⟨w.heap.size + 1, 0, none⟩ (.int .i64 W)).setCell ⟨w.heap.size + 1, 1, none⟩ (.int .i64 H)).setCell ⟨w.heap.size + 1, 2, none⟩ (.slice (some ⟨g, 0, none⟩) m m)) g (ints ((List.range m).map fun k => inR (V k) (-2147483648) 2147483648)) 3 := Blk.other (Blk.other (Blk.other kG (by simp; omega)) (by simp; omega)) (by simp; omega)
    have hKB : wB.heap[D]? = some (.deferred (some [])) := (hbB.block D (Array.getElem?_eq_some_iff.1 (show W1.drew.heap[D]? = _ from hK)).1).trans hK
    have hKf : ((((wB.setCell ⟨w.heap.size + 1, 0, none⟩ (.int .i64 W)).setCell ⟨w.heap.size + 1, 1, none⟩ (.int .i64 H)).setCell ⟨w.heap.size + 1, 2, none⟩ (.slice (some ⟨g, 0, none⟩) m m))).heap[D]? = some (.deferred (some [])) := (Below.heap_setCell _ _ _ D (by simp; omega)).trans ((Below.heap_setCell _ _ _ D (by simp; omega)).trans ((Below.heap_setCell _ _ _ D (by simp; omega)).trans hKB))
    unfold onlyN
    gi_wp2
    obtain ⟨Wf, hWf⟩ : ∃ Wf, (((wB.setCell ⟨w.heap.size + 1, 0, none⟩ (.int .i64 W)).setCell ⟨w.heap.size + 1, 1, none⟩ (.int .i64 H)).setCell ⟨w.heap.size + 1, 2, none⟩ (.slice (some ⟨g, 0, none⟩) m m)) = Wf := ⟨_, rfl⟩
    rw [hWf] at kr kz hKf qB ⊢
    clear hWf
    have kr2 := kr.own (grownBy_putObj' Wf D (.deferred none)) (fun r e => by cases e; exact ⟨_, hKf, rfl⟩)
    have kz2 := kz.own (grownBy_putObj' Wf D (.deferred none)) (fun r e => by cases e; exact ⟨_, hKf, rfl⟩)
    have er := kr2.read.1
    refine ⟨by simp, .inl ⟨_, _, rfl, run_takeDeferred hKf, ?_⟩⟩
    refine ⟨.tuple #[.agg #[.int .i64 W, .int .i64 H, .slice (some ⟨g, 0, none⟩) m m], .int .i64 ((endsN W H zs m).length : Nat), .int .i64 0], ?_, _, rfl, by omega, kz2, qB.trans (belowK_b (w := w) (Nat.le_refl _) Wf D _ _ (by omega) hKf rfl rfl)⟩
    simp only [results, Try.results38]
    go_simp
  case stop =>
    rintro D cc pre W1 _ _ h _
    exact h.elim
end Go.Proofs.Ytghmjdmiaajbnaa
/-
  Layer 2: distances and basins of any valid image; the statements' own examples of them.
-/
namespace Go.Proofs.Ytghmjdmiaajbnaa
open Go.RowKit
set_option linter.unusedVariables false
set_option linter.unusedSimpArgs false

theorem row_vals2 {W H : Int} {zs : List Int} (hI : okI W H zs) {w : World} {a : Option Addr} {n : Nat} (hR : Row w a n (iv zs)) (hn : 0 < n) :
    ∃ bb off, a = some ⟨bb, off, none⟩ ∧ bb < w.heap.size ∧ zs.length = n ∧ ∀ j, j < n → ∃ z, ValR zs j z ∧ w.cell? ⟨bb, off + j, none⟩ = some (.int .i64 z) := by
  have hl : zs.length = n := by have := hR.1; rwa [iv_length] at this
  obtain ⟨b, off, e, hlt, hc⟩ := hR.2 hn
  refine ⟨b, off, e, hlt, hl, fun j hj => ⟨zs[j]'(by omega), ⟨List.getElem?_eq_getElem (by omega), hI.2.2 _ (List.getElem_mem _)⟩, ?_⟩⟩
  rw [hc j hj, iv_get, List.getElem?_eq_getElem (by omega)]; rfl
/-- Distance of a valid image. -/
theorem distance_ok (W H : Int) (a : Option Addr) (n c : Nat) (zs : List Int) (hI : okI W H zs) (hn : n ≤ maxLen) (w : World) (hR : Row w a n (iv zs)) :
    Calls Try.prog 26 #[.agg #[.int .i64 W, .int .i64 H, .slice a n c]] w (RetI W H ((List.range n).map fun (k : Nat) => inR (disN ((k : Int) % W) ((k : Int) / W) (W + H) (zeL W zs (List.range n)) (zeL W zs (List.range n)).length) (-2147483648) 2147483648) 0 w) := by
  have hl : zs.length = n := by have := hR.1; rwa [iv_length] at this
  have hmul := okS_mul hI.1.1 hI.1.2
  have hL := hI.2.1
  obtain ⟨bb, off, rfl, hbb, hlen, hc⟩ := row_vals2 hI hR (by omega)
  refine ((callsIn_wide (n := 9)).1 (dist_in 9 (by omega) W H bb off n c zs hI hl w hbb hc (Lib.hid (fun w1 h1 => icheck_ok hI _ n c hn w1 (hR.later h1))))).mono ?_
  rintro e w' ⟨g, rfl, hg, kz, hb⟩
  exact RetI.made (by simp) hg kz hb
/-- Basins of a valid image whose ways end. -/
def RetB (W H : Int) (zs : List Int) (K E : Int) (w : World) (e : Ending) (w' : World) : Prop :=
  ∃ (a : Option Addr) (n c : Nat), e = .returned (.tuple #[.agg #[.int .i64 W, .int .i64 H, .slice a n c], .int .i64 K, .int .i64 E]) ∧ New w.heap.size w' a n zs ∧ Below w.heap.size w w'
theorem basins_ok (W H : Int) (a : Option Addr) (n c : Nat) (zs : List Int) (V : Nat → Int) (hI : okI W H zs) (hn : n ≤ maxLen)
    (HV : Hid (∀ k, k < n → ∃ (t i : Nat), nxtP W H zs (itN W H zs (plc W k) t) = itN W H zs (plc W k) t ∧ (∀ j, j < t → nxtP W H zs (itN W H zs (plc W k) j) ≠ itN W H zs (plc W k) j) ∧ (endsN W H zs n)[i]? = some (itN W H zs (plc W k) t) ∧ (∀ i', i' < i → (endsN W H zs n)[i']? ≠ some (itN W H zs (plc W k) t)) ∧ V k = (i : Int) + 1))
    (w : World) (hR : Row w a n (iv zs)) :
    Calls Try.prog 38 #[.agg #[.int .i64 W, .int .i64 H, .slice a n c]] w (RetB W H ((List.range n).map fun k => inR (V k) (-2147483648) 2147483648) ((endsN W H zs n).length : Nat) 0 w) := by
  have hl : zs.length = n := by have := hR.1; rwa [iv_length] at this
  have hmul := okS_mul hI.1.1 hI.1.2
  have hL := hI.2.1
  obtain ⟨bb, off, rfl, hbb, hlen, hc⟩ := row_vals2 hI hR (by omega)
  refine ((callsIn_wide (n := 9)).1 (basins_in 9 (by omega) W H bb off n c zs V hI hl w hbb hc hR HV (Lib.hid (fun w1 h1 => icheck_ok hI _ n c hn w1 (hR.later h1))))).mono ?_
  rintro e w' ⟨g, rfl, hg, kz, hb⟩
  exact ⟨_, _, _, rfl, ⟨by simp, .inr ⟨g, rfl, hg, kz⟩⟩, hb⟩

/-! ### The examples -/
theorem a_dist (a : Option Addr) (c : Nat) (w : World) (hR : Row w a 4 (iv [3, 0, 7, 7])) :
    Calls Try.prog 26 #[.agg #[.int .i64 4, .int .i64 1, .slice a 4 c]] w (RetI 4 1 [1, 0, 1, 2] 0 w) := by
  have h := distance_ok 4 1 a 4 c [3, 0, 7, 7] (by decide) (by decide) w hR
  rwa [show ((List.range 4).map fun (k : Nat) => inR (disN ((k : Int) % 4) ((k : Int) / 4) (4 + 1) (zeL 4 [3, 0, 7, 7] (List.range 4)) (zeL 4 [3, 0, 7, 7] (List.range 4)).length) (-2147483648) 2147483648) = [1, 0, 1, 2] by kernel_rfl] at h
def exB : List Int := [3, 1, 2, 2, 0, 5]
def exV (k : Nat) : Int := if k < 3 then 1 else 2
theorem a_basins_hv : ∀ k, k < 6 → ∃ (t i : Nat), nxtP 6 1 exB (itN 6 1 exB (plc 6 k) t) = itN 6 1 exB (plc 6 k) t ∧ (∀ j, j < t → nxtP 6 1 exB (itN 6 1 exB (plc 6 k) j) ≠ itN 6 1 exB (plc 6 k) j) ∧ (endsN 6 1 exB 6)[i]? = some (itN 6 1 exB (plc 6 k) t) ∧ (∀ i', i' < i → (endsN 6 1 exB 6)[i']? ≠ some (itN 6 1 exB (plc 6 k) t)) ∧ exV k = (i : Int) + 1 := by
  intro k hk
  match k, hk with
  | 0, _ => exact ⟨1, 0, of_decide_eq_true (by kernel_rfl)⟩
  | 1, _ => exact ⟨0, 0, of_decide_eq_true (by kernel_rfl)⟩
  | 2, _ => exact ⟨1, 0, of_decide_eq_true (by kernel_rfl)⟩
  | 3, _ => exact ⟨1, 1, of_decide_eq_true (by kernel_rfl)⟩
  | 4, _ => exact ⟨0, 1, of_decide_eq_true (by kernel_rfl)⟩
  | 5, _ => exact ⟨1, 1, of_decide_eq_true (by kernel_rfl)⟩
theorem a_basins (a : Option Addr) (c : Nat) (w : World) (hR : Row w a 6 (iv [3, 1, 2, 2, 0, 5])) :
    Calls Try.prog 38 #[.agg #[.int .i64 6, .int .i64 1, .slice a 6 c]] w (RetB 6 1 [1, 1, 1, 2, 2, 2] 2 0 w) := by
  have h := basins_ok 6 1 a 6 c exB exV (by decide) (by decide) (Lib.hid a_basins_hv) w hR
  rwa [show ((List.range 6).map fun k => inR (exV k) (-2147483648) 2147483648) = [1, 1, 1, 2, 2, 2] by kernel_rfl, show (((endsN 6 1 exB 6).length : Nat) : Int) = 2 by kernel_rfl] at h
end Go.Proofs.Ytghmjdmiaajbnaa
/-
  Layer 2: the sums of all pixels above and to the left, by the code.
-/
namespace Go.Proofs.Ytghmjdmiaajbnaa
open Go.RowKit Go.Shelf
set_option linter.unusedVariables false
set_option linter.unusedSimpArgs false

attribute [local go_sem] Oper.semAt_some

theorem PixAll.split {len k : Nat} {R : Nat → Int → Prop} {xs : List (Pel len R)} {x : Pel len R} (h : PixAll (k + 1) (xs ++ [x])) : PixAll k xs ∧ x.1.1 = k := by
  unfold PixAll at *
  rw [List.map_append, List.range_succ] at h
  have := List.append_inj' h rfl
  exact ⟨this.1, by simpa using this.2⟩
/-- What is known of the integral when k pixels have come. -/
def IntegOk (W H : Nat) (zs ls : List Int) (k : Nat) : Prop := ∀ i j, i ≤ W → j ≤ H → ls[j * (W + 1) + i]? = some (if i = 0 ∨ j = 0 ∨ (j - 1) * W + (i - 1) < k then boxN W zs 0 0 i j else 0)
theorem place_inj {V i j i' j' : Nat} (h1 : i < V) (h2 : i' < V) (h : j * V + i = j' * V + i') : i = i' ∧ j = j' := by
  obtain ⟨a1, a2⟩ := divmod_place (y := j) h1
  obtain ⟨b1, b2⟩ := divmod_place (y := j') h2
  rw [h] at a1 a2
  exact ⟨a1.symm.trans b1, a2.symm.trans b2⟩
theorem IntegOk.start (W H : Nat) (zs : List Int) : IntegOk W H zs (List.replicate ((W + 1) * (H + 1)) 0) 0 := by
  intro i j hi hj
  have h1 := Nat.mul_le_mul_right (W + 1) hj
  have h2 : (W + 1) * (H + 1) = H * (W + 1) + (W + 1) := by rw [Nat.mul_succ, Nat.mul_comm]
  rw [List.getElem?_replicate, if_pos (by omega)]
  congr 1
  by_cases h : i = 0 ∨ j = 0 ∨ (j - 1) * W + (i - 1) < 0
  · rw [if_pos h]
    rcases h with rfl | rfl | h
    · exact (box_x0 W zs j).symm
    · exact (box_y0 W zs i).symm
    · omega
  · rw [if_neg h]
theorem IntegOk.succ {W H : Nat} {zs ls : List Int} {x y : Nat} {z : Int} (h : IntegOk W H zs ls (y * W + x)) (hx : x < W) (hy : y < H) (hz : pxN W zs x y = z) (hl : ls.length = (W + 1) * (H + 1)) :
    ∃ u1 u2 u3 : Int, ls[(y + 1) * (W + 1) + x]? = some u1 ∧ ls[y * (W + 1) + (x + 1)]? = some u2 ∧ ls[y * (W + 1) + x]? = some u3 ∧
      u1 = boxN W zs 0 0 x (y + 1) ∧ u2 = boxN W zs 0 0 (x + 1) y ∧ u3 = boxN W zs 0 0 x y ∧ IntegOk W H zs (ls.set ((y + 1) * (W + 1) + (x + 1)) (z + u1 + u2 - u3)) (y * W + x + 1) := by
  have g1 := h x (y + 1) (by omega) (by omega)
  have g2 := h (x + 1) y (by omega) (by omega)
  have g3 := h x y (by omega) (by omega)
  have hy1 : (y - 1) * W + W ≤ y * W ∨ y = 0 := by
    rcases Nat.eq_zero_or_pos y with e | e
    · exact .inr e
    · left
      obtain ⟨y', rfl⟩ : ∃ y', y = y' + 1 := ⟨y - 1, by omega⟩
      rw [Nat.add_sub_cancel, Nat.succ_mul]; exact Nat.le_refl _
  rw [if_pos (by rw [Nat.add_sub_cancel]; omega)] at g1
  rw [if_pos (by rw [Nat.add_sub_cancel]; omega)] at g2
  rw [if_pos (by omega)] at g3
  refine ⟨_, _, _, g1, g2, g3, rfl, rfl, rfl, fun i j hi hj => ?_⟩
  have hq : (y + 1) * (W + 1) + (x + 1) < ls.length := by
    rw [hl, Nat.mul_succ (W + 1) H, Nat.mul_comm (W + 1) H]
    have := Nat.mul_le_mul_right (W + 1) (show y + 1 ≤ H by omega)
    omega
  by_cases e : (y + 1) * (W + 1) + (x + 1) = j * (W + 1) + i
  · obtain ⟨rfl, rfl⟩ := place_inj (V := W + 1) (by omega) (by omega) e
    rw [List.getElem?_set_self hq, if_pos (by rw [Nat.add_sub_cancel, Nat.add_sub_cancel]; omega)]
    congr 1
    have := box_step W zs x y
    omega
  · rw [List.getElem?_set_ne e, h i j hi hj]
    congr 1
    by_cases k : i = 0 ∨ j = 0 ∨ (j - 1) * W + (i - 1) < y * W + x
    · rw [if_pos k, if_pos (by omega)]
    · rw [if_neg k, if_neg]
      rintro (k1 | k1 | k1)
      · exact k (.inl k1)
      · exact k (.inr (.inl k1))
      · have e2 : (j - 1) * W + (i - 1) = y * W + x := by omega
        obtain ⟨e3, e4⟩ := place_inj (V := W) (by omega) hx e2
        exact e (by rw [show i = x + 1 by omega, show j = y + 1 by omega])
theorem IntegOk.all {W H : Nat} {zs ls : List Int} (h : IntegOk W H zs ls (W * H)) (hl : ls.length = (W + 1) * (H + 1)) : ls = (List.range ((W + 1) * (H + 1))).map fun q => boxN W zs 0 0 (q % (W + 1)) (q / (W + 1)) := by
  apply List.ext_getElem?
  intro q
  by_cases hq : q < (W + 1) * (H + 1)
  · have h1 : q % (W + 1) < W + 1 := Nat.mod_lt _ (by omega)
    have h2 : q / (W + 1) < H + 1 := Nat.div_lt_of_lt_mul hq
    have h3 := h (q % (W + 1)) (q / (W + 1)) (by omega) (by omega)
    rw [Nat.mul_comm, Nat.div_add_mod] at h3
    rw [h3, List.getElem?_map, List.getElem?_range hq]
    show _ = some _
    congr 1
    rw [if_pos]
    rcases Nat.eq_zero_or_pos (q % (W + 1)) with e | e
    · exact .inl e
    · rcases Nat.eq_zero_or_pos (q / (W + 1)) with e' | e'
      · exact .inr (.inl e')
      · right; right
        have := Nat.mul_le_mul_right W (show q / (W + 1) - 1 + 1 ≤ H by omega)
        rw [Nat.succ_mul, Nat.mul_comm H] at this
        omega
  · rw [List.getElem?_eq_none (by omega), List.getElem?_eq_none (by simp; omega)]
end Go.Proofs.Ytghmjdmiaajbnaa
