/-
  The texts that the laws of this seat share, merged: part 3.
-/
import Derived.BigQuiet
import Derived.Deep.Draws
import Derived.Deep.OwnRows
import Derived.Deep.QuietTactic
import Derived.Deep.RegionHeld3
import Derived.Laws.AppendOwn
import Derived.Lib.Hide
import Derived.LoopIn
import Derived.LoopNIn
import Derived.OneCell
import Derived.Orders
import Derived.OwnWalkIn
import Derived.RangeFuncBound
import Derived.RangeFuncCalls
import Derived.RangeFuncLeaves
import Derived.RangeFuncNested
import Derived.Shelf.Abstract
import Derived.Shelf.AbstractIn
import Derived.Shelf.RegionOpen
import Derived.TacticsInMore
import Derived.Test.YtghmjdmiaajbnaaProg
import Derived.WalkKit
import Derived.WalkSmall
import Derived.WalkSpells
import Derived.Test.YtghmjdmiaajbnaaM1
import Derived.Test.YtghmjdmiaajbnaaM2
/-
  Layer 2: sums of rows and of columns, by the code.
-/
namespace Go.Proofs.Ytghmjdmiaajbnaa
open Go.RowKit Go.Shelf
set_option linter.unusedVariables false
set_option linter.unusedSimpArgs false

attribute [local go_sem] Oper.semAt_some

/-- What the iterator hands on of an image: its values. -/
def ValR (zs : List Int) (j : Nat) (z : Int) : Prop := zs[j]? = some z ∧ okV z
/-- The sum of the values of some pixels that belong to a number. -/
def addP {N : Nat} {zs : List Int} (ix : Nat → Nat) (pre : List (Pel N (ValR zs))) (j : Nat) : Int := (pre.map fun x => if ix x.1.1 = j then x.1.2 else 0).foldl (· + ·) 0
theorem addP_snoc {N : Nat} {zs : List Int} (ix : Nat → Nat) (pre : List (Pel N (ValR zs))) (x : Pel N (ValR zs)) (j : Nat) : addP ix (pre ++ [x]) j = addP ix pre j + if ix x.1.1 = j then x.1.2 else 0 := by
  unfold addP; rw [List.map_append, List.foldl_append]; rfl
theorem addP_bd {N : Nat} {zs : List Int} (ix : Nat → Nat) (pre : List (Pel N (ValR zs))) (j : Nat) : -((pre.length : Int) * 2147483648) ≤ addP ix pre j ∧ addP ix pre j ≤ (pre.length : Int) * 2147483648 := by
  rw [← List.reverse_reverse pre]
  generalize pre.reverse = l
  induction l with
  | nil => simp [addP]
  | cons x l ih =>
    rw [List.reverse_cons, addP_snoc, List.length_append, List.length_singleton]
    have hv := x.2.2.2
    unfold okV at hv
    split <;> omega
theorem fold_range (f : Nat → Int) (n : Nat) : ((List.range n).map f).foldl (· + ·) 0 = sumN f n := by
  induction n with
  | zero => rfl
  | succ n ih => rw [List.range_succ, List.map_append, List.foldl_append, ih]; rfl
theorem addP_all {N : Nat} {zs : List Int} (ix : Nat → Nat) {xs : List (Pel N (ValR zs))} (h : PixAll N xs) (j : Nat) : addP ix xs j = sumN (fun i => if ix i = j then zs[i]?.getD 0 else 0) N := by
  rw [← fold_range, ← (show xs.map (fun x => x.1.1) = List.range N from h), List.map_map]
  unfold addP
  congr 1
  refine List.map_congr_left fun x _ => ?_
  show _ = if ix x.1.1 = j then zs[x.1.1]?.getD 0 else 0
  rw [x.2.2.1]; rfl
theorem alloc3s (w : World) (c0 : Array Value) (t0 : TypeId) (c1 : Array Value) (t1 : TypeId) (c2 : Array Value) (t2 : TypeId) :
    ∃ W0, ((w.alloc (.cells c0 t0)).alloc (.cells c1 t1)).alloc (.cells c2 t2) = W0 ∧ Blk W0 w.heap.size c0 t0 ∧ Blk W0 (w.heap.size + 1) c1 t1 ∧ Blk W0 (w.heap.size + 1 + 1) c2 t2 ∧ Below w.heap.size w W0 ∧ W0.heap.size = w.heap.size + 1 + 1 + 1 :=
  ⟨_, rfl, Blk.alloc (Blk.alloc (Blk.new rfl)), Blk.alloc (Blk.new (by simp)), Blk.new (by simp), by (repeat' (first | (with_reducible exact Below.refl _ _) | (with_reducible assumption) | (with_reducible refine belowThru ?_ (by assumption)) | (with_reducible refine belowAlloc ?_) | (with_reducible refine Below.setCell ?_ (by first | omega | (simp; done) | (simp; omega)) _) | (with_reducible refine Below.drew ?_) | (with_reducible refine below_drewN ?_ _))), by simp⟩
def SumsP {N : Nat} {zs : List Int} (ix : Nat → Nat) (cnt : Nat) (pre : List (Pel N (ValR zs))) (ls : List Int) : Prop := ls.length = cnt ∧ ∀ j, j < cnt → ls[j]? = some (addP ix pre j)
theorem SumsP.snoc {N : Nat} {zs : List Int} {ix : Nat → Nat} {cnt : Nat} {pre : List (Pel N (ValR zs))} {ls : List Int} (h : SumsP ix cnt pre ls) (x : Pel N (ValR zs)) (hx : ix x.1.1 < cnt) : SumsP ix cnt (pre ++ [x]) (ls.set (ix x.1.1) (addP ix pre (ix x.1.1) + x.1.2)) := by
  refine ⟨by rw [List.length_set]; exact h.1, fun j hj => ?_⟩
  rw [addP_snoc]
  by_cases e : ix x.1.1 = j
  · rw [if_pos e, ← e, List.getElem?_set_self (by rw [h.1]; exact hx)]
  · rw [if_neg e, Int.add_zero, List.getElem?_set_ne e, h.2 j hj]
theorem SumsP.all {N : Nat} {zs : List Int} {ix : Nat → Nat} {cnt : Nat} {xs : List (Pel N (ValR zs))} {ls : List Int} (h : SumsP ix cnt xs ls) (ha : PixAll N xs) : ls = (List.range cnt).map fun j => sumN (fun i => if ix i = j then zs[i]?.getD 0 else 0) N := by
  apply List.ext_getElem?
  intro j
  by_cases hj : j < cnt
  · rw [h.2 j hj, addP_all ix ha, List.getElem?_map, List.getElem?_range hj]; rfl
  · rw [List.getElem?_eq_none (by rw [h.1]; omega), List.getElem?_eq_none (by simp; omega)]
theorem SumsP.start {N : Nat} {zs : List Int} (ix : Nat → Nat) (cnt : Nat) : SumsP ix cnt ([] : List (Pel N (ValR zs))) (List.replicate cnt 0) :=
  ⟨List.length_replicate, fun j hj => by rw [List.getElem?_replicate, if_pos hj]; rfl⟩

/-- What holds of the region whichever operations have come up. -/
def SumsI (F : FuncId) (cnt p Bx m c bb off : Nat) (W H px py u z : Int) (zs ls : List Int) (w wA W0 W1 : World) (i23 i24 i25 i26 i27 i28 i29 i30 i31 : Value) (b9 : Act) (L9 : Array Bool) (a9 : Act) (w9 : World) : Prop :=
  ∃ (gg0 gg1 gg2 gg3 gg4 gg5 gg6 gg7 gg8 gg9 : Bool), L9 = #[gg0, gg1, gg2, gg3, gg4, gg5, gg6, gg7, gg8, gg9] ∧ a9 = (((((((((b9).put (some 23) (cond gg0 (.slice (some ⟨wA.heap.size, 0, none⟩) cnt cnt) (i23))).put (some 24) (cond gg1 (.func (.func F) #[] #[]) (i24))).put (some 25) (cond gg2 (.agg #[.int .i64 px, .int .i64 py]) (i25))).put (some 26) (cond gg3 (.int .i64 (p : Int)) (i26))).put (some 27) (cond gg4 (.pointer (some ⟨wA.heap.size, p, none⟩)) (i27))).put (some 28) (cond gg5 (.int .i64 u) (i28))).put (some 29) (cond gg6 (.int .i64 z) (i29))).put (some 30) (cond gg7 (.int .i64 (u + z)) (i30))).put (some 31) (cond gg8 (.pointer (some ⟨wA.heap.size, p, none⟩)) (i31)) ∧ Blk w9 (w.heap.size + 1) #[.func (.func F) #[] #[]] 87 ∧ Blk w9 (wA.heap.size + 1) #[.slice (some ⟨wA.heap.size, 0, none⟩) cnt cnt] 22 ∧ Blk w9 Bx #[.int .i64 px, .int .i64 py] 83 ∧ Blk w9 (wA.heap.size + 1 + 1) #[.int .i64 W, .int .i64 H, .slice (some ⟨bb, off, none⟩) m c] 86 ∧ Blk w9 wA.heap.size (cond gg9 ((ints ls).setIfInBounds p (.int .i64 (u + z))) (ints ls)) 3 ∧ Below w.heap.size w w9 ∧ wA.heap.size ≤ w9.heap.size ∧ KeepsFrom (wA.heap.size + 1 + 1 + 1) W1 w9 ∧ (PixG (wA.heap.size + 1 + 1) bb off m c W H (ValR zs) W1 → PixG (wA.heap.size + 1 + 1) bb off m c W H (ValR zs) w9) ∧ (gg9 = true → gg5 = true)

theorem run_make_cnt (cnt : Nat) (h : cnt ≤ 1000) (w : World) : (Instr.makeSlice 22 (.int .i64 (cnt : Int)) (.int .i64 (cnt : Int))).run Try.prog w = .ok (.slice (some ⟨w.heap.size, 0, none⟩) cnt cnt) (w.alloc (.cells (ints (List.replicate cnt 0)) 3)) := run_make_ints cnt (by omega) w
set_option maxRecDepth 100000 in
set_option maxHeartbeats 8000000 in
theorem sums_in (n : Nat) (hn : 3 ≤ n) (W H : Int) (F : FuncId) (cnt : Nat) (ix : Nat → Nat) (bb off m c : Nat) (zs : List Int) (hI : okI W H zs) (hm : zs.length = m) (hix : ∀ k, k < m → ix k < cnt) (hcnt : cnt ≤ 16)
    (ef : ∀ args w, (callFunc F args).run Try.prog w = .ok (.enter F args) w) (w : World) (hbb : bb < w.heap.size) (hR : ∀ j, j < m → ∃ z, ValR zs j z ∧ w.cell? ⟨bb, off + j, none⟩ = some (.int .i64 z))
    (HF : Hid (∀ k, k < m → ∀ w, Calls Try.prog F #[.agg #[.int .i64 ((k : Int) % W), .int .i64 ((k : Int) / W)]] w fun e w' => e = .returned (.int .i64 (ix k : Nat)) ∧ Below w.heap.size w w'))
    (HK : Hid (∀ w1, Below w.heap.size w w1 → Calls Try.prog 51 #[.agg #[.int .i64 W, .int .i64 H, .slice (some ⟨bb, off, none⟩) m c]] w1 fun e w' => e = .returned (.int .i64 0) ∧ Below w1.heap.size w1 w')) :
    CallsIn Fence.wide n Try.prog 74 #[.agg #[.int .i64 W, .int .i64 H, .slice (some ⟨bb, off, none⟩) m c], .int .i64 cnt, .func (.func F) #[] #[]] w fun e w' => ∃ g, e = .returned (.tuple #[.slice (some ⟨g, 0, none⟩) cnt cnt, .int .i64 0]) ∧ w.heap.size ≤ g ∧ Blk w' g (ints ((List.range cnt).map fun j => sumN (fun i => if ix i = j then zs[i]?.getD 0 else 0) m)) 3 ∧ Below w.heap.size w w' := by
  have hmk := run_make_cnt cnt (by omega)
  obtain ⟨⟨⟨w0, w1⟩, h0, h1⟩, hL, -⟩ := hI
  have hmul := okS_mul ⟨w0, w1⟩ ⟨h0, h1⟩
  have m1 : 1 ≤ m := by omega
  have m2 : m ≤ 256 := by omega
  have HR := Lib.hid hR
  have HIX := Lib.hid hix
  clear hR hix hL hmul hm
  refine callsIn_of_wp_marks Try.func74 rfl trivial ?_ rfl
  simp only [Try.ntmps74, List.size_toArray, List.length_cons, List.length_nil, Nat.reduceAdd, Nat.reduceSub, Array.replicate_succ, Array.replicate_zero, List.push_toArray, List.append_toArray, List.nil_append, List.cons_append]
  have n1 : 1 ≤ n := by omega
  have n2 : 1 ≤ n - 1 - 1 := by omega
  have hmx : Try.prog.follows .mixedOrders = true := by kernel_rfl
  gi_wp2_with (first
    | ((try (refine ⟨trivial, ?_⟩)); gi_at_call 51; refine (callsIn_wide.2 (HK.out _ (by (repeat' (first | (with_reducible exact Below.refl _ _) | (with_reducible assumption) | (with_reducible refine belowThru ?_ (by assumption)) | (with_reducible refine belowAlloc ?_) | (with_reducible refine Below.setCell ?_ (by first | omega | (simp; done) | (simp; omega)) _) | (with_reducible refine Below.drew ?_) | (with_reducible refine below_drewN ?_ _)))))).mono ?_; rintro e wA ⟨rfl, hbA⟩; have km : Blk wA w.heap.size #[.int .i64 W, .int .i64 H, .slice (some ⟨bb, off, none⟩) m c] 24 := Blk.later hbA (Blk.alloc (Blk.new rfl)); have kF : Blk wA (w.heap.size + 1) #[.func (.func F) #[] #[]] 87 := Blk.later hbA (Blk.new (by simp)); obtain ⟨am, bm⟩ := km.read; obtain ⟨aF, bF⟩ := kF.read; have zF := kF.lt; have zM := km.lt; have hBA : Below w.heap.size w wA := (by (repeat' (first | (with_reducible exact Below.refl _ _) | (with_reducible assumption) | (with_reducible refine belowThru ?_ (by assumption)) | (with_reducible refine belowAlloc ?_) | (with_reducible refine Below.setCell ?_ (by first | omega | (simp; done) | (simp; omega)) _) | (with_reducible refine Below.drew ?_) | (with_reducible refine below_drewN ?_ _)))))
    | ((try (refine ⟨trivial, ?_⟩)); gi_at_call 69; refine (callsIn_wide.2 (pixels_any _ _ _ _ _ _)).mono ?_; rintro e w' ⟨rfl, rfl⟩))
  clear am bm aF bF hmk
  obtain ⟨W0, hW0, kL, kB, kP, hB9, hsz⟩ := alloc3s wA (ints (List.replicate cnt 0)) 3 #[.slice (some ⟨wA.heap.size, 0, none⟩) cnt cnt] 22 #[.int .i64 W, .int .i64 H, .slice (some ⟨bb, off, none⟩) m c] 86
  rw [hW0]
  have kF0 := Blk.later hB9 kF
  have hB0 : Below w.heap.size w W0 := hBA.trans (hB9.mono hBA.size)
  clear hW0
  have hG0 : PixG (wA.heap.size + 1 + 1) bb off m c W H (ValR zs) W0 :=
    ⟨kP.cells 0, kP.cells 1, kP.cells 2, fun j hj => by obtain ⟨z, hz, hc⟩ := HR.out j hj; exact ⟨z, hz, cell_later hB0 hc⟩⟩
  refine wpIn_rangeFunc_ownH rfl n1 (gf := 110) (lb := #[.pointer (some ⟨wA.heap.size + 1 + 1, 0, none⟩)]) rfl trivial (enters_of Try.func110 (by kernel_rfl) rfl)
    (pix_stops (n - 1) (wA.heap.size + 1 + 1) bb off m c W H (ValR zs) (by omega) w0 (by omega) W0 (by omega) (by omega) hG0)
    (fun hAB hBC hA => hBC (hAB hA))
    (fun W1 l o o' hl ho hc _ hG => PixG.putObj hG ho hc)
    (Below.refl _ _) (fun _ => rfl)
    (fun pre W1 => (∃ ls, SumsP ix cnt pre ls ∧ Blk W1 wA.heap.size (ints ls) 3) ∧ (Blk W1 (w.heap.size + 1) #[.func (.func F) #[] #[]] 87 ∧ Blk W1 (wA.heap.size + 1) #[.slice (some ⟨wA.heap.size, 0, none⟩) cnt cnt] 22 ∧ Blk W1 (wA.heap.size + 1 + 1) #[.int .i64 W, .int .i64 H, .slice (some ⟨bb, off, none⟩) m c] 86) ∧ Below w.heap.size w W1)
    (fun _ _ _ => False)
    (fun s X Y row hs hg hr => by
      obtain ⟨⟨zs, hp, kz⟩, ⟨b0, b1, b2⟩, hb⟩ := hs
      have hr' := fun r e => (hr r e).2
      exact ⟨⟨zs, hp, kz.own hg hr'⟩, ⟨b0.own hg hr', b1.own hg hr', b2.own hg hr'⟩, ownFrom_below (β := Unit) (Nat.le_refl _) hB0.size () X Y row hb hg hr⟩)
    (fun _ _ _ _ _ hs _ _ => hs)
    ⟨⟨_, SumsP.start ix cnt, kL⟩, ⟨kF0, kB, kP⟩, hB0⟩
    (fun x a' W1 => ∃ Bx, Blk W1 Bx #[.int .i64 ((x.1.1 : Int) % W), .int .i64 ((x.1.1 : Int) / W)] 83 ∧ wA.heap.size + 1 + 1 < Bx ∧ a' = { tmps := #[.agg #[.int .i64 W, .int .i64 H, .slice (some ⟨bb, off, none⟩) m c], .int .i64 cnt, .func (.func F) #[] #[], .pointer (some ⟨w.heap.size, 0, none⟩), undef, .pointer (some ⟨w.heap.size + 1, 0, none⟩), .slice none 0 0, .int .i64 0, .int .i64 0, .pointer (some ⟨wA.heap.size + 1, 0, none⟩), .pointer (some ⟨Bx, 0, none⟩), .int .i64 x.1.2, .agg #[.int .i64 W, .int .i64 H, .slice (some ⟨bb, off, none⟩) m c], .int .i64 0, .int .i64 0, .bool false, undef, .int .i64 cnt, .slice (some ⟨wA.heap.size, 0, none⟩) cnt cnt, .agg #[.int .i64 W, .int .i64 H, .slice (some ⟨bb, off, none⟩) m c], .func (.func 110) #[] #[.pointer (some ⟨wA.heap.size + 1 + 1, 0, none⟩)], .agg #[.int .i64 ((x.1.1 : Int) % W), .int .i64 ((x.1.1 : Int) / W)], .int .i64 x.1.2, undef, undef, undef, undef, undef, undef, undef, undef, undef, undef], defers := [] })
    (fun x a' _ X Y row hs hg hr => by obtain ⟨Bx, h1, h2, h3⟩ := hs; exact ⟨Bx, h1.own hg (fun r e => (hr r e).2), h2, h3⟩)
    ?assign ?body ?done ?stop
  case assign =>
    rintro l pre x W1 K ⟨⟨zs, hp, kz⟩, ⟨b0, b1, b2⟩, hb⟩ hK
    have hsz1 := b2.lt
    simp only [pxEnc]
    gi_wp2
    exact hK _ _ ((KeepsOthers.alloc _ _).from _) (fun hG => hG.alloc _) ⟨⟨zs, hp, kz.alloc⟩, ⟨b0.alloc, b1.alloc, b2.alloc⟩, hb.alloc hb.size _⟩ ⟨W1.heap.size, Blk.new rfl, by omega, rfl⟩
  case body =>
    rintro l pre x a' W1 hl _ ⟨⟨ls, hp, k3⟩, ⟨k0, k1, k4⟩, hB⟩ ⟨Bx, k2, hx, rfl⟩ hlt
    obtain ⟨⟨k, z⟩, hk, ht⟩ := x
    have hpl := HIX.out k hk
    have hp' := hp.snoc ⟨(k, z), hk, ht⟩ hpl
    have hF1 := HF.out k hk
    have hbd := addP_bd ix pre (ix k)
    have hu0 := hp.2 (ix k) hpl
    dsimp only at hk k2 hp' hF1 ⊢
    obtain ⟨p, hpe⟩ : ∃ p, ix k = p := ⟨_, rfl⟩
    obtain ⟨u, hue⟩ : ∃ u, addP ix pre p = u := ⟨_, rfl⟩
    obtain ⟨px, hpx⟩ : ∃ px, (k : Int) % W = px := ⟨_, rfl⟩
    obtain ⟨py, hpy⟩ : ∃ py, (k : Int) / W = py := ⟨_, rfl⟩
    rw [hpe] at hpl hp' hF1 hbd hu0
    rw [hue] at hp' hbd hu0
    rw [hpx, hpy] at hF1 k2 ⊢
    have hzb := ht.2
    unfold okV at hzb
    have hplen : (pre.length : Int) ≤ 256 := by omega
    have q0 : -549755813888 ≤ u := by omega
    have q1 : u ≤ 549755813888 := by omega
    obtain ⟨q2, q3⟩ := hzb
    have q4 : (0 : Int) ≤ (p : Int) := by omega
    have q5 : (p : Int) < (cnt : Int) := by omega
    have q6 : (cnt : Int) ≤ 16 := by omega
    have hwz : IntKind.i64.wrap (u + z) = u + z := IntWalk.i64_in _ (by omega)
    have HU : Hid ((ints ls)[p]? = some (.int .i64 u)) := by show _ = _; rw [ints_get, hu0]; rfl
    have HF1 := Lib.hid hF1
    have HS := Lib.hid hp'
    have hsz1 := k1.lt
    have hbw := hB.size
    clear hpe hue hpx hpy hbd hu0 hp hp' hF1 hG0 kL kB kP kF kF0 km hB9 hplen
    gi_wp2
    refine wp_region_inv_in (SumsI F cnt p Bx m c bb off W H px py u z zs ls w wA W0 W1 ?i23 ?i24 ?i25 ?i26 ?i27 ?i28 ?i29 ?i30 ?i31) (by kernel_rfl) (by kernel_rfl) (by kernel_rfl) (by rintro ⟨_, _, h⟩; exact h) ?hsz ?hst ?hstep ?hfin
    case hst =>
      unfold SumsI
      refine ⟨false, false, false, false, false, false, false, false, false, false, rfl, ?_, ?_, ?_, ?_, ?_, ?_, ?_, ?_, ?_, ?_, ?_⟩
      · first | (simp only [Act.put, List.setIfInBounds_toArray, List.set_cons_zero, List.set_cons_succ, cond_false]; done) | (simp only [Act.put, List.setIfInBounds_toArray, List.set_cons_zero, List.set_cons_succ, cond_false]; rfl)
      all_goals (first | (exact (KeepsOthers.drew _).from _; done) | (exact fun h => h.drew; done) | (intro h; cases h; done) | ((repeat' (first | (with_reducible assumption) | ((with_reducible refine Blk.new ?_); first | rfl | (simp; done)) | (with_reducible refine Blk.later (by assumption) ?_) | (with_reducible refine Blk.alloc ?_) | (with_reducible refine Blk.drewN ?_) | (with_reducible refine Blk.drew ?_) | (with_reducible refine Blk.other ?_ (by first | omega | (simp; done) | (simp; omega))))); done) | ((repeat' (first | (with_reducible exact Below.refl _ _) | (with_reducible assumption) | (with_reducible refine belowThru ?_ (by assumption)) | (with_reducible refine belowAlloc ?_) | (with_reducible refine Below.setCell ?_ (by first | omega | (simp; done) | (simp; omega)) _) | (with_reducible refine Below.drew ?_) | (with_reducible refine below_drewN ?_ _))); done) | (simp only [cond_false]; (repeat' (first | (with_reducible assumption) | ((with_reducible refine Blk.new ?_); first | rfl | (simp; done)) | (with_reducible refine Blk.later (by assumption) ?_) | (with_reducible refine Blk.alloc ?_) | (with_reducible refine Blk.drewN ?_) | (with_reducible refine Blk.drew ?_) | (with_reducible refine Blk.other ?_ (by first | omega | (simp; done) | (simp; omega))))); done) | (simp only [World.size_drew]; omega) | (simp only [World.size_drew] at *; omega) | (simp; done) | (simp; omega))
    case hsz =>
      intro L a w9 h
      obtain ⟨gg0, gg1, gg2, gg3, gg4, gg5, gg6, gg7, gg8, gg9, rfl, -⟩ := h; rfl
    case hstep =>
      intro L a w9 hI i hi
      obtain ⟨gg0, gg1, gg2, gg3, gg4, gg5, gg6, gg7, gg8, gg9, rfl, rfl, fb0, fb1, fb2, fb3, fb4, fB, fL, exE, exP, h5_9⟩ := hI
      obtain ⟨hi1, hi2, o, ho, hall⟩ := inv_mem hi
      clear hi
      rcases i with _ | _ | _ | _ | _ | _ | _ | _ | _ | _ | i
      · have ge0 : gg0 = false := hi2
        clear hall hi1 hi2
        subst ge0
        have ho2 := ho
        simp only [List.getElem?_toArray, List.getElem?_cons_zero, List.getElem?_cons_succ] at ho2
        have ho3 := Option.some.inj ho2; clear ho2; subst ho3
        obtain ⟨ba0, bb0⟩ := fb0.read; have bl0 := fb0.lt
        obtain ⟨ba1, bb1⟩ := fb1.read; have bl1 := fb1.lt
        obtain ⟨ba2, bb2⟩ := fb2.read; have bl2 := fb2.lt
        obtain ⟨ba3, bb3⟩ := fb3.read; have bl3 := fb3.lt
        simp only [Act.put, List.setIfInBounds_toArray, List.set_cons_zero, List.set_cons_succ]
        simp only [cond_true, cond_false]
        refine inv_op ho (by kernel_rfl) (fun K hK => ?_)
        clear ho
        go_simp
        refine hK.out _ _ ?_
        unfold SumsI
        refine ⟨true, gg1, gg2, gg3, gg4, gg5, gg6, gg7, gg8, gg9, rfl, by simp only [Act.put, List.setIfInBounds_toArray, List.set_cons_zero, List.set_cons_succ, cond_true, cond_false, Bool.cond_self], ?_, ?_, ?_, ?_, ?_, ?_, ?_, ?_, ?_, ?_⟩
        · exact fb0
        · exact fb1
        · exact fb2
        · exact fb3
        · exact fb4
        · exact fB
        · exact fL
        · exact exE
        · exact exP
        · exact h5_9
      · have ge1 : gg1 = false := hi2
        clear hall hi1 hi2
        subst ge1
        have ho2 := ho
        simp only [List.getElem?_toArray, List.getElem?_cons_zero, List.getElem?_cons_succ] at ho2
        have ho3 := Option.some.inj ho2; clear ho2; subst ho3
        obtain ⟨ba0, bb0⟩ := fb0.read; have bl0 := fb0.lt
        obtain ⟨ba1, bb1⟩ := fb1.read; have bl1 := fb1.lt
        obtain ⟨ba2, bb2⟩ := fb2.read; have bl2 := fb2.lt
        obtain ⟨ba3, bb3⟩ := fb3.read; have bl3 := fb3.lt
        simp only [Act.put, List.setIfInBounds_toArray, List.set_cons_zero, List.set_cons_succ]
        simp only [cond_true, cond_false]
        refine inv_op ho (by kernel_rfl) (fun K hK => ?_)
        clear ho
        go_simp
        refine hK.out _ _ ?_
        unfold SumsI
        refine ⟨gg0, true, gg2, gg3, gg4, gg5, gg6, gg7, gg8, gg9, rfl, by simp only [Act.put, List.setIfInBounds_toArray, List.set_cons_zero, List.set_cons_succ, cond_true, cond_false, Bool.cond_self], ?_, ?_, ?_, ?_, ?_, ?_, ?_, ?_, ?_, ?_⟩
        · exact fb0
        · exact fb1
        · exact fb2
        · exact fb3
        · exact fb4
        · exact fB
        · exact fL
        · exact exE
        · exact exP
        · exact h5_9
      · have ge2 : gg2 = false := hi2
        clear hall hi1 hi2
        subst ge2
        have ho2 := ho
        simp only [List.getElem?_toArray, List.getElem?_cons_zero, List.getElem?_cons_succ] at ho2
        have ho3 := Option.some.inj ho2; clear ho2; subst ho3
        obtain ⟨ba0, bb0⟩ := fb0.read; have bl0 := fb0.lt
        obtain ⟨ba1, bb1⟩ := fb1.read; have bl1 := fb1.lt
        obtain ⟨ba2, bb2⟩ := fb2.read; have bl2 := fb2.lt
        obtain ⟨ba3, bb3⟩ := fb3.read; have bl3 := fb3.lt
        simp only [Act.put, List.setIfInBounds_toArray, List.set_cons_zero, List.set_cons_succ]
        simp only [cond_true, cond_false]
        refine inv_op ho (by kernel_rfl) (fun K hK => ?_)
        clear ho
        go_simp
        refine hK.out _ _ ?_
        unfold SumsI
        refine ⟨gg0, gg1, true, gg3, gg4, gg5, gg6, gg7, gg8, gg9, rfl, by simp only [Act.put, List.setIfInBounds_toArray, List.set_cons_zero, List.set_cons_succ, cond_true, cond_false, Bool.cond_self], ?_, ?_, ?_, ?_, ?_, ?_, ?_, ?_, ?_, ?_⟩
        · exact fb0
        · exact fb1
        · exact fb2
        · exact fb3
        · exact fb4
        · exact fB
        · exact fL
        · exact exE
        · exact exP
        · exact h5_9
      · have ge3 : gg3 = false := hi2
        have ge1 : gg1 = true := inv_dep ho hall 1 (by kernel_rfl)
        have ge2 : gg2 = true := inv_dep ho hall 2 (by kernel_rfl)
        clear hall hi1 hi2
        subst ge3 ge1 ge2
        have ho2 := ho
        simp only [List.getElem?_toArray, List.getElem?_cons_zero, List.getElem?_cons_succ] at ho2
        have ho3 := Option.some.inj ho2; clear ho2; subst ho3
        obtain ⟨ba0, bb0⟩ := fb0.read; have bl0 := fb0.lt
        obtain ⟨ba1, bb1⟩ := fb1.read; have bl1 := fb1.lt
        obtain ⟨ba2, bb2⟩ := fb2.read; have bl2 := fb2.lt
        obtain ⟨ba3, bb3⟩ := fb3.read; have bl3 := fb3.lt
        simp only [Act.put, List.setIfInBounds_toArray, List.set_cons_zero, List.set_cons_succ]
        simp only [cond_true, cond_false]
        refine inv_op ho (by kernel_rfl) (fun K hK => ?_)
        clear ho
        go_simp
        go_at_fn F; (with_reducible refine (HF1.out _).mono ?_); rintro e w8 ⟨rfl, hb⟩
        refine hK.out _ _ ?_
        unfold SumsI
        refine ⟨gg0, true, true, true, gg4, gg5, gg6, gg7, gg8, gg9, rfl, by simp only [Act.put, List.setIfInBounds_toArray, List.set_cons_zero, List.set_cons_succ, cond_true, cond_false, Bool.cond_self], ?_, ?_, ?_, ?_, ?_, ?_, ?_, ?_, ?_, ?_⟩
        · exact Blk.later hb fb0
        · exact Blk.later hb fb1
        · exact Blk.later hb fb2
        · exact Blk.later hb fb3
        · exact Blk.later hb fb4
        · exact belowThru fB hb
        · have := hb.size; omega
        · exact KeepsFrom.call exE hb
        · exact fun h => (exP h).later hb
        · exact h5_9
      · have ge4 : gg4 = false := hi2
        have ge0 : gg0 = true := inv_dep ho hall 0 (by kernel_rfl)
        have ge3 : gg3 = true := inv_dep ho hall 3 (by kernel_rfl)
        clear hall hi1 hi2
        subst ge4 ge0 ge3
        have ho2 := ho
        simp only [List.getElem?_toArray, List.getElem?_cons_zero, List.getElem?_cons_succ] at ho2
        have ho3 := Option.some.inj ho2; clear ho2; subst ho3
        obtain ⟨ba0, bb0⟩ := fb0.read; have bl0 := fb0.lt
        obtain ⟨ba1, bb1⟩ := fb1.read; have bl1 := fb1.lt
        obtain ⟨ba2, bb2⟩ := fb2.read; have bl2 := fb2.lt
        obtain ⟨ba3, bb3⟩ := fb3.read; have bl3 := fb3.lt
        simp only [Act.put, List.setIfInBounds_toArray, List.set_cons_zero, List.set_cons_succ]
        simp only [cond_true, cond_false]
        refine inv_op ho (by kernel_rfl) (fun K hK => ?_)
        clear ho
        go_simp
        refine hK.out _ _ ?_
        unfold SumsI
        refine ⟨true, gg1, gg2, true, true, gg5, gg6, gg7, gg8, gg9, rfl, by simp only [Act.put, List.setIfInBounds_toArray, List.set_cons_zero, List.set_cons_succ, cond_true, cond_false, Bool.cond_self], ?_, ?_, ?_, ?_, ?_, ?_, ?_, ?_, ?_, ?_⟩
        · exact fb0
        · exact fb1
        · exact fb2
        · exact fb3
        · exact fb4
        · exact fB
        · exact fL
        · exact exE
        · exact exP
        · exact h5_9
      · have ge5 : gg5 = false := hi2
        have ge4 : gg4 = true := inv_dep ho hall 4 (by kernel_rfl)
        clear hall hi1 hi2
        subst ge5 ge4
        have ho2 := ho
        simp only [List.getElem?_toArray, List.getElem?_cons_zero, List.getElem?_cons_succ] at ho2
        have ho3 := Option.some.inj ho2; clear ho2; subst ho3
        obtain ⟨ba0, bb0⟩ := fb0.read; have bl0 := fb0.lt
        obtain ⟨ba1, bb1⟩ := fb1.read; have bl1 := fb1.lt
        obtain ⟨ba2, bb2⟩ := fb2.read; have bl2 := fb2.lt
        obtain ⟨ba3, bb3⟩ := fb3.read; have bl3 := fb3.lt
        obtain rfl : gg9 = false := by cases gg9; rfl; exact Bool.noConfusion (h5_9 rfl)
        simp only [cond_true, cond_false] at fb4
        obtain ⟨ba9, bb9⟩ := fb4.read
        have hu := HU.out
        simp only [Act.put, List.setIfInBounds_toArray, List.set_cons_zero, List.set_cons_succ]
        simp only [cond_true, cond_false]
        refine inv_op ho (by kernel_rfl) (fun K hK => ?_)
        clear ho
        go_simp
        refine hK.out _ _ ?_
        unfold SumsI
        refine ⟨gg0, gg1, gg2, gg3, true, true, gg6, gg7, gg8, false, rfl, by simp only [Act.put, List.setIfInBounds_toArray, List.set_cons_zero, List.set_cons_succ, cond_true, cond_false, Bool.cond_self], ?_, ?_, ?_, ?_, ?_, ?_, ?_, ?_, ?_, ?_⟩
        · exact fb0
        · exact fb1
        · exact fb2
        · exact fb3
        · exact fb4
        · exact fB
        · exact fL
        · exact exE
        · exact exP
        · intro _; rfl
      · have ge6 : gg6 = false := hi2
        clear hall hi1 hi2
        subst ge6
        have ho2 := ho
        simp only [List.getElem?_toArray, List.getElem?_cons_zero, List.getElem?_cons_succ] at ho2
        have ho3 := Option.some.inj ho2; clear ho2; subst ho3
        obtain ⟨ba0, bb0⟩ := fb0.read; have bl0 := fb0.lt
        obtain ⟨ba1, bb1⟩ := fb1.read; have bl1 := fb1.lt
        obtain ⟨ba2, bb2⟩ := fb2.read; have bl2 := fb2.lt
        obtain ⟨ba3, bb3⟩ := fb3.read; have bl3 := fb3.lt
        simp only [Act.put, List.setIfInBounds_toArray, List.set_cons_zero, List.set_cons_succ]
        simp only [cond_true, cond_false]
        refine inv_op ho (by kernel_rfl) (fun K hK => ?_)
        clear ho
        go_simp
        refine hK.out _ _ ?_
        unfold SumsI
        refine ⟨gg0, gg1, gg2, gg3, gg4, gg5, true, gg7, gg8, gg9, rfl, by simp only [Act.put, List.setIfInBounds_toArray, List.set_cons_zero, List.set_cons_succ, cond_true, cond_false, Bool.cond_self], ?_, ?_, ?_, ?_, ?_, ?_, ?_, ?_, ?_, ?_⟩
        · exact fb0
        · exact fb1
        · exact fb2
        · exact fb3
        · exact fb4
        · exact fB
        · exact fL
        · exact exE
        · exact exP
        · exact h5_9
      · have ge7 : gg7 = false := hi2
        have ge5 : gg5 = true := inv_dep ho hall 5 (by kernel_rfl)
        have ge6 : gg6 = true := inv_dep ho hall 6 (by kernel_rfl)
        clear hall hi1 hi2
        subst ge7 ge5 ge6
        have ho2 := ho
        simp only [List.getElem?_toArray, List.getElem?_cons_zero, List.getElem?_cons_succ] at ho2
        have ho3 := Option.some.inj ho2; clear ho2; subst ho3
        obtain ⟨ba0, bb0⟩ := fb0.read; have bl0 := fb0.lt
        obtain ⟨ba1, bb1⟩ := fb1.read; have bl1 := fb1.lt
        obtain ⟨ba2, bb2⟩ := fb2.read; have bl2 := fb2.lt
        obtain ⟨ba3, bb3⟩ := fb3.read; have bl3 := fb3.lt
        simp only [Act.put, List.setIfInBounds_toArray, List.set_cons_zero, List.set_cons_succ]
        simp only [cond_true, cond_false]
        refine inv_op ho (by kernel_rfl) (fun K hK => ?_)
        clear ho
        go_simp
        refine hK.out _ _ ?_
        unfold SumsI
        refine ⟨gg0, gg1, gg2, gg3, gg4, true, true, true, gg8, gg9, rfl, by simp only [Act.put, List.setIfInBounds_toArray, List.set_cons_zero, List.set_cons_succ, cond_true, cond_false, Bool.cond_self], ?_, ?_, ?_, ?_, ?_, ?_, ?_, ?_, ?_, ?_⟩
        · exact fb0
        · exact fb1
        · exact fb2
        · exact fb3
        · exact fb4
        · exact fB
        · exact fL
        · exact exE
        · exact exP
        · intro _; rfl
      · have ge8 : gg8 = false := hi2
        have ge0 : gg0 = true := inv_dep ho hall 0 (by kernel_rfl)
        have ge3 : gg3 = true := inv_dep ho hall 3 (by kernel_rfl)
        clear hall hi1 hi2
        subst ge8 ge0 ge3
        have ho2 := ho
        simp only [List.getElem?_toArray, List.getElem?_cons_zero, List.getElem?_cons_succ] at ho2
        have ho3 := Option.some.inj ho2; clear ho2; subst ho3
        obtain ⟨ba0, bb0⟩ := fb0.read; have bl0 := fb0.lt
        obtain ⟨ba1, bb1⟩ := fb1.read; have bl1 := fb1.lt
        obtain ⟨ba2, bb2⟩ := fb2.read; have bl2 := fb2.lt
        obtain ⟨ba3, bb3⟩ := fb3.read; have bl3 := fb3.lt
        simp only [Act.put, List.setIfInBounds_toArray, List.set_cons_zero, List.set_cons_succ]
        simp only [cond_true, cond_false]
        refine inv_op ho (by kernel_rfl) (fun K hK => ?_)
        clear ho
        go_simp
        refine hK.out _ _ ?_
        unfold SumsI
        refine ⟨true, gg1, gg2, true, gg4, gg5, gg6, gg7, true, gg9, rfl, by simp only [Act.put, List.setIfInBounds_toArray, List.set_cons_zero, List.set_cons_succ, cond_true, cond_false, Bool.cond_self], ?_, ?_, ?_, ?_, ?_, ?_, ?_, ?_, ?_, ?_⟩
        · exact fb0
        · exact fb1
        · exact fb2
        · exact fb3
        · exact fb4
        · exact fB
        · exact fL
        · exact exE
        · exact exP
        · exact h5_9
      · have ge9 : gg9 = false := hi2
        have ge7 : gg7 = true := inv_dep ho hall 7 (by kernel_rfl)
        have ge8 : gg8 = true := inv_dep ho hall 8 (by kernel_rfl)
        have ge5 : gg5 = true := inv_dep ho hall 5 (by kernel_rfl)
        clear hall hi1 hi2
        subst ge9 ge7 ge8 ge5
        have ho2 := ho
        simp only [List.getElem?_toArray, List.getElem?_cons_zero, List.getElem?_cons_succ] at ho2
        have ho3 := Option.some.inj ho2; clear ho2; subst ho3
        simp only [cond_true, cond_false] at fb4
        obtain ⟨ba0, bb0⟩ := fb0.read; have bl0 := fb0.lt
        obtain ⟨ba1, bb1⟩ := fb1.read; have bl1 := fb1.lt
        obtain ⟨ba2, bb2⟩ := fb2.read; have bl2 := fb2.lt
        obtain ⟨ba3, bb3⟩ := fb3.read; have bl3 := fb3.lt
        obtain ⟨ba4, bb4⟩ := fb4.read; have bl4 := fb4.lt
        have hu := HU.out
        simp only [Act.put, List.setIfInBounds_toArray, List.set_cons_zero, List.set_cons_succ]
        simp only [cond_true, cond_false]
        refine inv_op ho (by kernel_rfl) (fun K hK => ?_)
        clear ho
        go_simp
        refine hK.out _ _ ?_
        unfold SumsI
        refine ⟨gg0, gg1, gg2, gg3, gg4, true, gg6, true, true, true, rfl, by simp only [Act.put, List.setIfInBounds_toArray, List.set_cons_zero, List.set_cons_succ, cond_true, cond_false, Bool.cond_self], ?_, ?_, ?_, ?_, ?_, ?_, ?_, ?_, ?_, ?_⟩
        · (repeat' (first | (with_reducible assumption) | ((with_reducible refine Blk.new ?_); first | rfl | (simp; done)) | (with_reducible refine Blk.later (by assumption) ?_) | (with_reducible refine Blk.alloc ?_) | (with_reducible refine Blk.drewN ?_) | (with_reducible refine Blk.drew ?_) | (with_reducible refine Blk.other ?_ (by first | omega | (simp; done) | (simp; omega)))))
        · (repeat' (first | (with_reducible assumption) | ((with_reducible refine Blk.new ?_); first | rfl | (simp; done)) | (with_reducible refine Blk.later (by assumption) ?_) | (with_reducible refine Blk.alloc ?_) | (with_reducible refine Blk.drewN ?_) | (with_reducible refine Blk.drew ?_) | (with_reducible refine Blk.other ?_ (by first | omega | (simp; done) | (simp; omega)))))
        · (repeat' (first | (with_reducible assumption) | ((with_reducible refine Blk.new ?_); first | rfl | (simp; done)) | (with_reducible refine Blk.later (by assumption) ?_) | (with_reducible refine Blk.alloc ?_) | (with_reducible refine Blk.drewN ?_) | (with_reducible refine Blk.drew ?_) | (with_reducible refine Blk.other ?_ (by first | omega | (simp; done) | (simp; omega)))))
        · (repeat' (first | (with_reducible assumption) | ((with_reducible refine Blk.new ?_); first | rfl | (simp; done)) | (with_reducible refine Blk.later (by assumption) ?_) | (with_reducible refine Blk.alloc ?_) | (with_reducible refine Blk.drewN ?_) | (with_reducible refine Blk.drew ?_) | (with_reducible refine Blk.other ?_ (by first | omega | (simp; done) | (simp; omega)))))
        · exact Blk.set (fb4)
        · (repeat' (first | (with_reducible exact Below.refl _ _) | (with_reducible assumption) | (with_reducible refine belowThru ?_ (by assumption)) | (with_reducible refine belowAlloc ?_) | (with_reducible refine Below.setCell ?_ (by first | omega | (simp; done) | (simp; omega)) _) | (with_reducible refine Below.drew ?_) | (with_reducible refine below_drewN ?_ _)))
        · first | exact fL | (simp; omega)
        · exact KeepsFrom.set exE _ _
        · exact fun h => (exP h).set (by omega) (by omega)
        · intro _; rfl
      · exfalso; simp at hi1; omega
    case hfin =>
      intro a w9 hI
      obtain ⟨gg0, gg1, gg2, gg3, gg4, gg5, gg6, gg7, gg8, gg9, hL, rfl, fb0, fb1, fb2, fb3, fb4, fB, fL, exE, exP, h5_9⟩ := hI
      have hL2 : #[true, true, true, true, true, true, true, true, true, true] = #[gg0, gg1, gg2, gg3, gg4, gg5, gg6, gg7, gg8, gg9] := hL
      cases hL2
      simp only [Act.put, List.setIfInBounds_toArray, List.set_cons_zero, List.set_cons_succ]
      simp only [cond_true]
      gi_wp2
      simp only [cond_true] at fb4
      have fL2 : Blk w9 wA.heap.size (ints (ls.set p (u + z))) 3 := by rw [← ints_set]; exact fb4
      exact ⟨exE, exP, ⟨⟨_, HS.out, fL2⟩, ⟨fb0, fb1, fb3⟩, fB⟩⟩
  case done =>
    rintro D xs W1 hD hall ⟨⟨ls, hp, kz⟩, ⟨b0, b1, b2⟩, hb⟩ hK
    obtain ⟨e1, f1⟩ := b1.read
    rw [hp.all hall] at kz
    gi_wp2
    have kz2 := kz.own (grownBy_putObj' W1 D (.deferred none)) (fun r e => by cases e; exact ⟨_, hK, rfl⟩)
    have hAz := hBA.size
    refine ⟨by simp, .inl ⟨_, _, rfl, run_takeDeferred hK, ?_⟩⟩
    refine ⟨.tuple #[.slice (some ⟨wA.heap.size, 0, none⟩) cnt cnt, .int .i64 0], ?_, _, rfl, hAz, kz2, hb.trans (belowK_b (w := w) (Nat.le_refl _) W1 D _ _ (by omega) hK rfl rfl)⟩
    simp only [results, Try.results74]
    go_simp
  case stop =>
    rintro D c pre W1 _ _ h _
    exact h.elim
end Go.Proofs.Ytghmjdmiaajbnaa
