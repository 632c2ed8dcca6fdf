/-
  The texts that the laws of this seat share, merged: part 12.
-/
import Derived.BigQuiet
import Derived.Deep.CutRange
import Derived.Deep.DeepCutAuto
import Derived.Deep.Draws
import Derived.Deep.OwnRows
import Derived.Deep.QuietTactic
import Derived.Deep.RegionHeld3
import Derived.Laws.AppendOwn
import Derived.Lib.Hide
import Derived.LoopIn
import Derived.LoopNIn
import Derived.MapKept
import Derived.Maps.AppendAt
import Derived.OneCell
import Derived.Orders
import Derived.OwnWalkIn
import Derived.RangeFuncBound
import Derived.RangeFuncCalls
import Derived.RangeFuncLeaves
import Derived.RangeFuncNested
import Derived.Shelf.Abstract
import Derived.Shelf.AbstractIn
import Derived.Shelf.RegionOpen
import Derived.StillTailTactics
import Derived.TacticsInMore
import Derived.Test.YtghmjdmiaajbnaaProg
import Derived.WalkKit
import Derived.WalkSmall
import Derived.WalkSpells
import Derived.Test.YtghmjdmiaajbnaaM1
import Derived.Test.YtghmjdmiaajbnaaM8
import Derived.Test.YtghmjdmiaajbnaaM11
/-
  Layer 2: a value of a convolution, by the code.
-/
namespace Go.Proofs.Ytghmjdmiaajbnaa
open Go.RowKit Go.Shelf
set_option linter.unusedVariables false
set_option linter.unusedSimpArgs false

attribute [local go_sem] Oper.semAt_some

theorem offG_putObj {Bw Bh : Nat} {Wd Hd : Int} {W : World} {l : Nat} {o o' : Obj} (h : OffG Bw Bh Wd Hd W) (ho : W.heap[l]? = some o) (hc : o.isCells = false) : OffG Bw Bh Wd Hd (W.putObj l o') :=
  ⟨cell_putObj ho hc h.1, cell_putObj ho hc h.2⟩
theorem alloc4c (w : World) (c0 : Array Value) (t0 : TypeId) (c1 : Array Value) (t1 : TypeId) (c2 : Array Value) (t2 : TypeId) (c3 : Array Value) (t3 : TypeId) :
    ∃ W0, (((w.alloc (.cells c0 t0)).alloc (.cells c1 t1)).alloc (.cells c2 t2)).alloc (.cells c3 t3) = W0 ∧ Blk W0 w.heap.size c0 t0 ∧ Blk W0 (w.heap.size + 1) c1 t1 ∧ Blk W0 (w.heap.size + 1 + 1) c2 t2 ∧ Blk W0 (w.heap.size + 1 + 1 + 1) c3 t3 ∧ Below w.heap.size w W0 ∧ W0.heap.size = w.heap.size + 1 + 1 + 1 + 1 :=
  ⟨_, rfl, Blk.alloc (Blk.alloc (Blk.alloc (Blk.new rfl))), Blk.alloc (Blk.alloc (Blk.new (by simp))), Blk.alloc (Blk.new (by simp)), Blk.new (by simp), by (repeat' (first | (with_reducible exact Below.refl _ _) | (with_reducible assumption) | (with_reducible refine belowThru ?_ (by assumption)) | (with_reducible refine belowAlloc ?_) | (with_reducible refine Below.setCell ?_ (by first | omega | (simp; done) | (simp; omega)) _) | (with_reducible refine Below.drew ?_) | (with_reducible refine below_drewN ?_ _))), by simp⟩
/-- A sum over some indices. -/
def addC {len : Nat} (T : Nat → Int) (xs : List (Pel len (fun _ _ => True))) : Int := (xs.map (fun x => x.1.1)).foldl (fun p k => p + T k) 0
theorem addC_snoc {len : Nat} (T : Nat → Int) (xs : List (Pel len (fun _ _ => True))) (x : Pel len (fun _ _ => True)) : addC T (xs ++ [x]) = addC T xs + T x.1.1 := by
  unfold addC; rw [List.map_append, List.foldl_append]; rfl
theorem addC_all {len : Nat} (T : Nat → Int) {xs : List (Pel len (fun _ _ => True))} (h : PixAll len xs) : addC T xs = (List.range len).foldl (fun p k => p + T k) 0 := by
  unfold addC; rw [h]
theorem addC_bd {len : Nat} {T : Nat → Int} (hT : ∀ k, -140737488355328 ≤ T k ∧ T k ≤ 140737488355328) (pre : List (Pel len (fun _ _ => True))) : -((pre.length : Int) * 140737488355328) ≤ addC T pre ∧ addC T pre ≤ (pre.length : Int) * 140737488355328 := by
  rw [← List.reverse_reverse pre]
  generalize pre.reverse = l
  induction l with
  | nil => simp [addC]
  | cons x l ih =>
    rw [List.reverse_cons, addC_snoc, List.length_append, List.length_singleton]
    have := hT x.1.1
    omega

/-- What holds of the region whichever operations have come up. -/
def ConvI (F : FuncId) (k Bx m c' n c g off Bk Bf Bm : Nat) (a : Option Addr) (W H KW KH x y U V s t b f : Int) (w W0 W1 : World) (i16 i17 i18 i19 i20 i21 i22 i23 i24 i25 i26 i27 i28 i29 : Value) (b9 : Act) (L9 : Array Bool) (a9 : Act) (w9 : World) : Prop :=
  ∃ (gg0 gg1 gg2 gg3 gg4 gg5 gg6 gg7 gg8 gg9 gg10 gg11 gg12 gg13 gg14 : Bool), L9 = #[gg0, gg1, gg2, gg3, gg4, gg5, gg6, gg7, gg8, gg9, gg10, gg11, gg12, gg13, gg14] ∧ a9 = ((((((((((((((b9).put (some 16) (cond gg0 (.int .i64 s) (i16))).put (some 17) (cond gg1 (.pointer (some ⟨Bk, 2, none⟩)) (i17))).put (some 18) (cond gg2 (.slice (some ⟨g, off, none⟩) m c') (i18))).put (some 19) (cond gg3 (.int .i64 k) (i19))).put (some 20) (cond gg4 (.pointer (some ⟨g, off + k, none⟩)) (i20))).put (some 21) (cond gg5 (.int .i64 f) (i21))).put (some 22) (cond gg6 (.func (.func F) #[] #[]) (i22))).put (some 23) (cond gg7 (.agg #[.int .i64 W, .int .i64 H, .slice a n c]) (i23))).put (some 24) (cond gg8 (.agg #[.int .i64 x, .int .i64 y]) (i24))).put (some 25) (cond gg9 (.agg #[.int .i64 U, .int .i64 V]) (i25))).put (some 26) (cond gg10 (.agg #[.int .i64 (x - U), .int .i64 (y - V)]) (i26))).put (some 27) (cond gg11 (.int .i64 b) (i27))).put (some 28) (cond gg12 (.int .i64 t) (i28))).put (some 29) (cond gg13 (.int .i64 (s + t)) (i29)) ∧ Blk w9 w.heap.size #[.int .i64 x, .int .i64 y] 83 ∧ Blk w9 (w.heap.size + 1) (cond gg14 #[.int .i64 (s + t)] #[.int .i64 s]) 3 ∧ Blk w9 Bx #[.int .i64 U, .int .i64 V] 83 ∧ Blk w9 Bk #[.int .i64 KW, .int .i64 KH, .slice (some ⟨g, off, none⟩) m c'] 36 ∧ Blk w9 Bf #[.func (.func F) #[] #[]] 91 ∧ Blk w9 Bm #[.int .i64 W, .int .i64 H, .slice a n c] 24 ∧ Blk w9 (w.heap.size + 1 + 1) #[.int .i64 KW] 3 ∧ Blk w9 (w.heap.size + 1 + 1 + 1) #[.int .i64 KH] 3 ∧ Below w.heap.size w w9 ∧ w.heap.size ≤ w9.heap.size ∧ KeepsFrom (w.heap.size + 1 + 1 + 1 + 1) W1 w9 ∧ (gg14 = true → gg0 = true)

set_option maxRecDepth 100000 in
set_option maxHeartbeats 8000000 in
theorem conv_in (nn : Nat) (hn : 3 ≤ nn) (j W H KW KH x y : Int) (F : FuncId) (a a' : Option Addr) (n c m c' : Nat) (zs ks : List Int) (hI : okI W H zs) (hK : okKn KW KH ks) (x0 : 0 ≤ x) (x1 : x ≤ 16) (y0 : 0 ≤ y) (y1 : y ≤ 16)
    (Bk Bf Bm : Nat) (w : World) (hR : Row w a n (iv zs)) (hT : Row w a' m (iv ks))
    (kk : Blk w Bk #[.int .i64 KW, .int .i64 KH, .slice a' m c'] 36) (kf : Blk w Bf #[.func (.func F) #[] #[]] 91) (km : Blk w Bm #[.int .i64 W, .int .i64 H, .slice a n c] 24)
    (ef : ∀ args w, (callFunc F args).run Try.prog w = .ok (.enter F args) w)
    (HF0 : Hid (∀ px py : Int, -64 ≤ px → px ≤ 64 → -64 ≤ py → py ≤ 64 → ∀ w, Row w a n (iv zs) → Calls Try.prog F #[.agg #[.int .i64 W, .int .i64 H, .slice a n c], .agg #[.int .i64 px, .int .i64 py]] w fun e w' => e = .returned (.int .i64 (bey j W H zs px py)) ∧ Below w.heap.size w w')) :
    CallsIn Fence.wide nn Try.prog 62 #[.agg #[.int .i64 x, .int .i64 y], .pointer (some ⟨Bk, 0, none⟩), .pointer (some ⟨Bf, 0, none⟩), .pointer (some ⟨Bm, 0, none⟩)] w fun e w' => e = .returned (.int .i64 (cvN j W H zs KW KH ks x y m)) ∧ Below w.heap.size w w' := by
  have hbl : ks.length = m := by have := hT.1; rwa [iv_length] at this
  have hSS : KW * KH = (m : Int) := by rw [← hbl]; exact hK.2.1.symm
  have hm2 : m ≤ 25 := by have := okK_mul hK.1.1 hK.1.2; omega
  have hm1 : 1 ≤ m := by have := okK_mul hK.1.1 hK.1.2; omega
  obtain ⟨kw0, kw1⟩ := kn_sides hK.1.1
  obtain ⟨kh0, kh1⟩ := kn_sides hK.1.2
  obtain ⟨T, hTd⟩ : ∃ T : Nat → Int, T = cvT j W H zs KW KH ks x y := ⟨_, rfl⟩
  have HTB : Hid (∀ k, -140737488355328 ≤ T k ∧ T k ≤ 140737488355328) := fun k => by rw [hTd]; exact cvT_bd hI hK x y k
  have HTF : Hid ((List.range m).foldl (fun p k => p + T k) 0 = cvN j W H zs KW KH ks x y m) := by show _ = _; rw [hTd]; exact cvN_fold j W H zs KW KH ks x y m
  have HS : Hid (∀ k : Nat, k < m → ∃ U V f b : Int, (k : Int) % KW - KW / 2 = U ∧ (k : Int) / KW - KH / 2 = V ∧ (-5 ≤ U ∧ U ≤ 5) ∧ (-5 ≤ V ∧ V ≤ 5) ∧ ks[k]? = some f ∧ f * b = T k ∧ okFa f ∧ okV b ∧ ∀ w, Row w a n (iv zs) → Calls Try.prog F #[.agg #[.int .i64 W, .int .i64 H, .slice a n c], .agg #[.int .i64 (x - U), .int .i64 (y - V)]] w fun e w' => e = .returned (.int .i64 b) ∧ Below w.heap.size w w') := by
    intro k hk
    have h1 := Int.emod_nonneg (k : Int) (show KW ≠ 0 by omega)
    have h2 := Int.emod_lt_of_pos (k : Int) (show 0 < KW by omega)
    have h3 : 0 ≤ (k : Int) / KW := Int.ediv_nonneg (by omega) (by omega)
    have h4 : (k : Int) / KW < KH := by
      refine Int.ediv_lt_of_lt_mul (by omega) ?_
      rw [Int.mul_comm, hSS]; omega
    have hl : k < ks.length := by omega
    refine ⟨_, _, ks[k], bey j W H zs (x - ((k : Int) % KW - KW / 2)) (y - ((k : Int) / KW - KH / 2)), rfl, rfl, by omega, by omega, List.getElem?_eq_getElem hl, ?_, hK.2.2 _ (List.getElem_mem hl), bey_bd hI _ _, ?_⟩
    · rw [hTd]; unfold cvT; rw [List.getElem?_eq_getElem hl]; rfl
    · exact HF0.out _ _ (by omega) (by omega) (by omega) (by omega)
  clear HF0 hTd hI hK
  have HR := Lib.hid hR
  have HT := Lib.hid hT
  have HSS := Lib.hid hSS
  clear hR hT hbl hSS
  obtain ⟨as1, bs1⟩ := kk.read
  have zk := kk.lt; have zf := kf.lt; have zm := km.lt
  refine callsIn_of_wp_marks Try.func62 rfl trivial ?_ rfl
  simp only [Try.ntmps62, List.size_toArray, List.length_cons, List.length_nil, Nat.reduceAdd, Nat.reduceSub, Array.replicate_succ, Array.replicate_zero, List.push_toArray, List.append_toArray, List.nil_append, List.cons_append]
  have n1 : 1 ≤ nn := by omega
  have n2 : 1 ≤ nn - 1 - 1 := by omega
  have hmx : Try.prog.follows .mixedOrders = true := by kernel_rfl
  gi_wp2_with ((try (refine ⟨trivial, ?_⟩)); gi_at_call 63; refine (callsIn_wide.2 (offsets_any _ _ _)).mono ?_; rintro e w' ⟨rfl, rfl⟩)
  obtain ⟨W0, hW0, k0, k1, k2, k3, hB0, hsz⟩ := alloc4c w #[.int .i64 x, .int .i64 y] 83 #[.int .i64 0] 3 #[.int .i64 KW] 3 #[.int .i64 KH] 3
  rw [hW0]
  clear hW0
  refine wpIn_rangeFunc_ownH rfl n1 (gf := 107) (lb := #[.pointer (some ⟨w.heap.size + 1 + 1, 0, none⟩), .pointer (some ⟨w.heap.size + 1 + 1 + 1, 0, none⟩)]) rfl trivial (enters_of Try.func107 (by kernel_rfl) rfl)
    (offs_stops (nn - 1) (w.heap.size + 1 + 1) (w.heap.size + 1 + 1 + 1) m KW KH (by omega) kw0 (by omega) kh0 (by omega) HSS.out (by omega) W0 (by omega) (by omega) ⟨k2.cells 0, k3.cells 0⟩)
    (fun hAB hBC hA => hBC (hAB hA))
    (fun W1 l o o' hl ho hc _ hG => offG_putObj hG ho hc)
    (Below.refl _ _) (fun _ => rfl)
    (fun pre W1 => Blk W1 (w.heap.size + 1) #[.int .i64 (addC T pre)] 3 ∧ (Blk W1 w.heap.size #[.int .i64 x, .int .i64 y] 83 ∧ Blk W1 (w.heap.size + 1 + 1) #[.int .i64 KW] 3 ∧ Blk W1 (w.heap.size + 1 + 1 + 1) #[.int .i64 KH] 3) ∧ Below w.heap.size w W1)
    (fun _ _ _ => False)
    (fun s X Y row hs hg hr => by
      obtain ⟨kz, ⟨b0, b1, b3⟩, hb⟩ := hs
      have hr' := fun r e => (hr r e).2
      exact ⟨kz.own hg hr', ⟨b0.own hg hr', b1.own hg hr', b3.own hg hr'⟩, ownFrom_below (β := Unit) (Nat.le_refl _) hB0.size () X Y row hb hg hr⟩)
    (fun _ _ _ _ _ hs _ _ => hs)
    ⟨k1, ⟨k0, k2, k3⟩, hB0⟩
    (fun xx a1 W1 => ∃ Bx, Blk W1 Bx #[.int .i64 ((xx.1.1 : Int) % KW - KW / 2), .int .i64 ((xx.1.1 : Int) / KW - KH / 2)] 83 ∧ w.heap.size + 1 + 1 + 1 < Bx ∧ a1 = { tmps := #[.agg #[.int .i64 x, .int .i64 y], .pointer (some ⟨Bk, 0, none⟩), .pointer (some ⟨Bf, 0, none⟩), .pointer (some ⟨Bm, 0, none⟩), .pointer (some ⟨w.heap.size, 0, none⟩), .int .i64 0, .pointer (some ⟨w.heap.size + 1, 0, none⟩), .int .i64 xx.1.1, .pointer (some ⟨Bx, 0, none⟩), .pointer (some ⟨Bk, 0, none⟩), .int .i64 KW, .pointer (some ⟨Bk, 1, none⟩), .int .i64 KH, .func (.func 107) #[] #[.pointer (some ⟨w.heap.size + 1 + 1, 0, none⟩), .pointer (some ⟨w.heap.size + 1 + 1 + 1, 0, none⟩)], .int .i64 xx.1.1, .agg #[.int .i64 ((xx.1.1 : Int) % KW - KW / 2), .int .i64 ((xx.1.1 : Int) / KW - KH / 2)], undef, undef, undef, undef, undef, undef, undef, undef, undef, undef, undef, undef, undef, undef, undef], defers := [] })
    (fun xx a1 _ X Y row hs hg hr => by obtain ⟨Bx, h1, h2, h3⟩ := hs; exact ⟨Bx, h1.own hg (fun r e => (hr r e).2), h2, h3⟩)
    ?assign ?body ?done ?stop
  case assign =>
    rintro l pre xx W1 K ⟨kz, ⟨b0, b1, b3⟩, hb⟩ hK
    simp only [ofEnc]
    gi_wp2
    exact hK _ _ ((KeepsOthers.alloc _ _).from _) (fun hG => ⟨cell_alloc hG.1, cell_alloc hG.2⟩) ⟨kz.alloc, ⟨b0.alloc, b1.alloc, b3.alloc⟩, hb.alloc hb.size _⟩ ⟨W1.heap.size, Blk.new rfl, by have := b3.lt; omega, rfl⟩
  case body =>
    clear k0 k1 k2 k3
    rintro l pre xx a1 W1 hl _ ⟨k1, ⟨k0, k6, k7⟩, hB⟩ ⟨Bx, k2, hx, rfl⟩ hlt
    obtain ⟨⟨k, z0⟩, hk, ht⟩ := xx
    have hF := addC_snoc T pre ⟨(k, z0), hk, ht⟩
    have hbd := addC_bd HTB.out pre
    obtain ⟨s, hs⟩ : ∃ s, addC T pre = s := ⟨_, rfl⟩
    rw [hs] at k1 hF hbd
    clear hs
    dsimp only at hk k2 hF ⊢
    obtain ⟨U, V, f, b, hU, hV, ⟨u0, u1⟩, ⟨u2, u3⟩, hf, hft, hfa, hbv, hcall⟩ := HS.out k hk
    rw [hU, hV] at k2 ⊢
    have htb := fb_bd hfa hbv
    obtain ⟨t, ht2⟩ : ∃ t, T k = t := ⟨_, rfl⟩
    rw [ht2] at hft hF
    rw [hft] at htb
    have hplen : (pre.length : Int) ≤ 25 := by omega
    have s0 : -3518437208883200 ≤ s := by omega
    have s1 : s ≤ 3518437208883200 := by omega
    obtain ⟨t0, t1⟩ := htb
    have wft : IntKind.i64.wrap (f * b) = t := by rw [hft]; exact IntWalk.i64_in _ (by omega)
    have wst : IntKind.i64.wrap (s + t) = s + t := IntWalk.i64_in _ (by omega)
    have HMN := Lib.hid (minus_any x y U V (by omega) (by omega) (by omega) (by omega))
    have HVC := Lib.hid hcall
    obtain ⟨g, off, z, rfl, -, hz, hc⟩ := HT.out.int hk
    rw [hf] at hz
    obtain rfl := Option.some.inj hz
    have HC0 := Lib.hid hc
    have HF := Lib.hid hF
    have k3 := Blk.later hB kk; have k4 := Blk.later hB kf; have k5 := Blk.later hB km
    have hk0 : (0 : Int) ≤ (k : Int) := by omega
    have hk1 : (k : Int) < (m : Int) := by omega
    have hsz1 := k1.lt
    clear hz hc hF hf hft hfa hbv hcall ht2 hU hV hbd hplen kk kf km as1 bs1
    gi_wp2
    refine wp_region_inv_in (ConvI F k Bx m c' n c g off Bk Bf Bm a W H KW KH x y U V s t b f w W0 W1 ?i16 ?i17 ?i18 ?i19 ?i20 ?i21 ?i22 ?i23 ?i24 ?i25 ?i26 ?i27 ?i28 ?i29) (by kernel_rfl) (by kernel_rfl) (by kernel_rfl) (by rintro ⟨_, _, h⟩; exact h) ?hsz ?hst ?hstep ?hfin
    case hst =>
      unfold ConvI
      refine ⟨false, false, false, false, false, false, false, false, false, false, false, false, false, false, false, rfl, ?_, ?_, ?_, ?_, ?_, ?_, ?_, ?_, ?_, ?_, ?_, ?_, ?_⟩
      · first | (simp only [Act.put, List.setIfInBounds_toArray, List.set_cons_zero, List.set_cons_succ, cond_false]; done) | (simp only [Act.put, List.setIfInBounds_toArray, List.set_cons_zero, List.set_cons_succ, cond_false]; rfl)
      all_goals (first | (exact (KeepsOthers.drew _).from _; done) | (intro h; cases h; done) | ((repeat' (first | (with_reducible assumption) | ((with_reducible refine Blk.new ?_); first | rfl | (simp; done)) | (with_reducible refine Blk.later (by assumption) ?_) | (with_reducible refine Blk.alloc ?_) | (with_reducible refine Blk.drewN ?_) | (with_reducible refine Blk.drew ?_) | (with_reducible refine Blk.other ?_ (by first | omega | (simp; done) | (simp; omega))))); done) | ((repeat' (first | (with_reducible exact Below.refl _ _) | (with_reducible assumption) | (with_reducible refine belowThru ?_ (by assumption)) | (with_reducible refine belowAlloc ?_) | (with_reducible refine Below.setCell ?_ (by first | omega | (simp; done) | (simp; omega)) _) | (with_reducible refine Below.drew ?_) | (with_reducible refine below_drewN ?_ _))); done) | (simp only [cond_false]; (repeat' (first | (with_reducible assumption) | ((with_reducible refine Blk.new ?_); first | rfl | (simp; done)) | (with_reducible refine Blk.later (by assumption) ?_) | (with_reducible refine Blk.alloc ?_) | (with_reducible refine Blk.drewN ?_) | (with_reducible refine Blk.drew ?_) | (with_reducible refine Blk.other ?_ (by first | omega | (simp; done) | (simp; omega))))); done) | (simp only [World.size_drew]; omega) | (simp only [World.size_drew] at *; omega) | (simp; done) | (simp; omega))
    case hsz =>
      intro L a w9 h
      obtain ⟨gg0, gg1, gg2, gg3, gg4, gg5, gg6, gg7, gg8, gg9, gg10, gg11, gg12, gg13, gg14, rfl, -⟩ := h; rfl
    case hstep =>
      intro L a w9 hI i hi
      obtain ⟨gg0, gg1, gg2, gg3, gg4, gg5, gg6, gg7, gg8, gg9, gg10, gg11, gg12, gg13, gg14, rfl, rfl, fb0, fb1, fb2, fb3, fb4, fb5, fb6, fb7, fB, fL, exE, h0_14⟩ := hI
      obtain ⟨hi1, hi2, o, ho, hall⟩ := inv_mem hi
      clear hi
      rcases i with _ | _ | _ | _ | _ | _ | _ | _ | _ | _ | _ | _ | _ | _ | _ | i
      · have ge0 : gg0 = false := hi2
        clear hall hi1 hi2
        subst ge0
        have ho2 := ho
        simp only [List.getElem?_toArray, List.getElem?_cons_zero, List.getElem?_cons_succ] at ho2
        have ho3 := Option.some.inj ho2; clear ho2; subst ho3
        obtain ⟨ba0, bb0⟩ := fb0.read; have bl0 := fb0.lt
        obtain ⟨ba2, bb2⟩ := fb2.read; have bl2 := fb2.lt
        obtain ⟨ba3, bb3⟩ := fb3.read; have bl3 := fb3.lt
        obtain ⟨ba4, bb4⟩ := fb4.read; have bl4 := fb4.lt
        obtain ⟨ba5, bb5⟩ := fb5.read; have bl5 := fb5.lt
        obtain ⟨ba6, bb6⟩ := fb6.read; have bl6 := fb6.lt
        obtain ⟨ba7, bb7⟩ := fb7.read; have bl7 := fb7.lt
        obtain rfl : gg14 = false := by cases gg14; rfl; exact Bool.noConfusion (h0_14 rfl)
        simp only [cond_true, cond_false] at fb1
        obtain ⟨ba9, bb9⟩ := fb1.read
        simp only [Act.put, List.setIfInBounds_toArray, List.set_cons_zero, List.set_cons_succ]
        simp only [cond_true, cond_false]
        refine inv_op ho (by kernel_rfl) (fun K hK => ?_)
        clear ho
        go_simp
        refine hK.out _ _ ?_
        unfold ConvI
        refine ⟨true, gg1, gg2, gg3, gg4, gg5, gg6, gg7, gg8, gg9, gg10, gg11, gg12, gg13, false, rfl, by simp only [Act.put, List.setIfInBounds_toArray, List.set_cons_zero, List.set_cons_succ, cond_true, cond_false, Bool.cond_self], ?_, ?_, ?_, ?_, ?_, ?_, ?_, ?_, ?_, ?_, ?_, ?_⟩
        · exact fb0
        · exact fb1
        · exact fb2
        · exact fb3
        · exact fb4
        · exact fb5
        · exact fb6
        · exact fb7
        · exact fB
        · exact fL
        · exact exE
        · intro _; rfl
      · have ge1 : gg1 = false := hi2
        clear hall hi1 hi2
        subst ge1
        have ho2 := ho
        simp only [List.getElem?_toArray, List.getElem?_cons_zero, List.getElem?_cons_succ] at ho2
        have ho3 := Option.some.inj ho2; clear ho2; subst ho3
        obtain ⟨ba0, bb0⟩ := fb0.read; have bl0 := fb0.lt
        obtain ⟨ba2, bb2⟩ := fb2.read; have bl2 := fb2.lt
        obtain ⟨ba3, bb3⟩ := fb3.read; have bl3 := fb3.lt
        obtain ⟨ba4, bb4⟩ := fb4.read; have bl4 := fb4.lt
        obtain ⟨ba5, bb5⟩ := fb5.read; have bl5 := fb5.lt
        obtain ⟨ba6, bb6⟩ := fb6.read; have bl6 := fb6.lt
        obtain ⟨ba7, bb7⟩ := fb7.read; have bl7 := fb7.lt
        simp only [Act.put, List.setIfInBounds_toArray, List.set_cons_zero, List.set_cons_succ]
        simp only [cond_true, cond_false]
        refine inv_op ho (by kernel_rfl) (fun K hK => ?_)
        clear ho
        go_simp
        refine hK.out _ _ ?_
        unfold ConvI
        refine ⟨gg0, true, gg2, gg3, gg4, gg5, gg6, gg7, gg8, gg9, gg10, gg11, gg12, gg13, gg14, rfl, by simp only [Act.put, List.setIfInBounds_toArray, List.set_cons_zero, List.set_cons_succ, cond_true, cond_false, Bool.cond_self], ?_, ?_, ?_, ?_, ?_, ?_, ?_, ?_, ?_, ?_, ?_, ?_⟩
        · exact fb0
        · exact fb1
        · exact fb2
        · exact fb3
        · exact fb4
        · exact fb5
        · exact fb6
        · exact fb7
        · exact fB
        · exact fL
        · exact exE
        · exact h0_14
      · have ge2 : gg2 = false := hi2
        have ge1 : gg1 = true := inv_dep ho hall 1 (by kernel_rfl)
        clear hall hi1 hi2
        subst ge2 ge1
        have ho2 := ho
        simp only [List.getElem?_toArray, List.getElem?_cons_zero, List.getElem?_cons_succ] at ho2
        have ho3 := Option.some.inj ho2; clear ho2; subst ho3
        obtain ⟨ba0, bb0⟩ := fb0.read; have bl0 := fb0.lt
        obtain ⟨ba2, bb2⟩ := fb2.read; have bl2 := fb2.lt
        obtain ⟨ba3, bb3⟩ := fb3.read; have bl3 := fb3.lt
        obtain ⟨ba4, bb4⟩ := fb4.read; have bl4 := fb4.lt
        obtain ⟨ba5, bb5⟩ := fb5.read; have bl5 := fb5.lt
        obtain ⟨ba6, bb6⟩ := fb6.read; have bl6 := fb6.lt
        obtain ⟨ba7, bb7⟩ := fb7.read; have bl7 := fb7.lt
        simp only [Act.put, List.setIfInBounds_toArray, List.set_cons_zero, List.set_cons_succ]
        simp only [cond_true, cond_false]
        refine inv_op ho (by kernel_rfl) (fun K hK => ?_)
        clear ho
        go_simp
        refine hK.out _ _ ?_
        unfold ConvI
        refine ⟨gg0, true, true, gg3, gg4, gg5, gg6, gg7, gg8, gg9, gg10, gg11, gg12, gg13, gg14, rfl, by simp only [Act.put, List.setIfInBounds_toArray, List.set_cons_zero, List.set_cons_succ, cond_true, cond_false, Bool.cond_self], ?_, ?_, ?_, ?_, ?_, ?_, ?_, ?_, ?_, ?_, ?_, ?_⟩
        · exact fb0
        · exact fb1
        · exact fb2
        · exact fb3
        · exact fb4
        · exact fb5
        · exact fb6
        · exact fb7
        · exact fB
        · exact fL
        · exact exE
        · exact h0_14
      · have ge3 : gg3 = false := hi2
        clear hall hi1 hi2
        subst ge3
        have ho2 := ho
        simp only [List.getElem?_toArray, List.getElem?_cons_zero, List.getElem?_cons_succ] at ho2
        have ho3 := Option.some.inj ho2; clear ho2; subst ho3
        obtain ⟨ba0, bb0⟩ := fb0.read; have bl0 := fb0.lt
        obtain ⟨ba2, bb2⟩ := fb2.read; have bl2 := fb2.lt
        obtain ⟨ba3, bb3⟩ := fb3.read; have bl3 := fb3.lt
        obtain ⟨ba4, bb4⟩ := fb4.read; have bl4 := fb4.lt
        obtain ⟨ba5, bb5⟩ := fb5.read; have bl5 := fb5.lt
        obtain ⟨ba6, bb6⟩ := fb6.read; have bl6 := fb6.lt
        obtain ⟨ba7, bb7⟩ := fb7.read; have bl7 := fb7.lt
        simp only [Act.put, List.setIfInBounds_toArray, List.set_cons_zero, List.set_cons_succ]
        simp only [cond_true, cond_false]
        refine inv_op ho (by kernel_rfl) (fun K hK => ?_)
        clear ho
        go_simp
        refine hK.out _ _ ?_
        unfold ConvI
        refine ⟨gg0, gg1, gg2, true, gg4, gg5, gg6, gg7, gg8, gg9, gg10, gg11, gg12, gg13, gg14, rfl, by simp only [Act.put, List.setIfInBounds_toArray, List.set_cons_zero, List.set_cons_succ, cond_true, cond_false, Bool.cond_self], ?_, ?_, ?_, ?_, ?_, ?_, ?_, ?_, ?_, ?_, ?_, ?_⟩
        · exact fb0
        · exact fb1
        · exact fb2
        · exact fb3
        · exact fb4
        · exact fb5
        · exact fb6
        · exact fb7
        · exact fB
        · exact fL
        · exact exE
        · exact h0_14
      · have ge4 : gg4 = false := hi2
        have ge2 : gg2 = true := inv_dep ho hall 2 (by kernel_rfl)
        have ge3 : gg3 = true := inv_dep ho hall 3 (by kernel_rfl)
        clear hall hi1 hi2
        subst ge4 ge2 ge3
        have ho2 := ho
        simp only [List.getElem?_toArray, List.getElem?_cons_zero, List.getElem?_cons_succ] at ho2
        have ho3 := Option.some.inj ho2; clear ho2; subst ho3
        obtain ⟨ba0, bb0⟩ := fb0.read; have bl0 := fb0.lt
        obtain ⟨ba2, bb2⟩ := fb2.read; have bl2 := fb2.lt
        obtain ⟨ba3, bb3⟩ := fb3.read; have bl3 := fb3.lt
        obtain ⟨ba4, bb4⟩ := fb4.read; have bl4 := fb4.lt
        obtain ⟨ba5, bb5⟩ := fb5.read; have bl5 := fb5.lt
        obtain ⟨ba6, bb6⟩ := fb6.read; have bl6 := fb6.lt
        obtain ⟨ba7, bb7⟩ := fb7.read; have bl7 := fb7.lt
        simp only [Act.put, List.setIfInBounds_toArray, List.set_cons_zero, List.set_cons_succ]
        simp only [cond_true, cond_false]
        refine inv_op ho (by kernel_rfl) (fun K hK => ?_)
        clear ho
        go_simp
        refine hK.out _ _ ?_
        unfold ConvI
        refine ⟨gg0, gg1, true, true, true, gg5, gg6, gg7, gg8, gg9, gg10, gg11, gg12, gg13, gg14, rfl, by simp only [Act.put, List.setIfInBounds_toArray, List.set_cons_zero, List.set_cons_succ, cond_true, cond_false, Bool.cond_self], ?_, ?_, ?_, ?_, ?_, ?_, ?_, ?_, ?_, ?_, ?_, ?_⟩
        · exact fb0
        · exact fb1
        · exact fb2
        · exact fb3
        · exact fb4
        · exact fb5
        · exact fb6
        · exact fb7
        · exact fB
        · exact fL
        · exact exE
        · exact h0_14
      · have ge5 : gg5 = false := hi2
        have ge4 : gg4 = true := inv_dep ho hall 4 (by kernel_rfl)
        clear hall hi1 hi2
        subst ge5 ge4
        have ho2 := ho
        simp only [List.getElem?_toArray, List.getElem?_cons_zero, List.getElem?_cons_succ] at ho2
        have ho3 := Option.some.inj ho2; clear ho2; subst ho3
        obtain ⟨ba0, bb0⟩ := fb0.read; have bl0 := fb0.lt
        obtain ⟨ba2, bb2⟩ := fb2.read; have bl2 := fb2.lt
        obtain ⟨ba3, bb3⟩ := fb3.read; have bl3 := fb3.lt
        obtain ⟨ba4, bb4⟩ := fb4.read; have bl4 := fb4.lt
        obtain ⟨ba5, bb5⟩ := fb5.read; have bl5 := fb5.lt
        obtain ⟨ba6, bb6⟩ := fb6.read; have bl6 := fb6.lt
        obtain ⟨ba7, bb7⟩ := fb7.read; have bl7 := fb7.lt
        have ce := cell_later fB HC0.out
        simp only [Act.put, List.setIfInBounds_toArray, List.set_cons_zero, List.set_cons_succ]
        simp only [cond_true, cond_false]
        refine inv_op ho (by kernel_rfl) (fun K hK => ?_)
        clear ho
        go_simp
        refine hK.out _ _ ?_
        unfold ConvI
        refine ⟨gg0, gg1, gg2, gg3, true, true, gg6, gg7, gg8, gg9, gg10, gg11, gg12, gg13, gg14, rfl, by simp only [Act.put, List.setIfInBounds_toArray, List.set_cons_zero, List.set_cons_succ, cond_true, cond_false, Bool.cond_self], ?_, ?_, ?_, ?_, ?_, ?_, ?_, ?_, ?_, ?_, ?_, ?_⟩
        · exact fb0
        · exact fb1
        · exact fb2
        · exact fb3
        · exact fb4
        · exact fb5
        · exact fb6
        · exact fb7
        · exact fB
        · exact fL
        · exact exE
        · exact h0_14
      · have ge6 : gg6 = false := hi2
        clear hall hi1 hi2
        subst ge6
        have ho2 := ho
        simp only [List.getElem?_toArray, List.getElem?_cons_zero, List.getElem?_cons_succ] at ho2
        have ho3 := Option.some.inj ho2; clear ho2; subst ho3
        obtain ⟨ba0, bb0⟩ := fb0.read; have bl0 := fb0.lt
        obtain ⟨ba2, bb2⟩ := fb2.read; have bl2 := fb2.lt
        obtain ⟨ba3, bb3⟩ := fb3.read; have bl3 := fb3.lt
        obtain ⟨ba4, bb4⟩ := fb4.read; have bl4 := fb4.lt
        obtain ⟨ba5, bb5⟩ := fb5.read; have bl5 := fb5.lt
        obtain ⟨ba6, bb6⟩ := fb6.read; have bl6 := fb6.lt
        obtain ⟨ba7, bb7⟩ := fb7.read; have bl7 := fb7.lt
        simp only [Act.put, List.setIfInBounds_toArray, List.set_cons_zero, List.set_cons_succ]
        simp only [cond_true, cond_false]
        refine inv_op ho (by kernel_rfl) (fun K hK => ?_)
        clear ho
        go_simp
        refine hK.out _ _ ?_
        unfold ConvI
        refine ⟨gg0, gg1, gg2, gg3, gg4, gg5, true, gg7, gg8, gg9, gg10, gg11, gg12, gg13, gg14, rfl, by simp only [Act.put, List.setIfInBounds_toArray, List.set_cons_zero, List.set_cons_succ, cond_true, cond_false, Bool.cond_self], ?_, ?_, ?_, ?_, ?_, ?_, ?_, ?_, ?_, ?_, ?_, ?_⟩
        · exact fb0
        · exact fb1
        · exact fb2
        · exact fb3
        · exact fb4
        · exact fb5
        · exact fb6
        · exact fb7
        · exact fB
        · exact fL
        · exact exE
        · exact h0_14
      · have ge7 : gg7 = false := hi2
        clear hall hi1 hi2
        subst ge7
        have ho2 := ho
        simp only [List.getElem?_toArray, List.getElem?_cons_zero, List.getElem?_cons_succ] at ho2
        have ho3 := Option.some.inj ho2; clear ho2; subst ho3
        obtain ⟨ba0, bb0⟩ := fb0.read; have bl0 := fb0.lt
        obtain ⟨ba2, bb2⟩ := fb2.read; have bl2 := fb2.lt
        obtain ⟨ba3, bb3⟩ := fb3.read; have bl3 := fb3.lt
        obtain ⟨ba4, bb4⟩ := fb4.read; have bl4 := fb4.lt
        obtain ⟨ba5, bb5⟩ := fb5.read; have bl5 := fb5.lt
        obtain ⟨ba6, bb6⟩ := fb6.read; have bl6 := fb6.lt
        obtain ⟨ba7, bb7⟩ := fb7.read; have bl7 := fb7.lt
        simp only [Act.put, List.setIfInBounds_toArray, List.set_cons_zero, List.set_cons_succ]
        simp only [cond_true, cond_false]
        refine inv_op ho (by kernel_rfl) (fun K hK => ?_)
        clear ho
        go_simp
        refine hK.out _ _ ?_
        unfold ConvI
        refine ⟨gg0, gg1, gg2, gg3, gg4, gg5, gg6, true, gg8, gg9, gg10, gg11, gg12, gg13, gg14, rfl, by simp only [Act.put, List.setIfInBounds_toArray, List.set_cons_zero, List.set_cons_succ, cond_true, cond_false, Bool.cond_self], ?_, ?_, ?_, ?_, ?_, ?_, ?_, ?_, ?_, ?_, ?_, ?_⟩
        · exact fb0
        · exact fb1
        · exact fb2
        · exact fb3
        · exact fb4
        · exact fb5
        · exact fb6
        · exact fb7
        · exact fB
        · exact fL
        · exact exE
        · exact h0_14
      · have ge8 : gg8 = false := hi2
        clear hall hi1 hi2
        subst ge8
        have ho2 := ho
        simp only [List.getElem?_toArray, List.getElem?_cons_zero, List.getElem?_cons_succ] at ho2
        have ho3 := Option.some.inj ho2; clear ho2; subst ho3
        obtain ⟨ba0, bb0⟩ := fb0.read; have bl0 := fb0.lt
        obtain ⟨ba2, bb2⟩ := fb2.read; have bl2 := fb2.lt
        obtain ⟨ba3, bb3⟩ := fb3.read; have bl3 := fb3.lt
        obtain ⟨ba4, bb4⟩ := fb4.read; have bl4 := fb4.lt
        obtain ⟨ba5, bb5⟩ := fb5.read; have bl5 := fb5.lt
        obtain ⟨ba6, bb6⟩ := fb6.read; have bl6 := fb6.lt
        obtain ⟨ba7, bb7⟩ := fb7.read; have bl7 := fb7.lt
        simp only [Act.put, List.setIfInBounds_toArray, List.set_cons_zero, List.set_cons_succ]
        simp only [cond_true, cond_false]
        refine inv_op ho (by kernel_rfl) (fun K hK => ?_)
        clear ho
        go_simp
        refine hK.out _ _ ?_
        unfold ConvI
        refine ⟨gg0, gg1, gg2, gg3, gg4, gg5, gg6, gg7, true, gg9, gg10, gg11, gg12, gg13, gg14, rfl, by simp only [Act.put, List.setIfInBounds_toArray, List.set_cons_zero, List.set_cons_succ, cond_true, cond_false, Bool.cond_self], ?_, ?_, ?_, ?_, ?_, ?_, ?_, ?_, ?_, ?_, ?_, ?_⟩
        · exact fb0
        · exact fb1
        · exact fb2
        · exact fb3
        · exact fb4
        · exact fb5
        · exact fb6
        · exact fb7
        · exact fB
        · exact fL
        · exact exE
        · exact h0_14
      · have ge9 : gg9 = false := hi2
        clear hall hi1 hi2
        subst ge9
        have ho2 := ho
        simp only [List.getElem?_toArray, List.getElem?_cons_zero, List.getElem?_cons_succ] at ho2
        have ho3 := Option.some.inj ho2; clear ho2; subst ho3
        obtain ⟨ba0, bb0⟩ := fb0.read; have bl0 := fb0.lt
        obtain ⟨ba2, bb2⟩ := fb2.read; have bl2 := fb2.lt
        obtain ⟨ba3, bb3⟩ := fb3.read; have bl3 := fb3.lt
        obtain ⟨ba4, bb4⟩ := fb4.read; have bl4 := fb4.lt
        obtain ⟨ba5, bb5⟩ := fb5.read; have bl5 := fb5.lt
        obtain ⟨ba6, bb6⟩ := fb6.read; have bl6 := fb6.lt
        obtain ⟨ba7, bb7⟩ := fb7.read; have bl7 := fb7.lt
        simp only [Act.put, List.setIfInBounds_toArray, List.set_cons_zero, List.set_cons_succ]
        simp only [cond_true, cond_false]
        refine inv_op ho (by kernel_rfl) (fun K hK => ?_)
        clear ho
        go_simp
        refine hK.out _ _ ?_
        unfold ConvI
        refine ⟨gg0, gg1, gg2, gg3, gg4, gg5, gg6, gg7, gg8, true, gg10, gg11, gg12, gg13, gg14, rfl, by simp only [Act.put, List.setIfInBounds_toArray, List.set_cons_zero, List.set_cons_succ, cond_true, cond_false, Bool.cond_self], ?_, ?_, ?_, ?_, ?_, ?_, ?_, ?_, ?_, ?_, ?_, ?_⟩
        · exact fb0
        · exact fb1
        · exact fb2
        · exact fb3
        · exact fb4
        · exact fb5
        · exact fb6
        · exact fb7
        · exact fB
        · exact fL
        · exact exE
        · exact h0_14
      · have ge10 : gg10 = false := hi2
        have ge8 : gg8 = true := inv_dep ho hall 8 (by kernel_rfl)
        have ge9 : gg9 = true := inv_dep ho hall 9 (by kernel_rfl)
        clear hall hi1 hi2
        subst ge10 ge8 ge9
        have ho2 := ho
        simp only [List.getElem?_toArray, List.getElem?_cons_zero, List.getElem?_cons_succ] at ho2
        have ho3 := Option.some.inj ho2; clear ho2; subst ho3
        obtain ⟨ba0, bb0⟩ := fb0.read; have bl0 := fb0.lt
        obtain ⟨ba2, bb2⟩ := fb2.read; have bl2 := fb2.lt
        obtain ⟨ba3, bb3⟩ := fb3.read; have bl3 := fb3.lt
        obtain ⟨ba4, bb4⟩ := fb4.read; have bl4 := fb4.lt
        obtain ⟨ba5, bb5⟩ := fb5.read; have bl5 := fb5.lt
        obtain ⟨ba6, bb6⟩ := fb6.read; have bl6 := fb6.lt
        obtain ⟨ba7, bb7⟩ := fb7.read; have bl7 := fb7.lt
        simp only [Act.put, List.setIfInBounds_toArray, List.set_cons_zero, List.set_cons_succ]
        simp only [cond_true, cond_false]
        refine inv_op ho (by kernel_rfl) (fun K hK => ?_)
        clear ho
        go_simp
        go_at_call 64; (with_reducible refine (HMN.out _).mono ?_); rintro e w8 ⟨rfl, hb⟩
        refine hK.out _ _ ?_
        unfold ConvI
        refine ⟨gg0, gg1, gg2, gg3, gg4, gg5, gg6, gg7, true, true, true, gg11, gg12, gg13, gg14, rfl, by simp only [Act.put, List.setIfInBounds_toArray, List.set_cons_zero, List.set_cons_succ, cond_true, cond_false, Bool.cond_self], ?_, ?_, ?_, ?_, ?_, ?_, ?_, ?_, ?_, ?_, ?_, ?_⟩
        · exact Blk.later hb fb0
        · exact Blk.later hb fb1
        · exact Blk.later hb fb2
        · exact Blk.later hb fb3
        · exact Blk.later hb fb4
        · exact Blk.later hb fb5
        · exact Blk.later hb fb6
        · exact Blk.later hb fb7
        · exact belowThru fB hb
        · have := hb.size; omega
        · exact KeepsFrom.call exE hb
        · exact h0_14
      · have ge11 : gg11 = false := hi2
        have ge6 : gg6 = true := inv_dep ho hall 6 (by kernel_rfl)
        have ge7 : gg7 = true := inv_dep ho hall 7 (by kernel_rfl)
        have ge10 : gg10 = true := inv_dep ho hall 10 (by kernel_rfl)
        clear hall hi1 hi2
        subst ge11 ge6 ge7 ge10
        have ho2 := ho
        simp only [List.getElem?_toArray, List.getElem?_cons_zero, List.getElem?_cons_succ] at ho2
        have ho3 := Option.some.inj ho2; clear ho2; subst ho3
        obtain ⟨ba0, bb0⟩ := fb0.read; have bl0 := fb0.lt
        obtain ⟨ba2, bb2⟩ := fb2.read; have bl2 := fb2.lt
        obtain ⟨ba3, bb3⟩ := fb3.read; have bl3 := fb3.lt
        obtain ⟨ba4, bb4⟩ := fb4.read; have bl4 := fb4.lt
        obtain ⟨ba5, bb5⟩ := fb5.read; have bl5 := fb5.lt
        obtain ⟨ba6, bb6⟩ := fb6.read; have bl6 := fb6.lt
        obtain ⟨ba7, bb7⟩ := fb7.read; have bl7 := fb7.lt
        simp only [Act.put, List.setIfInBounds_toArray, List.set_cons_zero, List.set_cons_succ]
        simp only [cond_true, cond_false]
        refine inv_op ho (by kernel_rfl) (fun K hK => ?_)
        clear ho
        go_simp
        go_at_fn F; (with_reducible refine (HVC.out _ (HR.out.later fB)).mono ?_); rintro e w8 ⟨rfl, hb⟩
        refine hK.out _ _ ?_
        unfold ConvI
        refine ⟨gg0, gg1, gg2, gg3, gg4, gg5, true, true, gg8, gg9, true, true, gg12, gg13, gg14, rfl, by simp only [Act.put, List.setIfInBounds_toArray, List.set_cons_zero, List.set_cons_succ, cond_true, cond_false, Bool.cond_self], ?_, ?_, ?_, ?_, ?_, ?_, ?_, ?_, ?_, ?_, ?_, ?_⟩
        · exact Blk.later hb fb0
        · exact Blk.later hb fb1
        · exact Blk.later hb fb2
        · exact Blk.later hb fb3
        · exact Blk.later hb fb4
        · exact Blk.later hb fb5
        · exact Blk.later hb fb6
        · exact Blk.later hb fb7
        · exact belowThru fB hb
        · have := hb.size; omega
        · exact KeepsFrom.call exE hb
        · exact h0_14
      · have ge12 : gg12 = false := hi2
        have ge5 : gg5 = true := inv_dep ho hall 5 (by kernel_rfl)
        have ge11 : gg11 = true := inv_dep ho hall 11 (by kernel_rfl)
        clear hall hi1 hi2
        subst ge12 ge5 ge11
        have ho2 := ho
        simp only [List.getElem?_toArray, List.getElem?_cons_zero, List.getElem?_cons_succ] at ho2
        have ho3 := Option.some.inj ho2; clear ho2; subst ho3
        obtain ⟨ba0, bb0⟩ := fb0.read; have bl0 := fb0.lt
        obtain ⟨ba2, bb2⟩ := fb2.read; have bl2 := fb2.lt
        obtain ⟨ba3, bb3⟩ := fb3.read; have bl3 := fb3.lt
        obtain ⟨ba4, bb4⟩ := fb4.read; have bl4 := fb4.lt
        obtain ⟨ba5, bb5⟩ := fb5.read; have bl5 := fb5.lt
        obtain ⟨ba6, bb6⟩ := fb6.read; have bl6 := fb6.lt
        obtain ⟨ba7, bb7⟩ := fb7.read; have bl7 := fb7.lt
        simp only [Act.put, List.setIfInBounds_toArray, List.set_cons_zero, List.set_cons_succ]
        simp only [cond_true, cond_false]
        refine inv_op ho (by kernel_rfl) (fun K hK => ?_)
        clear ho
        go_simp
        refine hK.out _ _ ?_
        unfold ConvI
        refine ⟨gg0, gg1, gg2, gg3, gg4, true, gg6, gg7, gg8, gg9, gg10, true, true, gg13, gg14, rfl, by simp only [Act.put, List.setIfInBounds_toArray, List.set_cons_zero, List.set_cons_succ, cond_true, cond_false, Bool.cond_self], ?_, ?_, ?_, ?_, ?_, ?_, ?_, ?_, ?_, ?_, ?_, ?_⟩
        · exact fb0
        · exact fb1
        · exact fb2
        · exact fb3
        · exact fb4
        · exact fb5
        · exact fb6
        · exact fb7
        · exact fB
        · exact fL
        · exact exE
        · exact h0_14
      · have ge13 : gg13 = false := hi2
        have ge0 : gg0 = true := inv_dep ho hall 0 (by kernel_rfl)
        have ge12 : gg12 = true := inv_dep ho hall 12 (by kernel_rfl)
        clear hall hi1 hi2
        subst ge13 ge0 ge12
        have ho2 := ho
        simp only [List.getElem?_toArray, List.getElem?_cons_zero, List.getElem?_cons_succ] at ho2
        have ho3 := Option.some.inj ho2; clear ho2; subst ho3
        obtain ⟨ba0, bb0⟩ := fb0.read; have bl0 := fb0.lt
        obtain ⟨ba2, bb2⟩ := fb2.read; have bl2 := fb2.lt
        obtain ⟨ba3, bb3⟩ := fb3.read; have bl3 := fb3.lt
        obtain ⟨ba4, bb4⟩ := fb4.read; have bl4 := fb4.lt
        obtain ⟨ba5, bb5⟩ := fb5.read; have bl5 := fb5.lt
        obtain ⟨ba6, bb6⟩ := fb6.read; have bl6 := fb6.lt
        obtain ⟨ba7, bb7⟩ := fb7.read; have bl7 := fb7.lt
        simp only [Act.put, List.setIfInBounds_toArray, List.set_cons_zero, List.set_cons_succ]
        simp only [cond_true, cond_false]
        refine inv_op ho (by kernel_rfl) (fun K hK => ?_)
        clear ho
        go_simp
        refine hK.out _ _ ?_
        unfold ConvI
        refine ⟨true, gg1, gg2, gg3, gg4, gg5, gg6, gg7, gg8, gg9, gg10, gg11, true, true, gg14, rfl, by simp only [Act.put, List.setIfInBounds_toArray, List.set_cons_zero, List.set_cons_succ, cond_true, cond_false, Bool.cond_self], ?_, ?_, ?_, ?_, ?_, ?_, ?_, ?_, ?_, ?_, ?_, ?_⟩
        · exact fb0
        · exact fb1
        · exact fb2
        · exact fb3
        · exact fb4
        · exact fb5
        · exact fb6
        · exact fb7
        · exact fB
        · exact fL
        · exact exE
        · intro _; rfl
      · have ge14 : gg14 = false := hi2
        have ge13 : gg13 = true := inv_dep ho hall 13 (by kernel_rfl)
        have ge0 : gg0 = true := inv_dep ho hall 0 (by kernel_rfl)
        clear hall hi1 hi2
        subst ge14 ge13 ge0
        have ho2 := ho
        simp only [List.getElem?_toArray, List.getElem?_cons_zero, List.getElem?_cons_succ] at ho2
        have ho3 := Option.some.inj ho2; clear ho2; subst ho3
        simp only [cond_true, cond_false] at fb1
        obtain ⟨ba0, bb0⟩ := fb0.read; have bl0 := fb0.lt
        obtain ⟨ba1, bb1⟩ := fb1.read; have bl1 := fb1.lt
        obtain ⟨ba2, bb2⟩ := fb2.read; have bl2 := fb2.lt
        obtain ⟨ba3, bb3⟩ := fb3.read; have bl3 := fb3.lt
        obtain ⟨ba4, bb4⟩ := fb4.read; have bl4 := fb4.lt
        obtain ⟨ba5, bb5⟩ := fb5.read; have bl5 := fb5.lt
        obtain ⟨ba6, bb6⟩ := fb6.read; have bl6 := fb6.lt
        obtain ⟨ba7, bb7⟩ := fb7.read; have bl7 := fb7.lt
        simp only [Act.put, List.setIfInBounds_toArray, List.set_cons_zero, List.set_cons_succ]
        simp only [cond_true, cond_false]
        refine inv_op ho (by kernel_rfl) (fun K hK => ?_)
        clear ho
        go_simp
        refine hK.out _ _ ?_
        unfold ConvI
        refine ⟨true, gg1, gg2, gg3, gg4, gg5, gg6, gg7, gg8, gg9, gg10, gg11, gg12, true, true, rfl, by simp only [Act.put, List.setIfInBounds_toArray, List.set_cons_zero, List.set_cons_succ, cond_true, cond_false, Bool.cond_self], ?_, ?_, ?_, ?_, ?_, ?_, ?_, ?_, ?_, ?_, ?_, ?_⟩
        · (repeat' (first | (with_reducible assumption) | ((with_reducible refine Blk.new ?_); first | rfl | (simp; done)) | (with_reducible refine Blk.later (by assumption) ?_) | (with_reducible refine Blk.alloc ?_) | (with_reducible refine Blk.drewN ?_) | (with_reducible refine Blk.drew ?_) | (with_reducible refine Blk.other ?_ (by first | omega | (simp; done) | (simp; omega)))))
        · exact Blk.set (fb1)
        · (repeat' (first | (with_reducible assumption) | ((with_reducible refine Blk.new ?_); first | rfl | (simp; done)) | (with_reducible refine Blk.later (by assumption) ?_) | (with_reducible refine Blk.alloc ?_) | (with_reducible refine Blk.drewN ?_) | (with_reducible refine Blk.drew ?_) | (with_reducible refine Blk.other ?_ (by first | omega | (simp; done) | (simp; omega)))))
        · (repeat' (first | (with_reducible assumption) | ((with_reducible refine Blk.new ?_); first | rfl | (simp; done)) | (with_reducible refine Blk.later (by assumption) ?_) | (with_reducible refine Blk.alloc ?_) | (with_reducible refine Blk.drewN ?_) | (with_reducible refine Blk.drew ?_) | (with_reducible refine Blk.other ?_ (by first | omega | (simp; done) | (simp; omega)))))
        · (repeat' (first | (with_reducible assumption) | ((with_reducible refine Blk.new ?_); first | rfl | (simp; done)) | (with_reducible refine Blk.later (by assumption) ?_) | (with_reducible refine Blk.alloc ?_) | (with_reducible refine Blk.drewN ?_) | (with_reducible refine Blk.drew ?_) | (with_reducible refine Blk.other ?_ (by first | omega | (simp; done) | (simp; omega)))))
        · (repeat' (first | (with_reducible assumption) | ((with_reducible refine Blk.new ?_); first | rfl | (simp; done)) | (with_reducible refine Blk.later (by assumption) ?_) | (with_reducible refine Blk.alloc ?_) | (with_reducible refine Blk.drewN ?_) | (with_reducible refine Blk.drew ?_) | (with_reducible refine Blk.other ?_ (by first | omega | (simp; done) | (simp; omega)))))
        · (repeat' (first | (with_reducible assumption) | ((with_reducible refine Blk.new ?_); first | rfl | (simp; done)) | (with_reducible refine Blk.later (by assumption) ?_) | (with_reducible refine Blk.alloc ?_) | (with_reducible refine Blk.drewN ?_) | (with_reducible refine Blk.drew ?_) | (with_reducible refine Blk.other ?_ (by first | omega | (simp; done) | (simp; omega)))))
        · (repeat' (first | (with_reducible assumption) | ((with_reducible refine Blk.new ?_); first | rfl | (simp; done)) | (with_reducible refine Blk.later (by assumption) ?_) | (with_reducible refine Blk.alloc ?_) | (with_reducible refine Blk.drewN ?_) | (with_reducible refine Blk.drew ?_) | (with_reducible refine Blk.other ?_ (by first | omega | (simp; done) | (simp; omega)))))
        · (repeat' (first | (with_reducible exact Below.refl _ _) | (with_reducible assumption) | (with_reducible refine belowThru ?_ (by assumption)) | (with_reducible refine belowAlloc ?_) | (with_reducible refine Below.setCell ?_ (by first | omega | (simp; done) | (simp; omega)) _) | (with_reducible refine Below.drew ?_) | (with_reducible refine below_drewN ?_ _)))
        · first | exact fL | (simp; omega)
        · exact KeepsFrom.set exE _ _
        · intro _; rfl
      · exfalso; simp at hi1; omega
    case hfin =>
      intro a w9 hI
      obtain ⟨gg0, gg1, gg2, gg3, gg4, gg5, gg6, gg7, gg8, gg9, gg10, gg11, gg12, gg13, gg14, hL, rfl, fb0, fb1, fb2, fb3, fb4, fb5, fb6, fb7, fB, fL, exE, h0_14⟩ := hI
      have hL2 : #[true, true, true, true, true, true, true, true, true, true, true, true, true, true, true] = #[gg0, gg1, gg2, gg3, gg4, gg5, gg6, gg7, gg8, gg9, gg10, gg11, gg12, gg13, gg14] := hL
      cases hL2
      simp only [Act.put, List.setIfInBounds_toArray, List.set_cons_zero, List.set_cons_succ]
      simp only [cond_true]
      gi_wp2
      simp only [cond_true] at fb1
      exact ⟨exE, fun _ => ⟨fb6.cells 0, fb7.cells 0⟩, ⟨by rw [HF.out]; exact fb1, ⟨fb0, fb6, fb7⟩, fB⟩⟩
  case done =>
    rintro D xs W1 hD hall ⟨kz, ⟨b0, b1, b3⟩, hb⟩ hK
    rw [addC_all T hall, HTF.out] at kz
    obtain ⟨e1, f1⟩ := kz.read
    gi_wp2
    refine ⟨by simp, .inl ⟨_, _, rfl, run_takeDeferred hK, ?_⟩⟩
    refine ⟨.int .i64 (cvN j W H zs KW KH ks x y m), ?_, rfl, hb.trans (belowK_b (w := w) (Nat.le_refl _) W1 D _ _ (by omega) hK rfl rfl)⟩
    simp only [results, Try.results62]
    go_simp
  case stop =>
    rintro D c pre W1 _ _ h _
    exact h.elim
end Go.Proofs.Ytghmjdmiaajbnaa
