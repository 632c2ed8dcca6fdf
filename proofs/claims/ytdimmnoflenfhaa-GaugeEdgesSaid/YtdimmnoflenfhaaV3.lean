/-
  The texts that the laws of this seat share, merged: part 3.
-/
import Derived.BigQuiet
import Derived.Deep.CutBlock
import Derived.Deep.DeepCutAuto
import Derived.Deep.Draws
import Derived.Deep.LoopGhost
import Derived.Deep.OwnRows
import Derived.Deep.QuietTactic
import Derived.Deep.RegionHeld3
import Derived.IntWalk
import Derived.Laws.AppendOwn
import Derived.Laws.Bits64b
import Derived.Lib.Hide
import Derived.Lib.ItoaNum
import Derived.LoopIn
import Derived.LoopNIn
import Derived.LoopTactic
import Derived.OneCell
import Derived.Orders
import Derived.OwnWalkIn
import Derived.RangeFuncBound
import Derived.RangeFuncCalls
import Derived.RangeFuncLeaves
import Derived.RangeFuncNested
import Derived.Shelf.Abstract
import Derived.Shelf.AbstractIn
import Derived.Shelf.Bits.Mul64
import Derived.Shelf.RegionOpen
import Derived.Shelf.Small.Bits
import Derived.Shelf.Spec.BitsCarry
import Derived.Shelf.Strconv.Itoa0
import Derived.TacticsInMore
import Derived.Test.YtdimmnoflenfhaaProg
import Derived.WalkKit
import Derived.WalkLawsBesides
import Derived.WalkSmall
import Derived.WalkSpells
import Derived.Test.YtdimmnoflenfhaaV2
/-
  Layer 5: the bright place that is met first, by the code.
-/
namespace Go.Proofs.Ytdimmnoflenfhaa
open Go.RowKit Go.Shelf
set_option linter.unusedVariables false
set_option linter.unusedSimpArgs false

attribute [local go_sem] Oper.semAt_some

/-- What Make returns. -/
def mA (n d : Int) : Int := if d = 0 then 0 else rn (mkR n d)
def mB (n d : Int) : Int := if d = 0 then 0 else rd (mkR n d)
def mE (n d : Int) : Int := if d = 0 then 10 else re (mkR n d)
theorem make_any (n d : Int) (n1 : -9223372036854775808 ≤ n) (n2 : n ≤ 9223372036854775807) (d1 : -9223372036854775808 ≤ d) (d2 : d ≤ 9223372036854775807) (w : World) :
    Calls Try.prog 45 #[.int .i64 n, .int .i64 d] w fun e w' => e = .returned (.tuple #[.agg #[.int .i64 (mA n d), .int .i64 (mB n d)], .int .i64 (mE n d)]) ∧ Below w.heap.size w w' := by
  unfold mA mB mE
  by_cases h : d = 0
  · subst h
    rw [if_pos rfl, if_pos rfl, if_pos rfl]
    exact make_zero n w
  · rw [if_neg h, if_neg h, if_neg h]
    exact make_q n d w n1 n2 d1 d2 h

theorem alloc6 (w : World) (c0 : Array Value) (t0 : TypeId) (c1 : Array Value) (t1 : TypeId) (c2 : Array Value) (t2 : TypeId) (c3 : Array Value) (t3 : TypeId) (c4 : Array Value) (t4 : TypeId) (c5 : Array Value) (t5 : TypeId) :
    ∃ W0, (((((w.alloc (.cells c0 t0)).alloc (.cells c1 t1)).alloc (.cells c2 t2)).alloc (.cells c3 t3)).alloc (.cells c4 t4)).alloc (.cells c5 t5) = W0 ∧ Blk W0 w.heap.size c0 t0 ∧ Blk W0 (w.heap.size + 1) c1 t1 ∧ Blk W0 (w.heap.size + 1 + 1) c2 t2 ∧ Blk W0 (w.heap.size + 1 + 1 + 1) c3 t3 ∧ Blk W0 (w.heap.size + 1 + 1 + 1 + 1) c4 t4 ∧ Blk W0 (w.heap.size + 1 + 1 + 1 + 1 + 1) c5 t5 ∧ Below w.heap.size w W0 ∧ W0.heap.size = w.heap.size + 1 + 1 + 1 + 1 + 1 + 1 :=
  ⟨_, rfl, Blk.alloc (Blk.alloc (Blk.alloc (Blk.alloc (Blk.alloc (Blk.new rfl))))), Blk.alloc (Blk.alloc (Blk.alloc (Blk.alloc (Blk.new (by simp))))), Blk.alloc (Blk.alloc (Blk.alloc (Blk.new (by simp)))), Blk.alloc (Blk.alloc (Blk.new (by simp))), Blk.alloc (Blk.new (by simp)), Blk.new (by simp), by (repeat' (first | (with_reducible exact Below.refl _ _) | (with_reducible assumption) | (with_reducible refine belowThru ?_ (by assumption)) | (with_reducible refine belowAlloc ?_) | (with_reducible refine Below.setCell ?_ (by first | omega | (simp; done) | (simp; omega)) _) | (with_reducible refine Below.drew ?_) | (with_reducible refine below_drewN ?_ _))), by simp⟩
theorem alloc3 (w : World) (c0 : Array Value) (t0 : TypeId) (c1 : Array Value) (t1 : TypeId) (c2 : Array Value) (t2 : TypeId) :
    ∃ W0, ((w.alloc (.cells c0 t0)).alloc (.cells c1 t1)).alloc (.cells c2 t2) = W0 ∧ Blk W0 w.heap.size c0 t0 ∧ Blk W0 (w.heap.size + 1) c1 t1 ∧ Blk W0 (w.heap.size + 1 + 1) c2 t2 ∧ Below w.heap.size w W0 ∧ W0.heap.size = w.heap.size + 1 + 1 + 1 :=
  ⟨_, rfl, Blk.alloc (Blk.alloc (Blk.new rfl)), Blk.alloc (Blk.new (by simp)), Blk.new (by simp), by (repeat' (first | (with_reducible exact Below.refl _ _) | (with_reducible assumption) | (with_reducible refine belowThru ?_ (by assumption)) | (with_reducible refine belowAlloc ?_) | (with_reducible refine Below.setCell ?_ (by first | omega | (simp; done) | (simp; omega)) _) | (with_reducible refine Below.drew ?_) | (with_reducible refine below_drewN ?_ _))), by simp⟩

theorem Blk.own {X Y : World} {b : Nat} {c : Array Value} {t : TypeId} {row : Option Nat} (h : Blk X b c t) (hg : X.grownBy Y row) (hr : ∀ r, row = some r → ∃ o : Obj, X.heap[r]? = some o ∧ o.isCells = false) : Blk Y b c t :=
  (hg.block b h.lt (fun e => by
    obtain ⟨o, ho, hc⟩ := hr b e.symm
    have : X.heap[b]? = _ := h
    rw [this] at ho; cases ho; cases hc)).trans h
theorem KeepsFrom.of_below {B : Nat} {W W' : World} (h : Below W.heap.size W W') : KeepsFrom B W W' :=
  ⟨h.size, fun k o _ hk _ => (h.block k (Array.getElem?_eq_some_iff.1 hk).1).trans hk⟩
/-- What the code asks Make for at a place of a way. -/
def nArg (p s t : Int) (q : List Int) (k : Nat) : Int × Int :=
  if k = 0 then (p, 1) else ((p + s * (k : Int)) * (q[k]?.getD 0 - q[k - 1]?.getD 0) - s * (q[k]?.getD 0 - t), q[k]?.getD 0 - q[k - 1]?.getD 0)
def nA (p s t : Int) (q : List Int) : Option Nat → Int
  | none => 0
  | some k => mA (nArg p s t q k).1 (nArg p s t q k).2
def nB (p s t : Int) (q : List Int) : Option Nat → Int
  | none => 0
  | some k => mB (nArg p s t q k).1 (nArg p s t q k).2
def nE (p s t : Int) (q : List Int) : Option Nat → Int
  | none => 6
  | some k => mE (nArg p s t q k).1 (nArg p s t q k).2
theorem fb_none_of {t : Int} {q : List Int} {xs : List (Wel q)} (h : WAll q.length xs) (hd : ∀ y ∈ xs, y.1.2 < t) : fb t q = none := by
  rw [fb_none]
  intro u hu
  obtain ⟨k, hk⟩ := List.getElem?_of_mem hu
  have hl := (List.getElem?_eq_some_iff.1 hk).1
  have hm : k ∈ xs.map (fun x => x.1.1) := by rw [h]; exact List.mem_range.2 hl
  obtain ⟨x, hx, e⟩ := List.mem_map.1 hm
  have hx2 := x.2
  rw [e, hk] at hx2
  have := hd x hx
  rw [← Option.some.inj hx2] at this; exact this
theorem fb_some_of {t : Int} {q : List Int} {pre : List (Wel q)} {x : Wel q} {k : Nat} (h : WAll k (pre ++ [x])) (hd : ∀ y ∈ pre, y.1.2 < t) (hx : t ≤ x.1.2) : fb t q = some x.1.1 := by
  have hl := WAll.length h
  rw [List.length_append, List.length_singleton] at hl
  subst hl
  unfold WAll at h
  rw [List.map_append, List.range_succ] at h
  have h2 := List.append_inj' h rfl
  have e : x.1.1 = pre.length := by simpa using h2.2
  refine fb_some.2 ⟨x.1.2, x.2, hx, fun i hi u hu => ?_⟩
  rw [e] at hi
  have hm : i ∈ pre.map (fun x => x.1.1) := by rw [h2.1]; exact List.mem_range.2 hi
  obtain ⟨y, hy, ey⟩ := List.mem_map.1 hm
  have hy2 := y.2
  rw [ey, hu] at hy2
  have := hd y hy
  rw [← Option.some.inj hy2] at this; exact this

set_option maxRecDepth 100000 in
set_option maxHeartbeats 4000000 in
theorem near_in (m : Nat) (hm : 3 ≤ m) (t : Int) (p : Nat) (s : Int) (a : Option Addr) (n c : Nat) (zs q : List Int) (hz : okP zs) (hl : zs.length = n) (ht : okT t) (hs : s = 1 ∨ s = -1) (hp : p < n) (hw : IsWay zs n p s q) (w : World) (hR : Row w a n (iv zs)) :
    CallsIn Fence.wide m Try.prog 41 #[.slice a n c, .int .i64 t, .int .i64 p, .int .i64 s] w fun e w' => e = .returned (.tuple #[.agg #[.int .i64 (nA p s t q (fb t q)), .int .i64 (nB p s t q (fb t q))], .int .i64 (nE p s t q (fb t q))]) ∧ Below w.heap.size w w' := by
  have hn64 : n ≤ 64 := by rw [← hl]; exact hz.1.2
  have HC : Hid (∀ (a : Option Addr) (c : Nat) (w : World), Row w a n (iv zs) → Calls Try.prog 26 #[.slice a n c] w fun e w' => e = .returned (.int .i64 0) ∧ Below w.heap.size w w') := fun a c w hR => by
    have := ckP_any a n c zs (by unfold maxLen; omega) w hR
    rwa [ckP_ok hz] at this
  have HT : Hid (∀ w, Calls Try.prog 69 #[.int .i64 t] w fun e w' => e = .returned (.bool true) ∧ w = w') := fun w => by
    have := isThr_any t w
    rwa [decide_eq_true ht] at this
  have HI := Lib.hid (gwithin_yes (p : Int) 0 ((n : Int) - 1) (by omega) (by omega))
  have hw1 : IntKind.i64.wrap ((n : Int) - 1) = (n : Int) - 1 := IntWalk.i64_in _ (by omega)
  have HZ := Lib.hid hz; have HL := Lib.hid hl; have HW := Lib.hid hw; have HR := Lib.hid hR; have HTh := Lib.hid ht
  have pt0 := ht.1; have pt1 := ht.2
  refine callsIn_of_wp_marks Try.func41 rfl trivial ?_ rfl
  simp only [Try.ntmps41, List.size_toArray, List.length_cons, List.length_nil, Nat.reduceAdd, Nat.reduceSub, Array.replicate_succ, Array.replicate_zero, List.push_toArray, List.append_toArray, List.nil_append, List.cons_append]
  have n1 : 1 ≤ m := by omega
  have hmx : Try.prog.follows .mixedOrders = true := by kernel_rfl
  gi_wp2
  (try (refine ⟨trivial, ?_⟩))
  gi_at_call 26
  obtain ⟨W0, hW0, k0, k1, k2, k3, k4, k5, hB0, hsz⟩ := alloc6 w #[.slice a n c] 27 #[.int .i64 t] 3 #[.int .i64 p] 3 #[.int .i64 s] 3 #[.int .i64 0, .int .i64 0] 23 #[.int .i64 0] 24
  rw [hW0]
  clear hW0
  refine (callsIn_wide.2 (HC.out _ _ _ (hR.later hB0))).mono ?_
  rintro e wC ⟨rfl, hb⟩
  have hBC := belowThru hB0 hb
  replace k0 := Blk.later hb k0
  obtain ⟨a0, b0⟩ := k0.read
  replace k1 := Blk.later hb k1
  obtain ⟨a1, b1⟩ := k1.read
  replace k2 := Blk.later hb k2
  obtain ⟨a2, b2⟩ := k2.read
  replace k3 := Blk.later hb k3
  obtain ⟨a3, b3⟩ := k3.read
  replace k4 := Blk.later hb k4
  obtain ⟨a4, b4⟩ := k4.read
  replace k5 := Blk.later hb k5
  obtain ⟨a5, b5⟩ := k5.read
  replace hsz : w.heap.size + 1 + 1 + 1 + 1 + 1 + 1 ≤ wC.heap.size := by (have := hb.size; omega)
  clear hb hB0
  gi_wp2_with (first
    | ((try (refine ⟨trivial, ?_⟩)); gi_at_call 69; refine (callsIn_wide.2 (HT.out _)).mono ?_; rintro e w' ⟨rfl, rfl⟩)
    | ((try (refine ⟨trivial, ?_⟩)); gi_at_call 59; refine (callsIn_wide.2 (HI.out _)).mono ?_; rintro e w' ⟨rfl, rfl⟩)
    | ((try (refine ⟨trivial, ?_⟩)); gi_at_call 73; refine (callsIn_wide.2 (along_any _ _ _ _ _ _)).mono ?_; rintro e w' ⟨rfl, rfl⟩))
  obtain ⟨W0, hW0, q0, q1, q2, hB1, hsz1⟩ := alloc3 wC #[.slice a n c] 27 #[.int .i64 p] 3 #[.int .i64 s] 3
  rw [hW0]
  clear hW0
  replace k0 := Blk.later hB1 k0
  clear a0 b0
  replace k1 := Blk.later hB1 k1
  clear a1 b1
  replace k2 := Blk.later hB1 k2
  clear a2 b2
  replace k3 := Blk.later hB1 k3
  clear a3 b3
  replace k4 := Blk.later hB1 k4
  clear a4 b4
  replace k5 := Blk.later hB1 k5
  clear a5 b5
  have hBW : Below w.heap.size w W0 := belowThru hBC hB1
  have hzs : w.heap.size + 1 + 1 + 1 + 1 + 1 + 1 ≤ W0.heap.size := by omega
  refine wpIn_rangeFunc_ownG rfl n1 (gf := 101) (lb := #[.pointer (some ⟨wC.heap.size + 1, 0, none⟩), .pointer (some ⟨wC.heap.size, 0, none⟩), .pointer (some ⟨wC.heap.size + 1 + 1, 0, none⟩)]) rfl trivial (enters_of Try.func101 (by kernel_rfl) rfl)
    (along_stops (m - 1) (wC.heap.size + 1) wC.heap.size (wC.heap.size + 1 + 1) n c a p s zs q (by omega) hn64 hs (by omega) (by omega) hw W0 ⟨q1.cells 0, q0.cells 0, q2.cells 0⟩ (hR.later hBW))
    belowK_t (belowK_b (Nat.le_refl _)) (Below.refl _ _) (fun _ => rfl)
    (fun pre W => Hid (∀ y ∈ pre, y.1.2 < t) ∧ (Blk W (w.heap.size) #[.slice a n c] 27 ∧ Blk W (w.heap.size + 1) #[.int .i64 t] 3 ∧ Blk W (w.heap.size + 1 + 1) #[.int .i64 p] 3 ∧ Blk W (w.heap.size + 1 + 1 + 1) #[.int .i64 s] 3 ∧ Blk W (w.heap.size + 1 + 1 + 1 + 1) #[.int .i64 0, .int .i64 0] 23 ∧ Blk W (w.heap.size + 1 + 1 + 1 + 1 + 1) #[.int .i64 0] 24) ∧ Below w.heap.size w W)
    (fun c0 pre W => c0 = .ret ∧ ∃ pre0 x, pre = pre0 ++ [x] ∧ Hid (∀ y ∈ pre0, y.1.2 < t) ∧ t ≤ x.1.2 ∧ Blk W (w.heap.size + 1 + 1 + 1 + 1) #[.int .i64 (mA (nArg p s t q x.1.1).1 (nArg p s t q x.1.1).2), .int .i64 (mB (nArg p s t q x.1.1).1 (nArg p s t q x.1.1).2)] 23 ∧ Blk W (w.heap.size + 1 + 1 + 1 + 1 + 1) #[.int .i64 (mE (nArg p s t q x.1.1).1 (nArg p s t q x.1.1).2)] 24 ∧ Below w.heap.size w W)
    (fun s X Y row hs hg hr => by
      obtain ⟨hd, ⟨c0, c1, c2, c3, c4, c5⟩, hb⟩ := hs
      have hr' := fun r e => (hr r e).2
      exact ⟨hd, ⟨c0.own hg hr', c1.own hg hr', c2.own hg hr', c3.own hg hr', c4.own hg hr', c5.own hg hr'⟩, ownFrom_below (β := Unit) (Nat.le_refl _) hBW.size () X Y row hb hg hr⟩)
    (fun c0 s X Y row hs hg hr => by
      obtain ⟨hc, pre0, x, he, hd, hx, c4, c5, hb⟩ := hs
      have hr' := fun r e => (hr r e).2
      exact ⟨hc, pre0, x, he, hd, hx, c4.own hg hr', c5.own hg hr', ownFrom_below (β := Unit) (Nat.le_refl _) hBW.size () X Y row hb hg hr⟩)
    ⟨(show ∀ y ∈ ([] : List (Wel q)), y.1.2 < t from fun y hy => by cases hy), ⟨k0, k1, k2, k3, k4, k5⟩, hBW⟩
    (fun x => { tmps := #[.slice a n c, .int .i64 t, .int .i64 p, .int .i64 s, .pointer (some ⟨w.heap.size, 0, none⟩), .pointer (some ⟨w.heap.size + 1, 0, none⟩), .pointer (some ⟨w.heap.size + 1 + 1, 0, none⟩), .pointer (some ⟨w.heap.size + 1 + 1 + 1, 0, none⟩), .pointer (some ⟨w.heap.size + 1 + 1 + 1 + 1, 0, none⟩), .pointer (some ⟨w.heap.size + 1 + 1 + 1 + 1 + 1, 0, none⟩), .int .i64 0, .int .i64 ((p : Int) + s * (x.1.1 : Int)), .int .i64 x.1.2, undef, .slice a n c, .int .i64 0, .int .i64 0, .bool false, undef, undef, .int .i64 t, .bool true, .bool false, .bool false, .int .i64 p, .slice a n c, .int .i64 n, .int .i64 ((n : Int) - 1), .bool true, .bool false, .bool false, undef, .slice a n c, .int .i64 p, .int .i64 s, .func (.func 101) #[] #[.pointer (some ⟨wC.heap.size + 1, 0, none⟩), .pointer (some ⟨wC.heap.size, 0, none⟩), .pointer (some ⟨wC.heap.size + 1 + 1, 0, none⟩)], .int .i64 ((p : Int) + s * (x.1.1 : Int)), .int .i64 x.1.2, undef, undef, undef, undef, undef, undef, undef, undef, undef, undef, undef, undef, undef, undef, undef, undef, undef, undef, undef, undef, undef, undef, undef, undef, undef, undef, undef, undef, undef, undef, undef, undef], defers := [] }) ?assign ?body ?done ?stop
  case assign =>
    intro l x W K hK
    simp only [weEnc]
    gi_wp2
    exact hK
  case body =>
    rintro l pre ⟨⟨k, v⟩, hv⟩ W ⟨hd, ⟨k0, k1, k2, k3, k4, k5⟩, hB⟩ hlt
    have HD := Lib.hid hd.out
    have hv8 := HZ.out.2
    obtain ⟨j, hj, hjn, hzj⟩ := HW.out.1 k v hv
    have hv8 := HZ.out.2 v (List.mem_of_getElem? hzj)
    obtain ⟨a0, b0⟩ := k0.read; obtain ⟨a1, b1⟩ := k1.read; obtain ⟨a2, b2⟩ := k2.read; obtain ⟨a3, b3⟩ := k3.read; obtain ⟨a4, b4⟩ := k4.read; obtain ⟨a5, b5⟩ := k5.read
    dsimp only at hlt ⊢
    have n2 : 1 ≤ m - 1 - 1 := by omega
    have hv0 := hv8.1; have hv1 := hv8.2
    rw [hj]
    by_cases hvt : v < t
    · clear hw hv8
      gi_wp2
      refine ⟨KeepsFrom.of_below (Below.refl _ _), Below.refl _ _, ?_, ⟨k0, k1, k2, k3, k4, k5⟩, hB⟩
      show ∀ y ∈ pre ++ [⟨(k, v), hv⟩], y.1.2 < t
      intro y hy
      rcases List.mem_append.1 hy with h | h
      · exact HD.out y h
      · rw [List.mem_singleton] at h; subst h; exact hvt
    · have hvt2 : t ≤ v := by omega
      by_cases hk : k = 0
      · subst hk
        have hjp : j = p := by
          have : (p : Int) + s * ((0 : Nat) : Int) = p := by simp
          omega
        subst hjp
        have hN : Hid (nArg j s t q 0 = ((j : Int), 1)) := if_pos rfl
        have HM := Lib.hid (make_any (j : Int) 1 (by omega) (by omega) (by omega) (by omega))
        clear hw hv8 hvt
        as_aux_lemma =>
          gi_wp2_with ((try (refine ⟨trivial, ?_⟩)); gi_at_call 45; refine (CallsIn.inRound l (callsIn_wide.2 (HM.out _))).mono ?_; rintro e wA ⟨rfl, hA⟩; have k4' := Blk.later hA k4; have k5' := Blk.later hA k5; obtain ⟨a4', b4'⟩ := k4'.read; obtain ⟨a5', b5'⟩ := k5'.read)
          refine ⟨?_, rfl, pre, ⟨(0, v), hv⟩, rfl, HD, hvt2, ?_, ?_, ?_⟩
          · refine KeepsFrom.trans ?_ ((KeepsOthers.setCell _ _ _).from _)
            refine KeepsFrom.trans ?_ ((KeepsOthers.setCell _ _ _).from _)
            refine KeepsFrom.trans ?_ ((KeepsOthers.setCell _ _ _).from _)
            exact KeepsFrom.of_below hA
          · rw [show nArg j s t q (⟨(0, v), hv⟩ : Wel q).1.1 = _ from hN.out]
            exact Blk.other (Blk.set (Blk.set k4')) (by simp)
          · rw [show nArg j s t q (⟨(0, v), hv⟩ : Wel q).1.1 = _ from hN.out]
            exact Blk.set (Blk.other (Blk.other k5' (by simp)) (by simp))
          · (repeat' (first | (with_reducible exact Below.refl _ _) | (with_reducible assumption) | (with_reducible refine belowThru ?_ (by assumption)) | (with_reducible refine belowAlloc ?_) | (with_reducible refine Below.setCell ?_ (by first | omega | (simp; done) | (simp; omega)) _) | (with_reducible refine Below.drew ?_) | (with_reducible refine below_drewN ?_ _)))
      · obtain ⟨k', rfl⟩ : ∃ k', k = k' + 1 := ⟨k - 1, by omega⟩
        have hk2 : k' < q.length := by have := (List.getElem?_eq_some_iff.1 hv).1; omega
        obtain ⟨u, hu⟩ : ∃ u, q[k']? = some u := ⟨_, List.getElem?_eq_getElem hk2⟩
        obtain ⟨i, hi, hin, hzi⟩ := HW.out.1 k' u hu
        have hu8 := HZ.out.2 u (List.mem_of_getElem? hzi)
        obtain ⟨bb, oo, z, rfl, hbb, hz2, cz⟩ := HR.out.int hin
        rw [hzi] at hz2; cases hz2
        have cz := cell_later hB cz
        have hji : (j : Int) = (i : Int) + s := by rw [← hj, ← hi]; push_cast; rw [Int.mul_add, Int.mul_one, Int.add_assoc]
        have hjp : ¬ (j : Int) = (p : Int) := by
          rw [← hj]
          rcases hs with rfl | rfl <;> push_cast <;> omega
        have hjp2 : ¬ j = p := by omega
        have hjp3 : ((j : Int) == (p : Int)) = false := beq_false_of_ne hjp
        have i0 : (0 : Int) ≤ (i : Int) := by omega
        have i1 : (i : Int) < (n : Int) := by omega
        have e1 : IntKind.i64.wrap ((j : Int) - s) = (i : Int) := by rw [hji, Int.add_sub_cancel]; exact IntWalk.i64_in _ (by omega)
        obtain ⟨R, hRR⟩ : ∃ R, v - u = R := ⟨_, rfl⟩
        obtain ⟨T, hTT⟩ : ∃ T, v - t = T := ⟨_, rfl⟩
        have e2 : IntKind.i64.wrap (v - u) = R := by rw [hRR]; exact IntWalk.i64_in _ (by omega)
        have e3 : IntKind.i64.wrap (v - t) = T := by rw [hTT]; exact IntWalk.i64_in _ (by omega)
        have m1 := mul_bound (j : Int) R 64 255 (by omega) (by omega) (by omega) (by omega)
        have m2 := mul_bound s T 1 255 (by omega) (by omega) (by omega) (by omega)
        obtain ⟨M, hM⟩ : ∃ M, (j : Int) * R = M := ⟨_, rfl⟩
        obtain ⟨L, hL⟩ : ∃ L, s * T = L := ⟨_, rfl⟩
        rw [hM] at m1; rw [hL] at m2
        have e4 : IntKind.i64.wrap ((j : Int) * R) = M := by rw [hM]; exact IntWalk.i64_in _ (by omega)
        have e5 : IntKind.i64.wrap (s * T) = L := by rw [hL]; exact IntWalk.i64_in _ (by omega)
        have e6 : IntKind.i64.wrap (M - L) = M - L := IntWalk.i64_in _ (by omega)
        have hN : Hid (nArg p s t q (k' + 1) = (M - L, R)) := by
          show nArg p s t q (k' + 1) = _
          unfold nArg
          rw [if_neg (by omega), Nat.add_sub_cancel, hv, hu, hj]
          simp only [Option.getD_some]
          rw [hRR, hTT, hM, hL]
        have HM := Lib.hid (make_any (M - L) R (by omega) (by omega) (by omega) (by omega))
        clear hw hv8 hvt hRR hTT hM hL hji m1 m2 hjp hjp2 hu8
        as_aux_lemma =>
          gi_wp2_with ((try (refine ⟨trivial, ?_⟩)); gi_at_call 45; refine (CallsIn.inRound l (callsIn_wide.2 (HM.out _))).mono ?_; rintro e wA ⟨rfl, hA⟩; have k4' := Blk.later hA k4; have k5' := Blk.later hA k5; obtain ⟨a4', b4'⟩ := k4'.read; obtain ⟨a5', b5'⟩ := k5'.read)
          refine ⟨?_, rfl, pre, ⟨(k' + 1, v), hv⟩, rfl, HD, hvt2, ?_, ?_, ?_⟩
          · refine KeepsFrom.trans ?_ ((KeepsOthers.setCell _ _ _).from _)
            refine KeepsFrom.trans ?_ ((KeepsOthers.setCell _ _ _).from _)
            refine KeepsFrom.trans ?_ ((KeepsOthers.setCell _ _ _).from _)
            exact KeepsFrom.of_below hA
          · rw [show nArg p s t q (⟨(k' + 1, v), hv⟩ : Wel q).1.1 = _ from hN.out]
            exact Blk.other (Blk.set (Blk.set k4')) (by simp)
          · rw [show nArg p s t q (⟨(k' + 1, v), hv⟩ : Wel q).1.1 = _ from hN.out]
            exact Blk.set (Blk.other (Blk.other k5' (by simp)) (by simp))
          · (repeat' (first | (with_reducible exact Below.refl _ _) | (with_reducible assumption) | (with_reducible refine belowThru ?_ (by assumption)) | (with_reducible refine belowAlloc ?_) | (with_reducible refine Below.setCell ?_ (by first | omega | (simp; done) | (simp; omega)) _) | (with_reducible refine Below.drew ?_) | (with_reducible refine below_drewN ?_ _)))
  case done =>
    rintro D xs W hD hall ⟨hd, ⟨k0, k1, k2, k3, k4, k5⟩, hB⟩ hK
    have hf : fb t q = none := fb_none_of hall hd.out
    obtain ⟨a4, b4⟩ := k4.read; obtain ⟨a5, b5⟩ := k5.read
    have hK := (((KeepsOthers.setCell W ⟨w.heap.size + 1 + 1 + 1 + 1, 0, none⟩ (.int .i64 0)).trans (KeepsOthers.setCell _ ⟨w.heap.size + 1 + 1 + 1 + 1, 1, none⟩ (.int .i64 0))).trans (KeepsOthers.setCell _ ⟨w.heap.size + 1 + 1 + 1 + 1 + 1, 0, none⟩ (.int .i64 6))).same D _ hK rfl
    have k4f : Blk (((W.setCell ⟨w.heap.size + 1 + 1 + 1 + 1, 0, none⟩ (.int .i64 0)).setCell ⟨w.heap.size + 1 + 1 + 1 + 1, 1, none⟩ (.int .i64 0)).setCell ⟨w.heap.size + 1 + 1 + 1 + 1 + 1, 0, none⟩ (.int .i64 6)) (w.heap.size + 1 + 1 + 1 + 1) #[.int .i64 0, .int .i64 0] 23 := Blk.other (Blk.set (Blk.set k4)) (by simp)
    have k5f : Blk (((W.setCell ⟨w.heap.size + 1 + 1 + 1 + 1, 0, none⟩ (.int .i64 0)).setCell ⟨w.heap.size + 1 + 1 + 1 + 1, 1, none⟩ (.int .i64 0)).setCell ⟨w.heap.size + 1 + 1 + 1 + 1 + 1, 0, none⟩ (.int .i64 6)) (w.heap.size + 1 + 1 + 1 + 1 + 1) #[.int .i64 6] 24 := Blk.set (Blk.other (Blk.other k5 (by simp)) (by simp))
    replace hB : Below w.heap.size w (((W.setCell ⟨w.heap.size + 1 + 1 + 1 + 1, 0, none⟩ (.int .i64 0)).setCell ⟨w.heap.size + 1 + 1 + 1 + 1, 1, none⟩ (.int .i64 0)).setCell ⟨w.heap.size + 1 + 1 + 1 + 1 + 1, 0, none⟩ (.int .i64 6)) := by (repeat' (first | (with_reducible exact Below.refl _ _) | (with_reducible assumption) | (with_reducible refine belowThru ?_ (by assumption)) | (with_reducible refine belowAlloc ?_) | (with_reducible refine Below.setCell ?_ (by first | omega | (simp; done) | (simp; omega)) _) | (with_reducible refine Below.drew ?_) | (with_reducible refine below_drewN ?_ _)))
    gi_wp2
    obtain ⟨Wf, hWf⟩ : ∃ Wf, (((W.setCell ⟨w.heap.size + 1 + 1 + 1 + 1, 0, none⟩ (.int .i64 0)).setCell ⟨w.heap.size + 1 + 1 + 1 + 1, 1, none⟩ (.int .i64 0)).setCell ⟨w.heap.size + 1 + 1 + 1 + 1 + 1, 0, none⟩ (.int .i64 6)) = Wf := ⟨_, rfl⟩
    rw [hWf] at k4f k5f hK hB ⊢
    clear hWf k4 k5 a4 b4 a5 b5
    have k4 := k4f; have k5 := k5f
    have hb5 := k5.lt
    obtain ⟨f4, g4⟩ := (k4.own (grownBy_putObj' Wf D (.deferred none)) (fun r e => by cases e; exact ⟨_, hK, rfl⟩)).read
    obtain ⟨f5, g5⟩ := (k5.own (grownBy_putObj' Wf D (.deferred none)) (fun r e => by cases e; exact ⟨_, hK, rfl⟩)).read
    refine ⟨by simp, .inl ⟨_, _, rfl, run_takeDeferred hK, ?_⟩⟩
    refine ⟨.tuple #[.agg #[.int .i64 (nA p s t q (fb t q)), .int .i64 (nB p s t q (fb t q))], .int .i64 (nE p s t q (fb t q))], ?_, rfl, hB.trans (belowK_b (w := w) (Nat.le_refl _) Wf D _ _ (by omega) hK rfl rfl)⟩
    rw [hf]
    simp only [results, Try.results41]
    go_simp
    exact ⟨⟨rfl, rfl⟩, rfl⟩
  case stop =>
    rintro D c0 pre W hD ⟨kk, hall⟩ ⟨rfl, pre0, x, rfl, hd, hx, k4, k5, hB⟩ hK
    have hf : fb t q = some x.1.1 := fb_some_of hall hd.out hx
    gi_wp2
    have hb5 := k5.lt
    obtain ⟨f4, g4⟩ := (k4.own (grownBy_putObj' W D (.deferred none)) (fun r e => by cases e; exact ⟨_, hK, rfl⟩)).read
    obtain ⟨f5, g5⟩ := (k5.own (grownBy_putObj' W D (.deferred none)) (fun r e => by cases e; exact ⟨_, hK, rfl⟩)).read
    refine ⟨by simp, .inl ⟨_, _, rfl, run_takeDeferred hK, ?_⟩⟩
    refine ⟨.tuple #[.agg #[.int .i64 (nA p s t q (fb t q)), .int .i64 (nB p s t q (fb t q))], .int .i64 (nE p s t q (fb t q))], ?_, rfl, hB.trans (belowK_b (w := w) (Nat.le_refl _) W D _ _ (by omega) hK rfl rfl)⟩
    rw [hf]
    simp only [results, Try.results41]
    go_simp
    exact ⟨⟨rfl, rfl⟩, rfl⟩
/-- The way to the end, and the way back to the start. -/
theorem isWay_first (zs : List Int) (p : Nat) (hl : zs.length ≤ 64) : IsWay zs zs.length p 1 (zs.drop p) := by
  refine ⟨fun k v h => ⟨p + k, by push_cast; omega, ?_, by rw [drop_get] at h; exact h⟩, ?_, by rw [List.length_drop]; omega⟩
  · rw [drop_get] at h; exact (List.getElem?_eq_some_iff.1 h).1
  · rw [List.length_drop]; omega
theorem isWay_last (zs : List Int) (p : Nat) (hp : p < zs.length) (hl : zs.length ≤ 64) : IsWay zs zs.length p (-1) (zs.take (p + 1)).reverse := by
  refine ⟨fun k v h => ?_, ?_, by rw [back_len _ _ hp]; omega⟩
  · rw [back_get _ _ _ hp] at h
    split at h
    · exact ⟨p - k, by omega, by omega, h⟩
    · cases h
  · rw [back_len _ _ hp]; omega
end Go.Proofs.Ytdimmnoflenfhaa
/-
  Layer 5: First and Last, by the code.
-/
namespace Go.Proofs.Ytdimmnoflenfhaa
open Go.RowKit Go.Shelf
set_option linter.unusedVariables false
set_option linter.unusedSimpArgs false

/-- The parts of a number, if there is one; otherwise 0. -/
def oN : Option Rat → Int
  | none => 0
  | some x => fn x
def oD : Option Rat → Int
  | none => 0
  | some x => fd x
/-- The indices of a list. -/
def inL (zs : List Int) (p : Int) : Prop := 0 ≤ p ∧ p < (zs.length : Int)
instance (zs : List Int) (p : Int) : Decidable (inL zs p) := inferInstanceAs (Decidable (_ ∧ _))
/-- What First, Last return: the place if there is one; the error. -/
def fiO (t : Int) (zs : List Int) (p : Int) : Option Rat := if okP zs ∧ okT t ∧ inL zs p then FX t zs p.toNat else none
def laO (t : Int) (zs : List Int) (p : Int) : Option Rat := if okP zs ∧ okT t ∧ inL zs p then LX t zs p.toNat else none
/-- The error of what was asked for, or of what was not found. -/
def asE (zs : List Int) (ok : Prop) [Decidable ok] (b : Bool) : Int := if ¬ okP zs then 50 else if ¬ ok then 2 else if b then 0 else 6
def fiE (t : Int) (zs : List Int) (p : Int) : Int := asE zs (okT t ∧ inL zs p) (FX t zs p.toNat).isSome
def laE (t : Int) (zs : List Int) (p : Int) : Int := asE zs (okT t ∧ inL zs p) (LX t zs p.toNat).isSome
theorem asE_no {zs : List Int} {ok : Prop} [Decidable ok] {b : Bool} (h : ¬ okP zs) : asE zs ok b = 50 := if_pos h
theorem asE_arg {zs : List Int} {ok : Prop} [Decidable ok] {b : Bool} (h : okP zs) (k : ¬ ok) : asE zs ok b = 2 := by unfold asE; rw [if_neg (fun g => g h), if_pos k]
theorem asE_ok {zs : List Int} {ok : Prop} [Decidable ok] {b : Bool} (h : okP zs) (k : ok) : asE zs ok b = if b then 0 else 6 := by unfold asE; rw [if_neg (fun g => g h), if_neg (fun g => g k)]

set_option maxRecDepth 100000 in
set_option maxHeartbeats 2000000 in
theorem near_profile (a : Option Addr) (n c : Nat) (zs : List Int) (t p s : Int) (hn : n ≤ maxLen) (h : ¬ okP zs) (w : World) (hR : Row w a n (iv zs)) :
    Calls Try.prog 41 #[.slice a n c, .int .i64 t, .int .i64 p, .int .i64 s] w fun e w' => e = .returned (.tuple #[.agg #[.int .i64 0, .int .i64 0], .int .i64 50]) ∧ Below w.heap.size w w' := by
  have HC : Hid (∀ (a : Option Addr) (c : Nat) (w : World), Row w a n (iv zs) → Calls Try.prog 26 #[.slice a n c] w fun e w' => e = .returned (.int .i64 50) ∧ Below w.heap.size w w') := fun a c w hR => by
    have := ckP_any a n c zs hn w hR
    rwa [ckP_no h] at this
  have HR := Lib.hid hR
  clear h hR
  go_enter Try.func41, Try.ntmps41
  go_wp2_with (go_at_call 26; (with_reducible refine (HC.out _ _ _ (HR.out.later (by (repeat' (first | (with_reducible exact Below.refl _ _) | (with_reducible assumption) | (with_reducible refine belowThru ?_ (by assumption)) | (with_reducible refine belowAlloc ?_) | (with_reducible refine Below.setCell ?_ (by first | omega | (simp; done) | (simp; omega)) _) | (with_reducible refine Below.drew ?_) | (with_reducible refine below_drewN ?_ _)))))).mono ?_); rintro e w1 ⟨rfl, hb⟩; (first | ((with_reducible have k0 := Blk.later hb (Blk.alloc (Blk.alloc (Blk.alloc (Blk.alloc (Blk.alloc (Blk.new rfl))))))); (with_reducible have k1 := Blk.later hb (Blk.alloc (Blk.alloc (Blk.alloc (Blk.alloc (Blk.new rfl)))))); (with_reducible have k2 := Blk.later hb (Blk.alloc (Blk.alloc (Blk.alloc (Blk.new rfl))))); (with_reducible have k3 := Blk.later hb (Blk.alloc (Blk.alloc (Blk.new rfl)))); (with_reducible have k4 := Blk.later hb (Blk.alloc (Blk.new rfl))); (with_reducible have k5 := Blk.later hb (Blk.new rfl)); simp only [World.size_alloc] at k1 k2 k3 k4 k5; obtain ⟨a0, b0⟩ := k0.read; have zl := k0.lt; obtain ⟨a1, b1⟩ := k1.read; have zl := k1.lt; obtain ⟨a2, b2⟩ := k2.read; have zl := k2.lt; obtain ⟨a3, b3⟩ := k3.read; have zl := k3.lt; obtain ⟨a4, b4⟩ := k4.read; have zl := k4.lt; obtain ⟨a5, b5⟩ := k5.read; have zl := k5.lt) | ((try (have zk := k0.lt; (first | ((with_reducible refine Blk.keepG hb k0 (fun h => ?_) ?_); (focus ((repeat' (first | (with_reducible assumption) | ((with_reducible refine Blk.new ?_); first | rfl | (simp; done)) | (with_reducible refine Blk.later (by assumption) ?_) | (with_reducible refine Blk.alloc ?_) | (with_reducible refine Blk.drewN ?_) | (with_reducible refine Blk.drew ?_) | (with_reducible refine Blk.other ?_ (by first | omega | (simp; done) | (simp; omega))))); done)); clear k0; intro k0) | (with_reducible replace k0 := Blk.later hb (Blk.set (Blk.set k0))) | (with_reducible replace k0 := Blk.later hb (Blk.set k0))); clear a0 b0; obtain ⟨a0, b0⟩ := k0.read; have zl := k0.lt)); (try (have zk := k1.lt; (first | ((with_reducible refine Blk.keepG hb k1 (fun h => ?_) ?_); (focus ((repeat' (first | (with_reducible assumption) | ((with_reducible refine Blk.new ?_); first | rfl | (simp; done)) | (with_reducible refine Blk.later (by assumption) ?_) | (with_reducible refine Blk.alloc ?_) | (with_reducible refine Blk.drewN ?_) | (with_reducible refine Blk.drew ?_) | (with_reducible refine Blk.other ?_ (by first | omega | (simp; done) | (simp; omega))))); done)); clear k1; intro k1) | (with_reducible replace k1 := Blk.later hb (Blk.set (Blk.set k1))) | (with_reducible replace k1 := Blk.later hb (Blk.set k1))); clear a1 b1; obtain ⟨a1, b1⟩ := k1.read; have zl := k1.lt)); (try (have zk := k2.lt; (first | ((with_reducible refine Blk.keepG hb k2 (fun h => ?_) ?_); (focus ((repeat' (first | (with_reducible assumption) | ((with_reducible refine Blk.new ?_); first | rfl | (simp; done)) | (with_reducible refine Blk.later (by assumption) ?_) | (with_reducible refine Blk.alloc ?_) | (with_reducible refine Blk.drewN ?_) | (with_reducible refine Blk.drew ?_) | (with_reducible refine Blk.other ?_ (by first | omega | (simp; done) | (simp; omega))))); done)); clear k2; intro k2) | (with_reducible replace k2 := Blk.later hb (Blk.set (Blk.set k2))) | (with_reducible replace k2 := Blk.later hb (Blk.set k2))); clear a2 b2; obtain ⟨a2, b2⟩ := k2.read; have zl := k2.lt)); (try (have zk := k3.lt; (first | ((with_reducible refine Blk.keepG hb k3 (fun h => ?_) ?_); (focus ((repeat' (first | (with_reducible assumption) | ((with_reducible refine Blk.new ?_); first | rfl | (simp; done)) | (with_reducible refine Blk.later (by assumption) ?_) | (with_reducible refine Blk.alloc ?_) | (with_reducible refine Blk.drewN ?_) | (with_reducible refine Blk.drew ?_) | (with_reducible refine Blk.other ?_ (by first | omega | (simp; done) | (simp; omega))))); done)); clear k3; intro k3) | (with_reducible replace k3 := Blk.later hb (Blk.set (Blk.set k3))) | (with_reducible replace k3 := Blk.later hb (Blk.set k3))); clear a3 b3; obtain ⟨a3, b3⟩ := k3.read; have zl := k3.lt)); (try (have zk := k4.lt; (first | ((with_reducible refine Blk.keepG hb k4 (fun h => ?_) ?_); (focus ((repeat' (first | (with_reducible assumption) | ((with_reducible refine Blk.new ?_); first | rfl | (simp; done)) | (with_reducible refine Blk.later (by assumption) ?_) | (with_reducible refine Blk.alloc ?_) | (with_reducible refine Blk.drewN ?_) | (with_reducible refine Blk.drew ?_) | (with_reducible refine Blk.other ?_ (by first | omega | (simp; done) | (simp; omega))))); done)); clear k4; intro k4) | (with_reducible replace k4 := Blk.later hb (Blk.set (Blk.set k4))) | (with_reducible replace k4 := Blk.later hb (Blk.set k4))); clear a4 b4; obtain ⟨a4, b4⟩ := k4.read; have zl := k4.lt)); (try (have zk := k5.lt; (first | ((with_reducible refine Blk.keepG hb k5 (fun h => ?_) ?_); (focus ((repeat' (first | (with_reducible assumption) | ((with_reducible refine Blk.new ?_); first | rfl | (simp; done)) | (with_reducible refine Blk.later (by assumption) ?_) | (with_reducible refine Blk.alloc ?_) | (with_reducible refine Blk.drewN ?_) | (with_reducible refine Blk.drew ?_) | (with_reducible refine Blk.other ?_ (by first | omega | (simp; done) | (simp; omega))))); done)); clear k5; intro k5) | (with_reducible replace k5 := Blk.later hb (Blk.set (Blk.set k5))) | (with_reducible replace k5 := Blk.later hb (Blk.set k5))); clear a5 b5; obtain ⟨a5, b5⟩ := k5.read; have zl := k5.lt)))))
  exact bodyPost_ret (v := .tuple #[.agg #[.int .i64 0, .int .i64 0], .int .i64 50]) (by simp only [results, Try.results41]; go_simp) rfl ⟨rfl, by (repeat' (first | (with_reducible exact Below.refl _ _) | (with_reducible assumption) | (with_reducible refine belowThru ?_ (by assumption)) | (with_reducible refine belowAlloc ?_) | (with_reducible refine Below.setCell ?_ (by first | omega | (simp; done) | (simp; omega)) _) | (with_reducible refine Below.drew ?_) | (with_reducible refine below_drewN ?_ _)))⟩
set_option maxRecDepth 100000 in
set_option maxHeartbeats 2000000 in
theorem near_arg (a : Option Addr) (n c : Nat) (zs : List Int) (t p s : Int) (hn : n ≤ maxLen) (hl : zs.length = n) (hz : okP zs) (h : ¬ (okT t ∧ inL zs p)) (w : World) (hR : Row w a n (iv zs)) :
    Calls Try.prog 41 #[.slice a n c, .int .i64 t, .int .i64 p, .int .i64 s] w fun e w' => e = .returned (.tuple #[.agg #[.int .i64 0, .int .i64 0], .int .i64 2]) ∧ Below w.heap.size w w' := by
  have HC : Hid (∀ (a : Option Addr) (c : Nat) (w : World), Row w a n (iv zs) → Calls Try.prog 26 #[.slice a n c] w fun e w' => e = .returned (.int .i64 0) ∧ Below w.heap.size w w') := fun a c w hR => by
    have := ckP_any a n c zs hn w hR
    rwa [ckP_ok hz] at this
  have HR := Lib.hid hR
  have hn2 : 2 ≤ n ∧ n ≤ 64 := by rw [← hl]; exact hz.1
  have hw1 : IntKind.i64.wrap ((n : Int) - 1) = (n : Int) - 1 := IntWalk.i64_in _ (by omega)
  clear hR
  by_cases ht : okT t
  · have HT : Hid (∀ w, Calls Try.prog 69 #[.int .i64 t] w fun e w' => e = .returned (.bool true) ∧ w = w') := fun w => by
      have := isThr_any t w
      rwa [decide_eq_true ht] at this
    have HI := Lib.hid (gwithin_no p 0 ((n : Int) - 1) (fun k => h ⟨ht, k.1, by rw [hl]; omega⟩))
    clear h hz ht hl
    go_enter Try.func41, Try.ntmps41
    go_wp2_with (first
      | (go_at_call 26; (with_reducible refine (HC.out _ _ _ (HR.out.later (by (repeat' (first | (with_reducible exact Below.refl _ _) | (with_reducible assumption) | (with_reducible refine belowThru ?_ (by assumption)) | (with_reducible refine belowAlloc ?_) | (with_reducible refine Below.setCell ?_ (by first | omega | (simp; done) | (simp; omega)) _) | (with_reducible refine Below.drew ?_) | (with_reducible refine below_drewN ?_ _)))))).mono ?_); rintro e w1 ⟨rfl, hb⟩; (first | ((with_reducible have k0 := Blk.later hb (Blk.alloc (Blk.alloc (Blk.alloc (Blk.alloc (Blk.alloc (Blk.new rfl))))))); (with_reducible have k1 := Blk.later hb (Blk.alloc (Blk.alloc (Blk.alloc (Blk.alloc (Blk.new rfl)))))); (with_reducible have k2 := Blk.later hb (Blk.alloc (Blk.alloc (Blk.alloc (Blk.new rfl))))); (with_reducible have k3 := Blk.later hb (Blk.alloc (Blk.alloc (Blk.new rfl)))); (with_reducible have k4 := Blk.later hb (Blk.alloc (Blk.new rfl))); (with_reducible have k5 := Blk.later hb (Blk.new rfl)); simp only [World.size_alloc] at k1 k2 k3 k4 k5; obtain ⟨a0, b0⟩ := k0.read; have zl := k0.lt; obtain ⟨a1, b1⟩ := k1.read; have zl := k1.lt; obtain ⟨a2, b2⟩ := k2.read; have zl := k2.lt; obtain ⟨a3, b3⟩ := k3.read; have zl := k3.lt; obtain ⟨a4, b4⟩ := k4.read; have zl := k4.lt; obtain ⟨a5, b5⟩ := k5.read; have zl := k5.lt) | ((try (have zk := k0.lt; (first | ((with_reducible refine Blk.keepG hb k0 (fun h => ?_) ?_); (focus ((repeat' (first | (with_reducible assumption) | ((with_reducible refine Blk.new ?_); first | rfl | (simp; done)) | (with_reducible refine Blk.later (by assumption) ?_) | (with_reducible refine Blk.alloc ?_) | (with_reducible refine Blk.drewN ?_) | (with_reducible refine Blk.drew ?_) | (with_reducible refine Blk.other ?_ (by first | omega | (simp; done) | (simp; omega))))); done)); clear k0; intro k0) | (with_reducible replace k0 := Blk.later hb (Blk.set (Blk.set k0))) | (with_reducible replace k0 := Blk.later hb (Blk.set k0))); clear a0 b0; obtain ⟨a0, b0⟩ := k0.read; have zl := k0.lt)); (try (have zk := k1.lt; (first | ((with_reducible refine Blk.keepG hb k1 (fun h => ?_) ?_); (focus ((repeat' (first | (with_reducible assumption) | ((with_reducible refine Blk.new ?_); first | rfl | (simp; done)) | (with_reducible refine Blk.later (by assumption) ?_) | (with_reducible refine Blk.alloc ?_) | (with_reducible refine Blk.drewN ?_) | (with_reducible refine Blk.drew ?_) | (with_reducible refine Blk.other ?_ (by first | omega | (simp; done) | (simp; omega))))); done)); clear k1; intro k1) | (with_reducible replace k1 := Blk.later hb (Blk.set (Blk.set k1))) | (with_reducible replace k1 := Blk.later hb (Blk.set k1))); clear a1 b1; obtain ⟨a1, b1⟩ := k1.read; have zl := k1.lt)); (try (have zk := k2.lt; (first | ((with_reducible refine Blk.keepG hb k2 (fun h => ?_) ?_); (focus ((repeat' (first | (with_reducible assumption) | ((with_reducible refine Blk.new ?_); first | rfl | (simp; done)) | (with_reducible refine Blk.later (by assumption) ?_) | (with_reducible refine Blk.alloc ?_) | (with_reducible refine Blk.drewN ?_) | (with_reducible refine Blk.drew ?_) | (with_reducible refine Blk.other ?_ (by first | omega | (simp; done) | (simp; omega))))); done)); clear k2; intro k2) | (with_reducible replace k2 := Blk.later hb (Blk.set (Blk.set k2))) | (with_reducible replace k2 := Blk.later hb (Blk.set k2))); clear a2 b2; obtain ⟨a2, b2⟩ := k2.read; have zl := k2.lt)); (try (have zk := k3.lt; (first | ((with_reducible refine Blk.keepG hb k3 (fun h => ?_) ?_); (focus ((repeat' (first | (with_reducible assumption) | ((with_reducible refine Blk.new ?_); first | rfl | (simp; done)) | (with_reducible refine Blk.later (by assumption) ?_) | (with_reducible refine Blk.alloc ?_) | (with_reducible refine Blk.drewN ?_) | (with_reducible refine Blk.drew ?_) | (with_reducible refine Blk.other ?_ (by first | omega | (simp; done) | (simp; omega))))); done)); clear k3; intro k3) | (with_reducible replace k3 := Blk.later hb (Blk.set (Blk.set k3))) | (with_reducible replace k3 := Blk.later hb (Blk.set k3))); clear a3 b3; obtain ⟨a3, b3⟩ := k3.read; have zl := k3.lt)); (try (have zk := k4.lt; (first | ((with_reducible refine Blk.keepG hb k4 (fun h => ?_) ?_); (focus ((repeat' (first | (with_reducible assumption) | ((with_reducible refine Blk.new ?_); first | rfl | (simp; done)) | (with_reducible refine Blk.later (by assumption) ?_) | (with_reducible refine Blk.alloc ?_) | (with_reducible refine Blk.drewN ?_) | (with_reducible refine Blk.drew ?_) | (with_reducible refine Blk.other ?_ (by first | omega | (simp; done) | (simp; omega))))); done)); clear k4; intro k4) | (with_reducible replace k4 := Blk.later hb (Blk.set (Blk.set k4))) | (with_reducible replace k4 := Blk.later hb (Blk.set k4))); clear a4 b4; obtain ⟨a4, b4⟩ := k4.read; have zl := k4.lt)); (try (have zk := k5.lt; (first | ((with_reducible refine Blk.keepG hb k5 (fun h => ?_) ?_); (focus ((repeat' (first | (with_reducible assumption) | ((with_reducible refine Blk.new ?_); first | rfl | (simp; done)) | (with_reducible refine Blk.later (by assumption) ?_) | (with_reducible refine Blk.alloc ?_) | (with_reducible refine Blk.drewN ?_) | (with_reducible refine Blk.drew ?_) | (with_reducible refine Blk.other ?_ (by first | omega | (simp; done) | (simp; omega))))); done)); clear k5; intro k5) | (with_reducible replace k5 := Blk.later hb (Blk.set (Blk.set k5))) | (with_reducible replace k5 := Blk.later hb (Blk.set k5))); clear a5 b5; obtain ⟨a5, b5⟩ := k5.read; have zl := k5.lt)))))
      | (go_at_call 69; (with_reducible refine (HT.out _).mono ?_); rintro e w1 ⟨rfl, rfl⟩)
      | (go_at_call 59; (with_reducible refine (HI.out _).mono ?_); rintro e w1 ⟨rfl, rfl⟩))
    exact bodyPost_ret (v := .tuple #[.agg #[.int .i64 0, .int .i64 0], .int .i64 2]) (by simp only [results, Try.results41]; go_simp) rfl ⟨rfl, by (repeat' (first | (with_reducible exact Below.refl _ _) | (with_reducible assumption) | (with_reducible refine belowThru ?_ (by assumption)) | (with_reducible refine belowAlloc ?_) | (with_reducible refine Below.setCell ?_ (by first | omega | (simp; done) | (simp; omega)) _) | (with_reducible refine Below.drew ?_) | (with_reducible refine below_drewN ?_ _)))⟩
  · have HT : Hid (∀ w, Calls Try.prog 69 #[.int .i64 t] w fun e w' => e = .returned (.bool false) ∧ w = w') := fun w => by
      have := isThr_any t w
      rwa [decide_eq_false ht] at this
    clear h hz ht hl
    go_enter Try.func41, Try.ntmps41
    go_wp2_with (first
      | (go_at_call 26; (with_reducible refine (HC.out _ _ _ (HR.out.later (by (repeat' (first | (with_reducible exact Below.refl _ _) | (with_reducible assumption) | (with_reducible refine belowThru ?_ (by assumption)) | (with_reducible refine belowAlloc ?_) | (with_reducible refine Below.setCell ?_ (by first | omega | (simp; done) | (simp; omega)) _) | (with_reducible refine Below.drew ?_) | (with_reducible refine below_drewN ?_ _)))))).mono ?_); rintro e w1 ⟨rfl, hb⟩; (first | ((with_reducible have k0 := Blk.later hb (Blk.alloc (Blk.alloc (Blk.alloc (Blk.alloc (Blk.alloc (Blk.new rfl))))))); (with_reducible have k1 := Blk.later hb (Blk.alloc (Blk.alloc (Blk.alloc (Blk.alloc (Blk.new rfl)))))); (with_reducible have k2 := Blk.later hb (Blk.alloc (Blk.alloc (Blk.alloc (Blk.new rfl))))); (with_reducible have k3 := Blk.later hb (Blk.alloc (Blk.alloc (Blk.new rfl)))); (with_reducible have k4 := Blk.later hb (Blk.alloc (Blk.new rfl))); (with_reducible have k5 := Blk.later hb (Blk.new rfl)); simp only [World.size_alloc] at k1 k2 k3 k4 k5; obtain ⟨a0, b0⟩ := k0.read; have zl := k0.lt; obtain ⟨a1, b1⟩ := k1.read; have zl := k1.lt; obtain ⟨a2, b2⟩ := k2.read; have zl := k2.lt; obtain ⟨a3, b3⟩ := k3.read; have zl := k3.lt; obtain ⟨a4, b4⟩ := k4.read; have zl := k4.lt; obtain ⟨a5, b5⟩ := k5.read; have zl := k5.lt) | ((try (have zk := k0.lt; (first | ((with_reducible refine Blk.keepG hb k0 (fun h => ?_) ?_); (focus ((repeat' (first | (with_reducible assumption) | ((with_reducible refine Blk.new ?_); first | rfl | (simp; done)) | (with_reducible refine Blk.later (by assumption) ?_) | (with_reducible refine Blk.alloc ?_) | (with_reducible refine Blk.drewN ?_) | (with_reducible refine Blk.drew ?_) | (with_reducible refine Blk.other ?_ (by first | omega | (simp; done) | (simp; omega))))); done)); clear k0; intro k0) | (with_reducible replace k0 := Blk.later hb (Blk.set (Blk.set k0))) | (with_reducible replace k0 := Blk.later hb (Blk.set k0))); clear a0 b0; obtain ⟨a0, b0⟩ := k0.read; have zl := k0.lt)); (try (have zk := k1.lt; (first | ((with_reducible refine Blk.keepG hb k1 (fun h => ?_) ?_); (focus ((repeat' (first | (with_reducible assumption) | ((with_reducible refine Blk.new ?_); first | rfl | (simp; done)) | (with_reducible refine Blk.later (by assumption) ?_) | (with_reducible refine Blk.alloc ?_) | (with_reducible refine Blk.drewN ?_) | (with_reducible refine Blk.drew ?_) | (with_reducible refine Blk.other ?_ (by first | omega | (simp; done) | (simp; omega))))); done)); clear k1; intro k1) | (with_reducible replace k1 := Blk.later hb (Blk.set (Blk.set k1))) | (with_reducible replace k1 := Blk.later hb (Blk.set k1))); clear a1 b1; obtain ⟨a1, b1⟩ := k1.read; have zl := k1.lt)); (try (have zk := k2.lt; (first | ((with_reducible refine Blk.keepG hb k2 (fun h => ?_) ?_); (focus ((repeat' (first | (with_reducible assumption) | ((with_reducible refine Blk.new ?_); first | rfl | (simp; done)) | (with_reducible refine Blk.later (by assumption) ?_) | (with_reducible refine Blk.alloc ?_) | (with_reducible refine Blk.drewN ?_) | (with_reducible refine Blk.drew ?_) | (with_reducible refine Blk.other ?_ (by first | omega | (simp; done) | (simp; omega))))); done)); clear k2; intro k2) | (with_reducible replace k2 := Blk.later hb (Blk.set (Blk.set k2))) | (with_reducible replace k2 := Blk.later hb (Blk.set k2))); clear a2 b2; obtain ⟨a2, b2⟩ := k2.read; have zl := k2.lt)); (try (have zk := k3.lt; (first | ((with_reducible refine Blk.keepG hb k3 (fun h => ?_) ?_); (focus ((repeat' (first | (with_reducible assumption) | ((with_reducible refine Blk.new ?_); first | rfl | (simp; done)) | (with_reducible refine Blk.later (by assumption) ?_) | (with_reducible refine Blk.alloc ?_) | (with_reducible refine Blk.drewN ?_) | (with_reducible refine Blk.drew ?_) | (with_reducible refine Blk.other ?_ (by first | omega | (simp; done) | (simp; omega))))); done)); clear k3; intro k3) | (with_reducible replace k3 := Blk.later hb (Blk.set (Blk.set k3))) | (with_reducible replace k3 := Blk.later hb (Blk.set k3))); clear a3 b3; obtain ⟨a3, b3⟩ := k3.read; have zl := k3.lt)); (try (have zk := k4.lt; (first | ((with_reducible refine Blk.keepG hb k4 (fun h => ?_) ?_); (focus ((repeat' (first | (with_reducible assumption) | ((with_reducible refine Blk.new ?_); first | rfl | (simp; done)) | (with_reducible refine Blk.later (by assumption) ?_) | (with_reducible refine Blk.alloc ?_) | (with_reducible refine Blk.drewN ?_) | (with_reducible refine Blk.drew ?_) | (with_reducible refine Blk.other ?_ (by first | omega | (simp; done) | (simp; omega))))); done)); clear k4; intro k4) | (with_reducible replace k4 := Blk.later hb (Blk.set (Blk.set k4))) | (with_reducible replace k4 := Blk.later hb (Blk.set k4))); clear a4 b4; obtain ⟨a4, b4⟩ := k4.read; have zl := k4.lt)); (try (have zk := k5.lt; (first | ((with_reducible refine Blk.keepG hb k5 (fun h => ?_) ?_); (focus ((repeat' (first | (with_reducible assumption) | ((with_reducible refine Blk.new ?_); first | rfl | (simp; done)) | (with_reducible refine Blk.later (by assumption) ?_) | (with_reducible refine Blk.alloc ?_) | (with_reducible refine Blk.drewN ?_) | (with_reducible refine Blk.drew ?_) | (with_reducible refine Blk.other ?_ (by first | omega | (simp; done) | (simp; omega))))); done)); clear k5; intro k5) | (with_reducible replace k5 := Blk.later hb (Blk.set (Blk.set k5))) | (with_reducible replace k5 := Blk.later hb (Blk.set k5))); clear a5 b5; obtain ⟨a5, b5⟩ := k5.read; have zl := k5.lt)))))
      | (go_at_call 69; (with_reducible refine (HT.out _).mono ?_); rintro e w1 ⟨rfl, rfl⟩))
    exact bodyPost_ret (v := .tuple #[.agg #[.int .i64 0, .int .i64 0], .int .i64 2]) (by simp only [results, Try.results41]; go_simp) rfl ⟨rfl, by (repeat' (first | (with_reducible exact Below.refl _ _) | (with_reducible assumption) | (with_reducible refine belowThru ?_ (by assumption)) | (with_reducible refine belowAlloc ?_) | (with_reducible refine Below.setCell ?_ (by first | omega | (simp; done) | (simp; omega)) _) | (with_reducible refine Below.drew ?_) | (with_reducible refine below_drewN ?_ _)))⟩

theorem mkR_of (x : Rat) (N D : Int) (hD : 1 ≤ D) (h : x * (D : Rat) = (N : Rat)) : x = mkR N D := by
  rw [mkR_div]
  have := int_pos (show 0 < D by omega)
  grind
/-- The number that the code asks Make for is the place. -/
theorem nArg_place {p s t : Int} {q : List Int} {k : Nat} (hq : V8 q) (hs : s = 1 ∨ s = -1) (hp : 0 ≤ p ∧ p < 64) (hl : q.length ≤ 64) (h : fb t q = some k) :
    ((p : Rat) + (s : Rat) * pl t q k = mkR (nArg p s t q k).1 (nArg p s t q k).2) ∧ 1 ≤ (nArg p s t q k).2 ∧ (nArg p s t q k).2 ≤ 255 ∧ -40000 ≤ (nArg p s t q k).1 ∧ (nArg p s t q k).1 ≤ 40000 := by
  cases k with
  | zero =>
    have e : nArg p s t q 0 = (p, 1) := if_pos rfl
    rw [e, pl_zero]
    refine ⟨mkR_of _ _ _ (show (1 : Int) ≤ 1 by omega) ?_, show (1 : Int) ≤ 1 by omega, show (1 : Int) ≤ 255 by omega, by show -40000 ≤ p; omega, by show p ≤ 40000; omega⟩
    rw [Rat.mul_zero, Rat.add_zero]; exact Rat.mul_one _
  | succ k =>
    obtain ⟨v, u, hv, hu, h1, h2⟩ := fb_step h
    have b1 := hq v (List.mem_of_getElem? hv)
    have b2 := hq u (List.mem_of_getElem? hu)
    have hlt := fb_lt h
    have e : nArg p s t q (k + 1) = ((p + s * ((k + 1 : Nat) : Int)) * (v - u) - s * (v - t), v - u) := by
      unfold nArg
      rw [if_neg (by omega), Nat.add_sub_cancel, hv, hu]; rfl
    rw [e, pl_succ t q k hv hu]
    have hj : -64 ≤ p + s * ((k + 1 : Nat) : Int) ∧ p + s * ((k + 1 : Nat) : Int) ≤ 128 := by rcases hs with rfl | rfl <;> push_cast <;> omega
    have m1 := mul_bound (p + s * ((k + 1 : Nat) : Int)) (v - u) 128 255 (by omega) (by omega) (by omega) (by omega)
    have m2 := mul_bound s (v - t) 1 255 (by omega) (by omega) (by omega) (by omega)
    refine ⟨mkR_of _ _ _ (show 1 ≤ v - u by omega) ?_, show 1 ≤ v - u by omega, show v - u ≤ 255 by omega, ?_, ?_⟩
    · have hr := int_pos (show 0 < v - u by omega)
      show ((p : Rat) + (s : Rat) * ((((k : Int) : Rat) + 1) - ((v - t : Int) : Rat) / ((v - u : Int) : Rat))) * ((v - u : Int) : Rat) = (((p + s * ((k + 1 : Nat) : Int)) * (v - u) - s * (v - t) : Int) : Rat)
      have e2 : (((p + s * ((k + 1 : Nat) : Int)) * (v - u) - s * (v - t) : Int) : Rat) = ((p : Rat) + (s : Rat) * (((k : Int) : Rat) + 1)) * ((v - u : Int) : Rat) - (s : Rat) * ((v - t : Int) : Rat) := by
        rw [Rat.intCast_sub, Rat.intCast_mul, Rat.intCast_add, Rat.intCast_mul, Rat.intCast_mul, Int.natCast_add, Rat.intCast_add]; rfl
      rw [e2]
      generalize ((v - u : Int) : Rat) = r at *
      generalize ((v - t : Int) : Rat) = z at *
      have : z / r * r = z := by grind
      grind
    · show -40000 ≤ (p + s * ((k + 1 : Nat) : Int)) * (v - u) - s * (v - t); omega
    · show (p + s * ((k + 1 : Nat) : Int)) * (v - u) - s * (v - t) ≤ 40000; omega
theorem mAB_of {n d : Int} (hd : 1 ≤ d) (hd2 : d ≤ 255) (h1 : -40000 ≤ n) (h2 : n ≤ 40000) : mA n d = fn (mkR n d) ∧ mB n d = fd (mkR n d) ∧ mE n d = 0 := by
  have hf := mkR_fits' n d (by omega) (by omega) (by omega) (by omega) (by omega)
  unfold mA mB mE rn rd re
  have h0 : ¬ d = 0 := by omega
  simp only [if_neg h0, if_pos hf]
  exact ⟨trivial, trivial, trivial⟩
end Go.Proofs.Ytdimmnoflenfhaa
/-
  Layer 5: First and Last for any arguments.
-/
namespace Go.Proofs.Ytdimmnoflenfhaa
open Go.RowKit Go.Shelf
set_option linter.unusedVariables false
set_option linter.unusedSimpArgs false

theorem near_ok (t : Int) (p : Nat) (s : Int) (a : Option Addr) (n c : Nat) (zs q : List Int) (hz : okP zs) (hl : zs.length = n) (ht : okT t) (hs : s = 1 ∨ s = -1) (hp : p < n) (hw : IsWay zs n p s q) (hq : V8 q) (o : Option Rat) (ho : o = (br t q).map fun d => ((p : Int) : Rat) + (s : Rat) * d) (w : World) (hR : Row w a n (iv zs)) :
    Calls Try.prog 41 #[.slice a n c, .int .i64 t, .int .i64 p, .int .i64 s] w fun e w' => e = .returned (.tuple #[.agg #[.int .i64 (oN o), .int .i64 (oD o)], .int .i64 (if o.isSome then 0 else 6)]) ∧ Below w.heap.size w w' := by
  have h := (callsIn_wide (n := 9)).1 (near_in 9 (by omega) t p s a n c zs q hz hl ht hs hp hw w hR)
  subst ho
  unfold br
  cases hf : fb t q with
  | none => rw [hf] at h; exact h
  | some k =>
    rw [hf] at h
    obtain ⟨e, d1, d2, n1, n2⟩ := nArg_place (p := p) (s := s) hq hs ⟨by omega, by have := hz.1.2; omega⟩ hw.2.2 hf
    obtain ⟨e1, e2, e3⟩ := mAB_of d1 d2 n1 n2
    have f1 : nA p s t q (some k) = fn (mkR (nArg p s t q k).1 (nArg p s t q k).2) := e1
    have f2 : nB p s t q (some k) = fd (mkR (nArg p s t q k).1 (nArg p s t q k).2) := e2
    have f3 : nE p s t q (some k) = 0 := e3
    rw [f1, f2, f3, ← e] at h
    exact h
theorem FX_way (t : Int) (zs : List Int) (p : Nat) : FX t zs p = (br t (zs.drop p)).map fun d => ((p : Int) : Rat) + ((1 : Int) : Rat) * d := by
  unfold FX
  congr 1
  funext d
  rw [show ((1 : Int) : Rat) = 1 from rfl, Rat.one_mul]
theorem LX_way (t : Int) (zs : List Int) (p : Nat) : LX t zs p = (br t (zs.take (p + 1)).reverse).map fun d => ((p : Int) : Rat) + ((-1 : Int) : Rat) * d := by
  unfold LX
  congr 1
  funext d
  rw [show ((-1 : Int) : Rat) = -1 from rfl]
  grind
theorem near_first (a : Option Addr) (n c : Nat) (zs : List Int) (t p : Int) (hn : n ≤ maxLen) (w : World) (hR : Row w a n (iv zs)) :
    Calls Try.prog 41 #[.slice a n c, .int .i64 t, .int .i64 p, .int .i64 1] w fun e w' => e = .returned (.tuple #[.agg #[.int .i64 (oN (fiO t zs p)), .int .i64 (oD (fiO t zs p))], .int .i64 (fiE t zs p)]) ∧ Below w.heap.size w w' := by
  have hl : zs.length = n := by have := hR.1; rwa [iv_length] at this
  unfold fiO fiE
  by_cases hz : okP zs
  · by_cases h : okT t ∧ inL zs p
    · rw [if_pos ⟨hz, h⟩, asE_ok hz h]
      obtain ⟨P, rfl⟩ := Int.eq_ofNat_of_zero_le h.2.1
      have hp : P < zs.length := by have := h.2.2; omega
      rw [Int.toNat_natCast]
      exact near_ok t P 1 a n c zs (zs.drop P) hz hl h.1 (.inl rfl) (by omega) (by rw [← hl]; exact isWay_first zs P hz.1.2) (hz.2.drop P) _ (FX_way t zs P) w hR
    · rw [if_neg (fun k => h k.2), asE_arg hz h]
      exact near_arg a n c zs t p 1 hn hl hz h w hR
  · rw [if_neg (fun k => hz k.1), asE_no hz]
    exact near_profile a n c zs t p 1 hn hz w hR
theorem near_last (a : Option Addr) (n c : Nat) (zs : List Int) (t p : Int) (hn : n ≤ maxLen) (w : World) (hR : Row w a n (iv zs)) :
    Calls Try.prog 41 #[.slice a n c, .int .i64 t, .int .i64 p, .int .i64 (-1)] w fun e w' => e = .returned (.tuple #[.agg #[.int .i64 (oN (laO t zs p)), .int .i64 (oD (laO t zs p))], .int .i64 (laE t zs p)]) ∧ Below w.heap.size w w' := by
  have hl : zs.length = n := by have := hR.1; rwa [iv_length] at this
  unfold laO laE
  by_cases hz : okP zs
  · by_cases h : okT t ∧ inL zs p
    · rw [if_pos ⟨hz, h⟩, asE_ok hz h]
      obtain ⟨P, rfl⟩ := Int.eq_ofNat_of_zero_le h.2.1
      have hp : P < zs.length := by have := h.2.2; omega
      rw [Int.toNat_natCast]
      exact near_ok t P (-1) a n c zs _ hz hl h.1 (.inr rfl) (by omega) (by rw [← hl]; exact isWay_last zs P hp hz.1.2) (hz.2.back (P + 1)) _ (LX_way t zs P) w hR
    · rw [if_neg (fun k => h k.2), asE_arg hz h]
      exact near_arg a n c zs t p (-1) hn hl hz h w hR
  · rw [if_neg (fun k => hz k.1), asE_no hz]
    exact near_profile a n c zs t p (-1) hn hz w hR
set_option maxHeartbeats 1000000 in
theorem first_any (a : Option Addr) (n c : Nat) (zs : List Int) (t p : Int) (hn : n ≤ maxLen) (w : World) (hR : Row w a n (iv zs)) :
    Calls Try.prog 9 #[.slice a n c, .int .i64 t, .int .i64 p] w fun e w' => e = .returned (.tuple #[.agg #[.int .i64 (oN (fiO t zs p)), .int .i64 (oD (fiO t zs p))], .int .i64 (fiE t zs p)]) ∧ Below w.heap.size w w' := by
  have HN := Lib.hid (fun w => near_first a n c zs t p hn w)
  have HR := Lib.hid hR
  obtain ⟨A, hA⟩ : ∃ A, oN (fiO t zs p) = A := ⟨_, rfl⟩
  obtain ⟨B, hB⟩ : ∃ B, oD (fiO t zs p) = B := ⟨_, rfl⟩
  obtain ⟨E, hE⟩ : ∃ E, fiE t zs p = E := ⟨_, rfl⟩
  rw [hA, hB, hE] at HN ⊢
  clear hA hB hE hR
  go_enter Try.func9, Try.ntmps9
  go_wp2_with (go_at_call 41; (with_reducible refine (HN.out _ (HR.out.later (by (repeat' (first | (with_reducible exact Below.refl _ _) | (with_reducible assumption) | (with_reducible refine belowThru ?_ (by assumption)) | (with_reducible refine belowAlloc ?_) | (with_reducible refine Below.setCell ?_ (by first | omega | (simp; done) | (simp; omega)) _) | (with_reducible refine Below.drew ?_) | (with_reducible refine below_drewN ?_ _)))))).mono ?_); rintro e w1 ⟨rfl, hb⟩; (first | ((with_reducible have k0 := Blk.later hb (Blk.new rfl)); skip; obtain ⟨a0, b0⟩ := k0.read; have zl := k0.lt) | ((try (have zk := k0.lt; (first | ((with_reducible refine Blk.keepG hb k0 (fun h => ?_) ?_); (focus ((repeat' (first | (with_reducible assumption) | ((with_reducible refine Blk.new ?_); first | rfl | (simp; done)) | (with_reducible refine Blk.later (by assumption) ?_) | (with_reducible refine Blk.alloc ?_) | (with_reducible refine Blk.drewN ?_) | (with_reducible refine Blk.drew ?_) | (with_reducible refine Blk.other ?_ (by first | omega | (simp; done) | (simp; omega))))); done)); clear k0; intro k0) | (with_reducible replace k0 := Blk.later hb (Blk.set (Blk.set k0))) | (with_reducible replace k0 := Blk.later hb (Blk.set k0))); clear a0 b0; obtain ⟨a0, b0⟩ := k0.read; have zl := k0.lt)))))
  exact bodyPost_ret (v := .tuple #[.agg #[.int .i64 A, .int .i64 B], .int .i64 E]) (by simp only [results, Try.results9]; go_simp) rfl ⟨rfl, by (repeat' (first | (with_reducible exact Below.refl _ _) | (with_reducible assumption) | (with_reducible refine belowThru ?_ (by assumption)) | (with_reducible refine belowAlloc ?_) | (with_reducible refine Below.setCell ?_ (by first | omega | (simp; done) | (simp; omega)) _) | (with_reducible refine Below.drew ?_) | (with_reducible refine below_drewN ?_ _)))⟩
set_option maxHeartbeats 1000000 in
theorem last_any (a : Option Addr) (n c : Nat) (zs : List Int) (t p : Int) (hn : n ≤ maxLen) (w : World) (hR : Row w a n (iv zs)) :
    Calls Try.prog 11 #[.slice a n c, .int .i64 t, .int .i64 p] w fun e w' => e = .returned (.tuple #[.agg #[.int .i64 (oN (laO t zs p)), .int .i64 (oD (laO t zs p))], .int .i64 (laE t zs p)]) ∧ Below w.heap.size w w' := by
  have HN := Lib.hid (fun w => near_last a n c zs t p hn w)
  have HR := Lib.hid hR
  obtain ⟨A, hA⟩ : ∃ A, oN (laO t zs p) = A := ⟨_, rfl⟩
  obtain ⟨B, hB⟩ : ∃ B, oD (laO t zs p) = B := ⟨_, rfl⟩
  obtain ⟨E, hE⟩ : ∃ E, laE t zs p = E := ⟨_, rfl⟩
  rw [hA, hB, hE] at HN ⊢
  clear hA hB hE hR
  go_enter Try.func11, Try.ntmps11
  go_wp2_with (go_at_call 41; (with_reducible refine (HN.out _ (HR.out.later (by (repeat' (first | (with_reducible exact Below.refl _ _) | (with_reducible assumption) | (with_reducible refine belowThru ?_ (by assumption)) | (with_reducible refine belowAlloc ?_) | (with_reducible refine Below.setCell ?_ (by first | omega | (simp; done) | (simp; omega)) _) | (with_reducible refine Below.drew ?_) | (with_reducible refine below_drewN ?_ _)))))).mono ?_); rintro e w1 ⟨rfl, hb⟩; (first | ((with_reducible have k0 := Blk.later hb (Blk.new rfl)); skip; obtain ⟨a0, b0⟩ := k0.read; have zl := k0.lt) | ((try (have zk := k0.lt; (first | ((with_reducible refine Blk.keepG hb k0 (fun h => ?_) ?_); (focus ((repeat' (first | (with_reducible assumption) | ((with_reducible refine Blk.new ?_); first | rfl | (simp; done)) | (with_reducible refine Blk.later (by assumption) ?_) | (with_reducible refine Blk.alloc ?_) | (with_reducible refine Blk.drewN ?_) | (with_reducible refine Blk.drew ?_) | (with_reducible refine Blk.other ?_ (by first | omega | (simp; done) | (simp; omega))))); done)); clear k0; intro k0) | (with_reducible replace k0 := Blk.later hb (Blk.set (Blk.set k0))) | (with_reducible replace k0 := Blk.later hb (Blk.set k0))); clear a0 b0; obtain ⟨a0, b0⟩ := k0.read; have zl := k0.lt)))))
  exact bodyPost_ret (v := .tuple #[.agg #[.int .i64 A, .int .i64 B], .int .i64 E]) (by simp only [results, Try.results11]; go_simp) rfl ⟨rfl, by (repeat' (first | (with_reducible exact Below.refl _ _) | (with_reducible assumption) | (with_reducible refine belowThru ?_ (by assumption)) | (with_reducible refine belowAlloc ?_) | (with_reducible refine Below.setCell ?_ (by first | omega | (simp; done) | (simp; omega)) _) | (with_reducible refine Below.drew ?_) | (with_reducible refine below_drewN ?_ _)))⟩
end Go.Proofs.Ytdimmnoflenfhaa
/-
  Layer 5: the upper and the lower profile, by the code.
-/
namespace Go.Proofs.Ytdimmnoflenfhaa
open Go.RowKit Go.Shelf
set_option linter.unusedVariables false
set_option linter.unusedSimpArgs false

theorem made_ints (N : Nat) : madeCells #[.int .i64 0] N = ints (List.replicate N 0) := by
  unfold madeCells ints
  apply Array.ext
  · simp
  · intro i h1 h2
    simp [Nat.mod_one]
theorem run_make_ints (N : Nat) (h : N ≤ 1099511627776) (w : World) : (Instr.makeSlice 27 (.int .i64 (N : Int)) (.int .i64 (N : Int))).run Try.prog w = .ok (.slice (some ⟨w.heap.size, 0, none⟩) N N) (w.alloc (.cells (ints (List.replicate N 0)) 3)) := by
  rw [← made_ints]
  exact run_make_row' 27 3 (.int .i64 0) 8 Try.underlying27 (by kernel_rfl) rfl .i64 .i64 N (by omega) (by omega) w
theorem ints_set (zs : List Int) (p : Nat) (v : Int) : (ints zs).setIfInBounds p (.int .i64 v) = ints (zs.set p v) := by
  unfold ints
  apply Array.ext'
  simp [List.map_set]
/-- So many values are written, the others are 0. -/
def partL (ys : List Int) (n k : Nat) : List Int := ys.take k ++ List.replicate (n - k) 0
theorem partL_zero (ys : List Int) (n : Nat) : partL ys n 0 = List.replicate n 0 := by simp [partL]
theorem partL_all (ys : List Int) (n : Nat) (h : ys.length = n) : partL ys n n = ys := by simp [partL, ← h]
theorem partL_length (ys : List Int) (n k : Nat) (h : ys.length = n) (hk : k ≤ n) : (partL ys n k).length = n := by
  unfold partL; rw [List.length_append, List.length_take, List.length_replicate]; omega
theorem partL_set (ys : List Int) (n k : Nat) (h : ys.length = n) (hk : k < n) {v : Int} (hv : ys[k]? = some v) : (partL ys n k).set k v = partL ys n (k + 1) := by
  apply List.ext_getElem?
  intro i
  have hl := partL_length ys n k h (by omega)
  by_cases e : k = i
  · subst e
    rw [List.getElem?_set_self (by omega)]
    unfold partL
    rw [List.getElem?_append_left (by rw [List.length_take]; omega), List.getElem?_take, if_pos (by omega), hv]
  · rw [List.getElem?_set_ne e]
    unfold partL
    by_cases h1 : i < k
    · rw [List.getElem?_append_left (by rw [List.length_take]; omega), List.getElem?_append_left (by rw [List.length_take]; omega), List.getElem?_take, List.getElem?_take, if_pos h1, if_pos (by omega)]
    · rw [List.getElem?_append_right (by rw [List.length_take]; omega), List.getElem?_append_right (by rw [List.length_take]; omega), List.length_take, List.length_take, List.getElem?_replicate, List.getElem?_replicate]
      by_cases h2 : i < n
      · rw [if_pos (by omega), if_pos (by omega)]
      · rw [if_neg (by omega), if_neg (by omega)]

set_option maxRecDepth 100000 in
set_option maxHeartbeats 4000000 in
theorem env_ok (a : Option Addr) (n c : Nat) (zs : List Int) (nz : Int) (f : FuncId) (cap : Array Value) (V : Int → Int) (ef : ∀ args w, (callFunc f args).run Try.prog w = .ok (.enter f args) w)
    (hz : okP zs) (hN : okN nz) (w : World) (hR : Row w a n (iv zs))
    (HV : Hid (∀ (v : Int) (W1 : World), v ∈ zs → Below w.heap.size w W1 → Calls Try.prog f (#[.int .i64 v] ++ cap) W1 fun e W2 => e = .returned (.int .i64 (V v)) ∧ Below W1.heap.size W1 W2)) :
    Calls Try.prog 55 #[.slice a n c, .int .i64 nz, .func (.func f) #[] cap] w fun e w' => ∃ b, e = .returned (.tuple #[.slice (some ⟨b, 0, none⟩) n n, .int .i64 0]) ∧ w.heap.size ≤ b ∧ Blk w' b (ints (zs.map V)) 3 ∧ Below w.heap.size w w' := by
  have hl : zs.length = n := by have := hR.1; rwa [iv_length] at this
  have hn64 : n ≤ 64 := by rw [← hl]; exact hz.1.2
  have HC : Hid (∀ (w : World), Row w a n (iv zs) → Calls Try.prog 26 #[.slice a n c] w fun e w' => e = .returned (.int .i64 0) ∧ Below w.heap.size w w') := fun w hR => by
    have := ckP_any a n c zs (by unfold maxLen; omega) w hR
    rwa [ckP_ok hz] at this
  have HI : Hid (∀ w, Calls Try.prog 70 #[.int .i64 nz] w fun e w' => e = .returned (.bool true) ∧ w = w') := fun w => by
    have := isNoise_any nz w
    rwa [decide_eq_true hN] at this
  have hmk := run_make_ints n (by omega)
  have HR := Lib.hid hR
  obtain ⟨ys, hys⟩ : ∃ ys, zs.map V = ys := ⟨_, rfl⟩
  have HY : Hid (∀ (k : Nat) (v : Int), zs[k]? = some v → ys[k]? = some (V v)) := fun k v h => by rw [← hys, List.getElem?_map, h]; rfl
  have HL : Hid (ys.length = n) := by show ys.length = n; rw [← hys, List.length_map, hl]
  rw [hys]
  clear hys hR hz hN hl
  go_enter Try.func55, Try.ntmps55
  go_wp2_with (first
    | (go_at_call 26; (with_reducible refine (HC.out _ (HR.out.later (by (repeat' (first | (with_reducible exact Below.refl _ _) | (with_reducible assumption) | (with_reducible refine belowThru ?_ (by assumption)) | (with_reducible refine belowAlloc ?_) | (with_reducible refine Below.setCell ?_ (by first | omega | (simp; done) | (simp; omega)) _) | (with_reducible refine Below.drew ?_) | (with_reducible refine below_drewN ?_ _)))))).mono ?_); rintro e wC ⟨rfl, hBC⟩)
    | (go_at_call 70; (with_reducible refine (HI.out _).mono ?_); rintro e w1 ⟨rfl, rfl⟩))
  obtain ⟨W0, hW0⟩ : ∃ W0, wC.alloc (.cells (ints (List.replicate n 0)) 3) = W0 := ⟨_, rfl⟩
  have k0 : Blk W0 wC.heap.size (ints (List.replicate n 0)) 3 := by rw [← hW0]; exact Blk.new rfl
  have hB0 : Below w.heap.size w W0 := by rw [← hW0]; (repeat' (first | (with_reducible exact Below.refl _ _) | (with_reducible assumption) | (with_reducible refine belowThru ?_ (by assumption)) | (with_reducible refine belowAlloc ?_) | (with_reducible refine Below.setCell ?_ (by first | omega | (simp; done) | (simp; omega)) _) | (with_reducible refine Below.drew ?_) | (with_reducible refine below_drewN ?_ _)))
  obtain ⟨b, hb⟩ : ∃ b, wC.heap.size = b := ⟨_, rfl⟩
  have hbw : w.heap.size ≤ b := by rw [← hb]; exact hBC.size
  rw [hW0]
  rw [hb] at k0 ⊢
  clear hW0 hb hmk hBC
  rw [← partL_zero ys n] at k0
  go_loopw [25] (fun i wr => ∃ k : Nat, k ≤ n ∧ i = .int .i64 k ∧ Blk wr b (ints (partL ys n k)) 3 ∧ Below w.heap.size w wr) (fun i _ => n - (intOf i).toNat)
  case atStart => exact ⟨0, Nat.zero_le _, rfl, k0, hB0⟩
  case round =>
    clear k0 hB0
    obtain ⟨k, hk, rfl, k0, hB⟩ := hrel
    by_cases hlt : k < n
    · obtain ⟨bb, oo, v, rfl, hbb, hv, cv⟩ := HR.out.int hlt
      have cv := cell_later hB cv
      have p0 : (0 : Int) ≤ (k : Int) := by omega
      have p1 : (k : Int) < (n : Int) := by omega
      have HV1 := Lib.hid (fun W1 => HV.out v W1 (List.mem_of_getElem? hv))
      have hs := Lib.hid (partL_set ys n k HL.out hlt (HY.out k v hv))
      obtain ⟨z0, hz0⟩ : ∃ z0, (ints (partL ys n k))[k]? = some (.int .i64 z0) := ⟨(partL ys n k)[k]'(by rw [partL_length _ _ _ HL.out hk]; exact hlt), by rw [ints_get, List.getElem?_eq_getElem (by rw [partL_length _ _ _ HL.out hk]; exact hlt)]; rfl⟩
      clear hv
      go_wp2_with (go_at_fn f; (with_reducible refine (HV1.out _ hB).mono ?_); rintro e wA ⟨rfl, hA⟩; have k1 := Blk.later hA k0; obtain ⟨a1, b1⟩ := k1.read; have hBA := belowThru hB hA)
      go_roundw
      case rel =>
        refine ⟨k + 1, hlt, by go_num, ?_, ?_⟩
        · rw [← hs.out, ← ints_set]; exact Blk.set k1
        · exact hBA.setCell (p := ⟨b, k, none⟩) hbw _
      case measure => simp [intOf]; omega
    · obtain rfl : k = n := by omega
      rw [partL_all ys k HL.out] at k0
      go_wp2
      exact bodyPost_ret (v := .tuple #[.slice (some ⟨b, 0, none⟩) k k, .int .i64 0]) (by simp only [results, Try.results55]; go_simp) rfl ⟨b, rfl, hbw, k0, hB⟩

def upV (n v : Int) : Int := if 255 ≤ v + n then 255 else v + n
def lwV (n v : Int) : Int := if v - n ≤ 0 then 0 else v - n
set_option maxHeartbeats 1000000 in
theorem up1_any (n v : Int) (B : Nat) (h0 : 0 ≤ v) (h1 : v ≤ 255) (n0 : 0 ≤ n) (n1 : n ≤ 64) (w : World) (hc : w.cell? ⟨B, 0, none⟩ = some (.int .i64 n)) :
    Calls Try.prog 56 #[.int .i64 v, .pointer (some ⟨B, 0, none⟩)] w fun e w' => e = .returned (.int .i64 (upV n v)) ∧ Below w.heap.size w w' := by
  have e1 : IntKind.i64.wrap (v + n) = v + n := IntWalk.i64_in _ (by omega)
  have e2 : min 255 (v + n) = upV n v := by unfold upV; omega
  rw [← e2]
  clear e2
  go_enter Try.func56, Try.ntmps56
  go_wp2
  go_ret
  exact ⟨rfl, Below.refl _ _⟩
set_option maxHeartbeats 1000000 in
theorem lw1_any (n v : Int) (B : Nat) (h0 : 0 ≤ v) (h1 : v ≤ 255) (n0 : 0 ≤ n) (n1 : n ≤ 64) (w : World) (hc : w.cell? ⟨B, 0, none⟩ = some (.int .i64 n)) :
    Calls Try.prog 58 #[.int .i64 v, .pointer (some ⟨B, 0, none⟩)] w fun e w' => e = .returned (.int .i64 (lwV n v)) ∧ Below w.heap.size w w' := by
  have e1 : IntKind.i64.wrap (v - n) = v - n := IntWalk.i64_in _ (by omega)
  have e2 : max 0 (v - n) = lwV n v := by unfold lwV; omega
  rw [← e2]
  clear e2
  go_enter Try.func58, Try.ntmps58
  go_wp2
  go_ret
  exact ⟨rfl, Below.refl _ _⟩
set_option maxHeartbeats 2000000 in
theorem up_ok (a : Option Addr) (n c : Nat) (zs : List Int) (nz : Int) (hz : okP zs) (hN : okN nz) (w : World) (hR : Row w a n (iv zs)) :
    Calls Try.prog 22 #[.slice a n c, .int .i64 nz] w fun e w' => ∃ b, e = .returned (.tuple #[.slice (some ⟨b, 0, none⟩) n n, .int .i64 0]) ∧ w.heap.size ≤ b ∧ Blk w' b (ints (upL nz zs)) 3 ∧ Below w.heap.size w w' := by
  have HR := Lib.hid hR
  have HE : Hid (∀ (B : Nat) (w : World), B < w.heap.size → w.cell? ⟨B, 0, none⟩ = some (.int .i64 nz) → Row w a n (iv zs) → Calls Try.prog 55 #[.slice a n c, .int .i64 nz, .func (.func 56) #[] #[.pointer (some ⟨B, 0, none⟩)]] w fun e w' => ∃ b, e = .returned (.tuple #[.slice (some ⟨b, 0, none⟩) n n, .int .i64 0]) ∧ w.heap.size ≤ b ∧ Blk w' b (ints (upL nz zs)) 3 ∧ Below w.heap.size w w') := fun B w hB hc hR =>
    env_ok a n c zs nz 56 #[.pointer (some ⟨B, 0, none⟩)] (upV nz) (enters_of Try.func56 (by kernel_rfl) rfl) hz hN w hR (fun v W1 hv hb => up1_any nz v B (hz.2 v hv).1 (hz.2 v hv).2 hN.1 hN.2 W1 (cell_later hb hc))
  clear hR hz hN
  go_enter Try.func22, Try.ntmps22
  go_wp2_with (go_at_call 55; (with_reducible refine (HE.out _ _ (by simp) (by simp [go_sem]) (HR.out.later (by (repeat' (first | (with_reducible exact Below.refl _ _) | (with_reducible assumption) | (with_reducible refine belowThru ?_ (by assumption)) | (with_reducible refine belowAlloc ?_) | (with_reducible refine Below.setCell ?_ (by first | omega | (simp; done) | (simp; omega)) _) | (with_reducible refine Below.drew ?_) | (with_reducible refine below_drewN ?_ _)))))).mono ?_); rintro e w1 ⟨b, rfl, hbw, kb, hb⟩)
  exact bodyPost_ret (v := .tuple #[.slice (some ⟨b, 0, none⟩) n n, .int .i64 0]) (by simp only [results, Try.results22]; go_simp) rfl ⟨b, rfl, by simp at hbw; omega, kb, by (repeat' (first | (with_reducible exact Below.refl _ _) | (with_reducible assumption) | (with_reducible refine belowThru ?_ (by assumption)) | (with_reducible refine belowAlloc ?_) | (with_reducible refine Below.setCell ?_ (by first | omega | (simp; done) | (simp; omega)) _) | (with_reducible refine Below.drew ?_) | (with_reducible refine below_drewN ?_ _)))⟩
set_option maxHeartbeats 2000000 in
theorem lw_ok (a : Option Addr) (n c : Nat) (zs : List Int) (nz : Int) (hz : okP zs) (hN : okN nz) (w : World) (hR : Row w a n (iv zs)) :
    Calls Try.prog 24 #[.slice a n c, .int .i64 nz] w fun e w' => ∃ b, e = .returned (.tuple #[.slice (some ⟨b, 0, none⟩) n n, .int .i64 0]) ∧ w.heap.size ≤ b ∧ Blk w' b (ints (lwL nz zs)) 3 ∧ Below w.heap.size w w' := by
  have HR := Lib.hid hR
  have HE : Hid (∀ (B : Nat) (w : World), B < w.heap.size → w.cell? ⟨B, 0, none⟩ = some (.int .i64 nz) → Row w a n (iv zs) → Calls Try.prog 55 #[.slice a n c, .int .i64 nz, .func (.func 58) #[] #[.pointer (some ⟨B, 0, none⟩)]] w fun e w' => ∃ b, e = .returned (.tuple #[.slice (some ⟨b, 0, none⟩) n n, .int .i64 0]) ∧ w.heap.size ≤ b ∧ Blk w' b (ints (lwL nz zs)) 3 ∧ Below w.heap.size w w') := fun B w hB hc hR =>
    env_ok a n c zs nz 58 #[.pointer (some ⟨B, 0, none⟩)] (lwV nz) (enters_of Try.func58 (by kernel_rfl) rfl) hz hN w hR (fun v W1 hv hb => lw1_any nz v B (hz.2 v hv).1 (hz.2 v hv).2 hN.1 hN.2 W1 (cell_later hb hc))
  clear hR hz hN
  go_enter Try.func24, Try.ntmps24
  go_wp2_with (go_at_call 55; (with_reducible refine (HE.out _ _ (by simp) (by simp [go_sem]) (HR.out.later (by (repeat' (first | (with_reducible exact Below.refl _ _) | (with_reducible assumption) | (with_reducible refine belowThru ?_ (by assumption)) | (with_reducible refine belowAlloc ?_) | (with_reducible refine Below.setCell ?_ (by first | omega | (simp; done) | (simp; omega)) _) | (with_reducible refine Below.drew ?_) | (with_reducible refine below_drewN ?_ _)))))).mono ?_); rintro e w1 ⟨b, rfl, hbw, kb, hb⟩)
  exact bodyPost_ret (v := .tuple #[.slice (some ⟨b, 0, none⟩) n n, .int .i64 0]) (by simp only [results, Try.results24]; go_simp) rfl ⟨b, rfl, by simp at hbw; omega, kb, by (repeat' (first | (with_reducible exact Below.refl _ _) | (with_reducible assumption) | (with_reducible refine belowThru ?_ (by assumption)) | (with_reducible refine belowAlloc ?_) | (with_reducible refine Below.setCell ?_ (by first | omega | (simp; done) | (simp; omega)) _) | (with_reducible refine Below.drew ?_) | (with_reducible refine below_drewN ?_ _)))⟩
set_option maxHeartbeats 2000000 in
theorem env_no (a : Option Addr) (n c : Nat) (zs : List Int) (nz : Int) (f : FuncId) (cap : Array Value) (hn : n ≤ maxLen) (h : ¬ (okP zs ∧ okN nz)) (w : World) (hR : Row w a n (iv zs)) :
    Calls Try.prog 55 #[.slice a n c, .int .i64 nz, .func (.func f) #[] cap] w fun e w' => e = .returned (.tuple #[.slice none 0 0, .int .i64 (if okP zs then 2 else 50)]) ∧ Below w.heap.size w w' := by
  have HC : Hid (∀ (w : World), Row w a n (iv zs) → Calls Try.prog 26 #[.slice a n c] w fun e w' => e = .returned (.int .i64 (ckP zs)) ∧ Below w.heap.size w w') := fun w hR => ckP_any a n c zs hn w hR
  have HR := Lib.hid hR
  clear hR
  by_cases hz : okP zs
  · have HI : Hid (∀ w, Calls Try.prog 70 #[.int .i64 nz] w fun e w' => e = .returned (.bool false) ∧ w = w') := fun w => by
      have := isNoise_any nz w
      rwa [decide_eq_false (fun k => h ⟨hz, k⟩)] at this
    rw [ckP_ok hz] at HC
    rw [if_pos hz]
    clear h hz
    go_enter Try.func55, Try.ntmps55
    go_wp2_with (first
      | (go_at_call 26; (with_reducible refine (HC.out _ (HR.out.later (by (repeat' (first | (with_reducible exact Below.refl _ _) | (with_reducible assumption) | (with_reducible refine belowThru ?_ (by assumption)) | (with_reducible refine belowAlloc ?_) | (with_reducible refine Below.setCell ?_ (by first | omega | (simp; done) | (simp; omega)) _) | (with_reducible refine Below.drew ?_) | (with_reducible refine below_drewN ?_ _)))))).mono ?_); rintro e wC ⟨rfl, hBC⟩)
      | (go_at_call 70; (with_reducible refine (HI.out _).mono ?_); rintro e w1 ⟨rfl, rfl⟩))
    exact bodyPost_ret (v := .tuple #[.slice none 0 0, .int .i64 2]) (by simp only [results, Try.results55]; go_simp) rfl ⟨rfl, by (repeat' (first | (with_reducible exact Below.refl _ _) | (with_reducible assumption) | (with_reducible refine belowThru ?_ (by assumption)) | (with_reducible refine belowAlloc ?_) | (with_reducible refine Below.setCell ?_ (by first | omega | (simp; done) | (simp; omega)) _) | (with_reducible refine Below.drew ?_) | (with_reducible refine below_drewN ?_ _)))⟩
  · rw [ckP_no hz] at HC
    rw [if_neg hz]
    clear h hz
    go_enter Try.func55, Try.ntmps55
    go_wp2_with (go_at_call 26; (with_reducible refine (HC.out _ (HR.out.later (by (repeat' (first | (with_reducible exact Below.refl _ _) | (with_reducible assumption) | (with_reducible refine belowThru ?_ (by assumption)) | (with_reducible refine belowAlloc ?_) | (with_reducible refine Below.setCell ?_ (by first | omega | (simp; done) | (simp; omega)) _) | (with_reducible refine Below.drew ?_) | (with_reducible refine below_drewN ?_ _)))))).mono ?_); rintro e wC ⟨rfl, hBC⟩)
    exact bodyPost_ret (v := .tuple #[.slice none 0 0, .int .i64 50]) (by simp only [results, Try.results55]; go_simp) rfl ⟨rfl, by (repeat' (first | (with_reducible exact Below.refl _ _) | (with_reducible assumption) | (with_reducible refine belowThru ?_ (by assumption)) | (with_reducible refine belowAlloc ?_) | (with_reducible refine Below.setCell ?_ (by first | omega | (simp; done) | (simp; omega)) _) | (with_reducible refine Below.drew ?_) | (with_reducible refine below_drewN ?_ _)))⟩
set_option maxHeartbeats 2000000 in
theorem up_no (a : Option Addr) (n c : Nat) (zs : List Int) (nz : Int) (hn : n ≤ maxLen) (h : ¬ (okP zs ∧ okN nz)) (w : World) (hR : Row w a n (iv zs)) :
    Calls Try.prog 22 #[.slice a n c, .int .i64 nz] w fun e w' => e = .returned (.tuple #[.slice none 0 0, .int .i64 (if okP zs then 2 else 50)]) ∧ Below w.heap.size w w' := by
  have HR := Lib.hid hR
  have HE := Lib.hid (fun f cap w => env_no a n c zs nz f cap hn h w)
  obtain ⟨E, hE⟩ : ∃ E : Int, (if okP zs then 2 else 50) = E := ⟨_, rfl⟩
  rw [hE] at HE ⊢
  clear hR h hE
  go_enter Try.func22, Try.ntmps22
  go_wp2_with (go_at_call 55; (with_reducible refine (HE.out _ _ _ (HR.out.later (by (repeat' (first | (with_reducible exact Below.refl _ _) | (with_reducible assumption) | (with_reducible refine belowThru ?_ (by assumption)) | (with_reducible refine belowAlloc ?_) | (with_reducible refine Below.setCell ?_ (by first | omega | (simp; done) | (simp; omega)) _) | (with_reducible refine Below.drew ?_) | (with_reducible refine below_drewN ?_ _)))))).mono ?_); rintro e w1 ⟨rfl, hb⟩)
  exact bodyPost_ret (v := .tuple #[.slice none 0 0, .int .i64 E]) (by simp only [results, Try.results22]; go_simp) rfl ⟨rfl, by (repeat' (first | (with_reducible exact Below.refl _ _) | (with_reducible assumption) | (with_reducible refine belowThru ?_ (by assumption)) | (with_reducible refine belowAlloc ?_) | (with_reducible refine Below.setCell ?_ (by first | omega | (simp; done) | (simp; omega)) _) | (with_reducible refine Below.drew ?_) | (with_reducible refine below_drewN ?_ _)))⟩
end Go.Proofs.Ytdimmnoflenfhaa
/-
  Layer 5: the span between what is read from the upper and from the lower profile, by the code.
-/
namespace Go.Proofs.Ytdimmnoflenfhaa
open Go.RowKit Go.Shelf
set_option linter.unusedVariables false
set_option linter.unusedSimpArgs false

set_option maxHeartbeats 1000000 in
theorem point_any (a b : Int) (w : World) :
    Calls Try.prog 75 #[.agg #[.int .i64 a, .int .i64 b]] w fun e w' => e = .returned (.agg #[.int .i64 a, .int .i64 b, .int .i64 a, .int .i64 b]) ∧ Below w.heap.size w w' := by
  go_enter Try.func75, Try.ntmps75
  go_wp2
  exact bodyPost_ret (v := .agg #[.int .i64 a, .int .i64 b, .int .i64 a, .int .i64 b]) (by simp only [results, Try.results75]; go_simp) rfl ⟨rfl, by (repeat' (first | (with_reducible exact Below.refl _ _) | (with_reducible assumption) | (with_reducible refine belowThru ?_ (by assumption)) | (with_reducible refine belowAlloc ?_) | (with_reducible refine Below.setCell ?_ (by first | omega | (simp; done) | (simp; omega)) _) | (with_reducible refine Below.drew ?_) | (with_reducible refine below_drewN ?_ _)))⟩
/-- The lesser and the greater one of two numbers. -/
def lo2 (x y : Rat) : Rat := if y < x then y else x
def hi2 (x y : Rat) : Rat := if x < y then y else x
theorem lo2_le {x y : Rat} (h : x ≤ y) : lo2 x y = x := if_neg (Rat.not_lt.2 h)
theorem hi2_le {x y : Rat} (h : x ≤ y) : hi2 x y = y := by
  unfold hi2
  by_cases k : x < y
  · rw [if_pos k]
  · rw [if_neg k]; exact Rat.le_antisymm h (Rat.not_lt.1 k)
theorem lo2_ge {x y : Rat} (h : y ≤ x) : lo2 x y = y := by
  unfold lo2
  by_cases k : y < x
  · rw [if_pos k]
  · rw [if_neg k]; exact Rat.le_antisymm (Rat.not_lt.1 k) h
theorem hi2_ge {x y : Rat} (h : y ≤ x) : hi2 x y = x := if_neg (Rat.not_lt.2 h)
theorem loQ_two (x y : Rat) : loQ x [x, y, y] = lo2 x y := by
  unfold loQ lo2; simp only [List.foldl_cons, List.foldl_nil]; grind
theorem hiQ_two (x y : Rat) : hiQ x [x, y, y] = hi2 x y := by
  unfold hiQ hi2; simp only [List.foldl_cons, List.foldl_nil]; grind
theorem join_two (x y : Rat) (fx : fits x) (fy : fits y) (w : World) :
    Calls Try.prog 74 #[.agg #[.int .i64 (fn x), .int .i64 (fd x), .int .i64 (fn x), .int .i64 (fd x)], .agg #[.int .i64 (fn y), .int .i64 (fd y), .int .i64 (fn y), .int .i64 (fd y)]] w fun e w' => e = .returned (.tuple #[.agg #[.int .i64 (fn (lo2 x y)), .int .i64 (fd (lo2 x y)), .int .i64 (fn (hi2 x y)), .int .i64 (fd (hi2 x y))], .int .i64 0]) ∧ Below w.heap.size w w' := by
  have := join_q x x y y fx fx fy fy Rat.le_refl Rat.le_refl w
  rwa [loQ_two, hiQ_two] at this

set_option maxHeartbeats 2000000 in
theorem encl_no (a : Option Addr) (n c : Nat) (zs : List Int) (nz : Int) (f : FuncId) (cap : Array Value) (hn : n ≤ maxLen) (h : ¬ (okP zs ∧ okN nz)) (w : World) (hR : Row w a n (iv zs)) :
    Calls Try.prog 42 #[.slice a n c, .int .i64 nz, .func (.func f) #[] cap] w fun e w' => e = .returned (.tuple #[.agg #[.int .i64 0, .int .i64 0, .int .i64 0, .int .i64 0], .int .i64 (if okP zs then 2 else 50)]) ∧ Below w.heap.size w w' := by
  have HU := Lib.hid (fun w => up_no a n c zs nz hn h w)
  have HR := Lib.hid hR
  obtain ⟨E, hE⟩ : ∃ E : Int, (if okP zs then 2 else 50) = E := ⟨_, rfl⟩
  have h0 : (E != 0) = true := by rw [← hE]; split <;> rfl
  rw [hE] at HU ⊢
  clear hR h hE
  go_enter Try.func42, Try.ntmps42
  go_wp2_with fail
  refine (HU.out _ (HR.out.later (by (repeat' (first | (with_reducible exact Below.refl _ _) | (with_reducible assumption) | (with_reducible refine belowThru ?_ (by assumption)) | (with_reducible refine belowAlloc ?_) | (with_reducible refine Below.setCell ?_ (by first | omega | (simp; done) | (simp; omega)) _) | (with_reducible refine Below.drew ?_) | (with_reducible refine below_drewN ?_ _)))))).mono ?_
  rintro e w1 ⟨rfl, hb⟩
  have k0 : Blk w1 w.heap.size #[.int .i64 0, .int .i64 0, .int .i64 0, .int .i64 0] 30 := Blk.later hb (by (repeat' (first | (with_reducible assumption) | ((with_reducible refine Blk.new ?_); first | rfl | (simp; done)) | (with_reducible refine Blk.later (by assumption) ?_) | (with_reducible refine Blk.alloc ?_) | (with_reducible refine Blk.drewN ?_) | (with_reducible refine Blk.drew ?_) | (with_reducible refine Blk.other ?_ (by first | omega | (simp; done) | (simp; omega))))))
  obtain ⟨a0, b0⟩ := k0.read
  go_wp2
  exact bodyPost_ret (v := .tuple #[.agg #[.int .i64 0, .int .i64 0, .int .i64 0, .int .i64 0], .int .i64 E]) (by simp only [results, Try.results42]; go_simp) rfl ⟨rfl, by (repeat' (first | (with_reducible exact Below.refl _ _) | (with_reducible assumption) | (with_reducible refine belowThru ?_ (by assumption)) | (with_reducible refine belowAlloc ?_) | (with_reducible refine Below.setCell ?_ (by first | omega | (simp; done) | (simp; omega)) _) | (with_reducible refine Below.drew ?_) | (with_reducible refine below_drewN ?_ _)))⟩
set_option maxRecDepth 100000 in
set_option maxHeartbeats 4000000 in
theorem encl_none (a : Option Addr) (n c : Nat) (zs : List Int) (nz : Int) (f : FuncId) (cap : Array Value) (ef : ∀ args w, (callFunc f args).run Try.prog w = .ok (.enter f args) w) (hz : okP zs) (hN : okN nz) (EL : Int) (hE : (EL != 0) = true) (w : World) (hR : Row w a n (iv zs))
    (HL : Hid (∀ (b : Nat) (W : World), Below w.heap.size w W → Blk W b (ints (lwL nz zs)) 3 → Calls Try.prog f (#[.slice (some ⟨b, 0, none⟩) n n] ++ cap) W fun e W2 => e = .returned (.tuple #[.agg #[.int .i64 0, .int .i64 0], .int .i64 EL]) ∧ Below W.heap.size W W2)) :
    Calls Try.prog 42 #[.slice a n c, .int .i64 nz, .func (.func f) #[] cap] w fun e w' => e = .returned (.tuple #[.agg #[.int .i64 0, .int .i64 0, .int .i64 0, .int .i64 0], .int .i64 EL]) ∧ Below w.heap.size w w' := by
  have HU := Lib.hid (fun w => up_ok a n c zs nz hz hN w)
  have HW := Lib.hid (fun w => lw_ok a n c zs nz hz hN w)
  have HR := Lib.hid hR
  clear hR hz hN
  go_enter Try.func42, Try.ntmps42
  go_wp2_with fail
  refine (HU.out _ (HR.out.later (by (repeat' (first | (with_reducible exact Below.refl _ _) | (with_reducible assumption) | (with_reducible refine belowThru ?_ (by assumption)) | (with_reducible refine belowAlloc ?_) | (with_reducible refine Below.setCell ?_ (by first | omega | (simp; done) | (simp; omega)) _) | (with_reducible refine Below.drew ?_) | (with_reducible refine below_drewN ?_ _)))))).mono ?_
  rintro e w1 ⟨bu, rfl, hbu, ku, hb⟩
  have k0 : Blk w1 w.heap.size #[.int .i64 0, .int .i64 0, .int .i64 0, .int .i64 0] 30 := Blk.later hb (by (repeat' (first | (with_reducible assumption) | ((with_reducible refine Blk.new ?_); first | rfl | (simp; done)) | (with_reducible refine Blk.later (by assumption) ?_) | (with_reducible refine Blk.alloc ?_) | (with_reducible refine Blk.drewN ?_) | (with_reducible refine Blk.drew ?_) | (with_reducible refine Blk.other ?_ (by first | omega | (simp; done) | (simp; omega))))))
  have hB1 : Below w.heap.size w w1 := by (repeat' (first | (with_reducible exact Below.refl _ _) | (with_reducible assumption) | (with_reducible refine belowThru ?_ (by assumption)) | (with_reducible refine belowAlloc ?_) | (with_reducible refine Below.setCell ?_ (by first | omega | (simp; done) | (simp; omega)) _) | (with_reducible refine Below.drew ?_) | (with_reducible refine below_drewN ?_ _)))
  clear hb ku
  go_wp2_with fail
  refine (HW.out _ (HR.out.later hB1)).mono ?_
  rintro e w2 ⟨bl, rfl, hbl, kl, hb⟩
  replace k0 := Blk.later hb k0
  have hB2 : Below w.heap.size w w2 := belowThru hB1 hb
  clear hb hB1
  go_wp2_with fail
  refine (HL.out bl _ hB2 kl).mono ?_
  rintro e w3 ⟨rfl, hb⟩
  replace k0 := Blk.later hb k0
  obtain ⟨a0, b0⟩ := k0.read
  have y0 := k0.lt
  go_wp2
  exact bodyPost_ret (v := .tuple #[.agg #[.int .i64 0, .int .i64 0, .int .i64 0, .int .i64 0], .int .i64 EL]) (by simp only [results, Try.results42]; go_simp) rfl ⟨rfl, by (repeat' (first | (with_reducible exact Below.refl _ _) | (with_reducible assumption) | (with_reducible refine belowThru ?_ (by assumption)) | (with_reducible refine belowAlloc ?_) | (with_reducible refine Below.setCell ?_ (by first | omega | (simp; done) | (simp; omega)) _) | (with_reducible refine Below.drew ?_) | (with_reducible refine below_drewN ?_ _)))⟩
set_option maxRecDepth 100000 in
set_option maxHeartbeats 4000000 in
theorem encl_some (a : Option Addr) (n c : Nat) (zs : List Int) (nz : Int) (f : FuncId) (cap : Array Value) (ef : ∀ args w, (callFunc f args).run Try.prog w = .ok (.enter f args) w) (hz : okP zs) (hN : okN nz) (x y : Rat) (fx : fits x) (fy : fits y) (w : World) (hR : Row w a n (iv zs))
    (HL : Hid (∀ (b : Nat) (W : World), Below w.heap.size w W → Blk W b (ints (lwL nz zs)) 3 → Calls Try.prog f (#[.slice (some ⟨b, 0, none⟩) n n] ++ cap) W fun e W2 => e = .returned (.tuple #[.agg #[.int .i64 (fn x), .int .i64 (fd x)], .int .i64 0]) ∧ Below W.heap.size W W2))
    (HM : Hid (∀ (b : Nat) (W : World), Below w.heap.size w W → Blk W b (ints (upL nz zs)) 3 → Calls Try.prog f (#[.slice (some ⟨b, 0, none⟩) n n] ++ cap) W fun e W2 => e = .returned (.tuple #[.agg #[.int .i64 (fn y), .int .i64 (fd y)], .int .i64 0]) ∧ Below W.heap.size W W2)) :
    Calls Try.prog 42 #[.slice a n c, .int .i64 nz, .func (.func f) #[] cap] w fun e w' => e = .returned (.tuple #[.agg #[.int .i64 (fn (lo2 x y)), .int .i64 (fd (lo2 x y)), .int .i64 (fn (hi2 x y)), .int .i64 (fd (hi2 x y))], .int .i64 0]) ∧ Below w.heap.size w w' := by
  have HU := Lib.hid (fun w => up_ok a n c zs nz hz hN w)
  have HW := Lib.hid (fun w => lw_ok a n c zs nz hz hN w)
  have HR := Lib.hid hR
  have HJ := Lib.hid (join_two x y fx fy)
  have hmx : Try.prog.follows .mixedOrders = true := by kernel_rfl
  obtain ⟨X1, hX1⟩ : ∃ z, fn x = z := ⟨_, rfl⟩
  obtain ⟨X2, hX2⟩ : ∃ z, fd x = z := ⟨_, rfl⟩
  obtain ⟨Y1, hY1⟩ : ∃ z, fn y = z := ⟨_, rfl⟩
  obtain ⟨Y2, hY2⟩ : ∃ z, fd y = z := ⟨_, rfl⟩
  obtain ⟨Z1, hZ1⟩ : ∃ z, fn (lo2 x y) = z := ⟨_, rfl⟩
  obtain ⟨Z2, hZ2⟩ : ∃ z, fd (lo2 x y) = z := ⟨_, rfl⟩
  obtain ⟨Z3, hZ3⟩ : ∃ z, fn (hi2 x y) = z := ⟨_, rfl⟩
  obtain ⟨Z4, hZ4⟩ : ∃ z, fd (hi2 x y) = z := ⟨_, rfl⟩
  rw [hX1, hX2] at HL HJ
  rw [hY1, hY2] at HM HJ
  rw [hZ1, hZ2, hZ3, hZ4] at HJ ⊢
  clear hR hz hN hX1 hX2 hY1 hY2 hZ1 hZ2 hZ3 hZ4 fx fy
  have HP1 := Lib.hid (point_any X1 X2)
  have HP2 := Lib.hid (point_any Y1 Y2)
  go_enter Try.func42, Try.ntmps42
  go_wp2_with fail
  refine (HU.out _ (HR.out.later (by (repeat' (first | (with_reducible exact Below.refl _ _) | (with_reducible assumption) | (with_reducible refine belowThru ?_ (by assumption)) | (with_reducible refine belowAlloc ?_) | (with_reducible refine Below.setCell ?_ (by first | omega | (simp; done) | (simp; omega)) _) | (with_reducible refine Below.drew ?_) | (with_reducible refine below_drewN ?_ _)))))).mono ?_
  rintro e w1 ⟨bu, rfl, hbu, ku, hb⟩
  have k0 : Blk w1 w.heap.size #[.int .i64 0, .int .i64 0, .int .i64 0, .int .i64 0] 30 := Blk.later hb (by (repeat' (first | (with_reducible assumption) | ((with_reducible refine Blk.new ?_); first | rfl | (simp; done)) | (with_reducible refine Blk.later (by assumption) ?_) | (with_reducible refine Blk.alloc ?_) | (with_reducible refine Blk.drewN ?_) | (with_reducible refine Blk.drew ?_) | (with_reducible refine Blk.other ?_ (by first | omega | (simp; done) | (simp; omega))))))
  have hB1 : Below w.heap.size w w1 := by (repeat' (first | (with_reducible exact Below.refl _ _) | (with_reducible assumption) | (with_reducible refine belowThru ?_ (by assumption)) | (with_reducible refine belowAlloc ?_) | (with_reducible refine Below.setCell ?_ (by first | omega | (simp; done) | (simp; omega)) _) | (with_reducible refine Below.drew ?_) | (with_reducible refine below_drewN ?_ _)))
  clear hb
  go_wp2_with fail
  refine (HW.out _ (HR.out.later hB1)).mono ?_
  rintro e w2 ⟨bl, rfl, hbl, kl, hb⟩
  replace k0 := Blk.later hb k0
  replace ku := Blk.later hb ku
  have hB2 : Below w.heap.size w w2 := belowThru hB1 hb
  clear hb hB1
  go_wp2_with fail
  refine (HL.out bl _ hB2 kl).mono ?_
  rintro e w3 ⟨rfl, hb⟩
  replace k0 := Blk.later hb k0
  replace ku := Blk.later hb ku
  have hB3 : Below w.heap.size w w3 := belowThru hB2 hb
  have hs3 := hB3.size
  have y0 := k0.lt
  clear hb hB2 kl
  go_wp2_with fail
  refine (HM.out bu _ (by (repeat' (first | (with_reducible exact Below.refl _ _) | (with_reducible assumption) | (with_reducible refine belowThru ?_ (by assumption)) | (with_reducible refine belowAlloc ?_) | (with_reducible refine Below.setCell ?_ (by first | omega | (simp; done) | (simp; omega)) _) | (with_reducible refine Below.drew ?_) | (with_reducible refine below_drewN ?_ _)))) (by (repeat' (first | (with_reducible assumption) | ((with_reducible refine Blk.new ?_); first | rfl | (simp; done)) | (with_reducible refine Blk.later (by assumption) ?_) | (with_reducible refine Blk.alloc ?_) | (with_reducible refine Blk.drewN ?_) | (with_reducible refine Blk.drew ?_) | (with_reducible refine Blk.other ?_ (by first | omega | (simp; done) | (simp; omega))))))).mono ?_
  rintro e w4 ⟨rfl, hb⟩
  replace k0 : Blk w4 w.heap.size #[.int .i64 0, .int .i64 0, .int .i64 0, .int .i64 0] 30 := Blk.later hb (by (repeat' (first | (with_reducible assumption) | ((with_reducible refine Blk.new ?_); first | rfl | (simp; done)) | (with_reducible refine Blk.later (by assumption) ?_) | (with_reducible refine Blk.alloc ?_) | (with_reducible refine Blk.drewN ?_) | (with_reducible refine Blk.drew ?_) | (with_reducible refine Blk.other ?_ (by first | omega | (simp; done) | (simp; omega))))))
  have k1 : Blk w4 w3.heap.size #[.int .i64 X1, .int .i64 X2] 23 := Blk.later hb (by (repeat' (first | (with_reducible assumption) | ((with_reducible refine Blk.new ?_); first | rfl | (simp; done)) | (with_reducible refine Blk.later (by assumption) ?_) | (with_reducible refine Blk.alloc ?_) | (with_reducible refine Blk.drewN ?_) | (with_reducible refine Blk.drew ?_) | (with_reducible refine Blk.other ?_ (by first | omega | (simp; done) | (simp; omega))))))
  have hB4 : Below w.heap.size w w4 := by (repeat' (first | (with_reducible exact Below.refl _ _) | (with_reducible assumption) | (with_reducible refine belowThru ?_ (by assumption)) | (with_reducible refine belowAlloc ?_) | (with_reducible refine Below.setCell ?_ (by first | omega | (simp; done) | (simp; omega)) _) | (with_reducible refine Below.drew ?_) | (with_reducible refine below_drewN ?_ _)))
  have hs4 := hB4.size
  have y1 := k1.lt
  have y2 := k0.lt
  clear hb hB3 ku
  go_wp2_with fail
  obtain ⟨W0, hW0⟩ : ∃ W0, w4.alloc (.cells #[.int .i64 Y1, .int .i64 Y2] 23) = W0 := ⟨_, rfl⟩
  have k2 : Blk W0 w4.heap.size #[.int .i64 Y1, .int .i64 Y2] 23 := by rw [← hW0]; exact Blk.new rfl
  replace k0 : Blk W0 w.heap.size #[.int .i64 0, .int .i64 0, .int .i64 0, .int .i64 0] 30 := by rw [← hW0]; (repeat' (first | (with_reducible assumption) | ((with_reducible refine Blk.new ?_); first | rfl | (simp; done)) | (with_reducible refine Blk.later (by assumption) ?_) | (with_reducible refine Blk.alloc ?_) | (with_reducible refine Blk.drewN ?_) | (with_reducible refine Blk.drew ?_) | (with_reducible refine Blk.other ?_ (by first | omega | (simp; done) | (simp; omega)))))
  replace k1 : Blk W0 w3.heap.size #[.int .i64 X1, .int .i64 X2] 23 := by rw [← hW0]; (repeat' (first | (with_reducible assumption) | ((with_reducible refine Blk.new ?_); first | rfl | (simp; done)) | (with_reducible refine Blk.later (by assumption) ?_) | (with_reducible refine Blk.alloc ?_) | (with_reducible refine Blk.drewN ?_) | (with_reducible refine Blk.drew ?_) | (with_reducible refine Blk.other ?_ (by first | omega | (simp; done) | (simp; omega)))))
  have hB0 : Below w.heap.size w W0 := by rw [← hW0]; (repeat' (first | (with_reducible exact Below.refl _ _) | (with_reducible assumption) | (with_reducible refine belowThru ?_ (by assumption)) | (with_reducible refine belowAlloc ?_) | (with_reducible refine Below.setCell ?_ (by first | omega | (simp; done) | (simp; omega)) _) | (with_reducible refine Below.drew ?_) | (with_reducible refine below_drewN ?_ _)))
  rw [hW0]
  clear hW0
  have y3 := k0.lt; have y4 := k1.lt; have y5 := k2.lt
  obtain ⟨B1, hB1⟩ : ∃ z, w3.heap.size = z := ⟨_, rfl⟩
  obtain ⟨B2, hB2⟩ : ∃ z, w4.heap.size = z := ⟨_, rfl⟩
  rw [hB1] at hs3 y0 y1 y4 k1 ⊢
  rw [hB2] at hs4 y1 y2 y5 k2 ⊢
  clear hB1 hB2
  refine wp_region_held_drew (S := fun w' => (Blk w' B1 #[.int .i64 X1, .int .i64 X2] 23 ∧ (∀ i : Nat, w'.cell? ⟨B1, i, none⟩ = (#[.int .i64 X1, .int .i64 X2] : Array Value)[i]?)) ∧ (Blk w' B2 #[.int .i64 Y1, .int .i64 Y2] 23 ∧ (∀ i : Nat, w'.cell? ⟨B2, i, none⟩ = (#[.int .i64 Y1, .int .i64 Y2] : Array Value)[i]?)) ∧ Below w.heap.size w w') hmx ⟨k1.drew.full, k2.drew.full, hB0.drew⟩ (fun hHeld => ?_)
  refine wpAnyH_take (i := 0) (v := ?_) rfl (by kernel_rfl) (by kernel_rfl) (by kernel_rfl) (fun _ _ _ h => h) (Or.inl ⟨by rfl, ?hT0⟩) (by assumption) ?_
  case hT0 => ((intro w hSw; (try dsimp only at hSw); go_simp); try (with_reducible rfl))
  try simp only [Act.put, List.setIfInBounds_toArray, List.set_cons_zero, List.set_cons_succ]
  refine wpAnyH_take (i := 2) (v := ?_) rfl (by kernel_rfl) (by kernel_rfl) (by kernel_rfl) (fun _ _ _ h => h) (Or.inl ⟨by rfl, ?hT1⟩) (by assumption) ?_
  case hT1 => ((intro w hSw; (try dsimp only at hSw); go_simp); try (with_reducible rfl))
  try simp only [Act.put, List.setIfInBounds_toArray, List.set_cons_zero, List.set_cons_succ]
  refine wpAnyH_ready (rs := [1]) (by kernel_rfl) (by simp) ?_
  refine AllReadyH.cons rfl (fun K hK => ?_) AllReadyH.nil
  go_simp
  refine (HP1.out _).mono ?_
  rintro e wA ⟨rfl, hb⟩
  have q0 := Blk.later hb k0.drew
  refine hK.out _ _ ?_ (fun hHeldN => ?_)
  · (try dsimp only); (((first | (apply hold2; (focus assumption); intro p0 p1 pB) | skip); refine ⟨Blk.full ?_, Blk.full ?_, ?_⟩; all_goals (first | ((repeat' (first | (with_reducible assumption) | ((with_reducible refine Blk.new ?_); first | rfl | (simp; done)) | (with_reducible refine Blk.later (by assumption) ?_) | (with_reducible refine Blk.alloc ?_) | (with_reducible refine Blk.drewN ?_) | (with_reducible refine Blk.drew ?_) | (with_reducible refine Blk.other ?_ (by first | omega | (simp; done) | (simp; omega))))); done) | ((repeat' (first | (with_reducible exact Below.refl _ _) | (with_reducible assumption) | (with_reducible refine belowThru ?_ (by assumption)) | (with_reducible refine belowAlloc ?_) | (with_reducible refine Below.setCell ?_ (by first | omega | (simp; done) | (simp; omega)) _) | (with_reducible refine Below.drew ?_) | (with_reducible refine below_drewN ?_ _))); done))))
  clear hK K hHeld
  have hHeld := hHeldN
  clear hHeldN
  try simp only [Act.put, List.setIfInBounds_toArray, List.set_cons_zero, List.set_cons_succ]
  clear hb
  refine wpAnyH_ready (rs := [3]) (by kernel_rfl) (by simp) ?_
  refine AllReadyH.cons rfl (fun K hK => ?_) AllReadyH.nil
  go_simp
  refine (HP2.out _).mono ?_
  rintro e wD ⟨rfl, hb⟩
  replace q0 := Blk.later hb q0
  refine hK.out _ _ ?_ (fun hHeldN => ?_)
  · (try dsimp only); (((first | (apply hold2; (focus assumption); intro p0 p1 pB) | skip); refine ⟨Blk.full ?_, Blk.full ?_, ?_⟩; all_goals (first | ((repeat' (first | (with_reducible assumption) | ((with_reducible refine Blk.new ?_); first | rfl | (simp; done)) | (with_reducible refine Blk.later (by assumption) ?_) | (with_reducible refine Blk.alloc ?_) | (with_reducible refine Blk.drewN ?_) | (with_reducible refine Blk.drew ?_) | (with_reducible refine Blk.other ?_ (by first | omega | (simp; done) | (simp; omega))))); done) | ((repeat' (first | (with_reducible exact Below.refl _ _) | (with_reducible assumption) | (with_reducible refine belowThru ?_ (by assumption)) | (with_reducible refine belowAlloc ?_) | (with_reducible refine Below.setCell ?_ (by first | omega | (simp; done) | (simp; omega)) _) | (with_reducible refine Below.drew ?_) | (with_reducible refine below_drewN ?_ _))); done))))
  clear hK K hHeld
  have hHeld := hHeldN
  clear hHeldN
  try simp only [Act.put, List.setIfInBounds_toArray, List.set_cons_zero, List.set_cons_succ]
  clear hb
  refine wpAnyH_ready (rs := [4]) (by kernel_rfl) (by simp) ?_
  refine AllReadyH.cons rfl (fun K hK => ?_) AllReadyH.nil
  go_simp
  refine (HJ.out _).mono ?_
  rintro e wE ⟨rfl, hb⟩
  replace q0 := Blk.later hb q0
  refine hK.out _ _ ?_ (fun hHeldN => ?_)
  · (try dsimp only); (((first | (apply hold2; (focus assumption); intro p0 p1 pB) | skip); refine ⟨Blk.full ?_, Blk.full ?_, ?_⟩; all_goals (first | ((repeat' (first | (with_reducible assumption) | ((with_reducible refine Blk.new ?_); first | rfl | (simp; done)) | (with_reducible refine Blk.later (by assumption) ?_) | (with_reducible refine Blk.alloc ?_) | (with_reducible refine Blk.drewN ?_) | (with_reducible refine Blk.drew ?_) | (with_reducible refine Blk.other ?_ (by first | omega | (simp; done) | (simp; omega))))); done) | ((repeat' (first | (with_reducible exact Below.refl _ _) | (with_reducible assumption) | (with_reducible refine belowThru ?_ (by assumption)) | (with_reducible refine belowAlloc ?_) | (with_reducible refine Below.setCell ?_ (by first | omega | (simp; done) | (simp; omega)) _) | (with_reducible refine Below.drew ?_) | (with_reducible refine below_drewN ?_ _))); done))))
  clear hK K hHeld
  have hHeld := hHeldN
  clear hHeldN
  try simp only [Act.put, List.setIfInBounds_toArray, List.set_cons_zero, List.set_cons_succ]
  clear hb
  refine wpAnyH_take (i := 5) (v := ?_) rfl (by kernel_rfl) (by kernel_rfl) (by kernel_rfl) (fun _ _ _ h => h) (Or.inl ⟨by rfl, ?hT2⟩) (by assumption) ?_
  case hT2 => ((intro w hSw; (try dsimp only at hSw); go_simp); try (with_reducible rfl))
  try simp only [Act.put, List.setIfInBounds_toArray, List.set_cons_zero, List.set_cons_succ]
  refine wpAnyH_take (i := 6) (v := ?_) rfl (by kernel_rfl) (by kernel_rfl) (by kernel_rfl) (fun _ _ _ h => h) (Or.inl ⟨by rfl, ?hT3⟩) (by assumption) ?_
  case hT3 => ((intro w hSw; (try dsimp only at hSw); go_simp); try (with_reducible rfl))
  try simp only [Act.put, List.setIfInBounds_toArray, List.set_cons_zero, List.set_cons_succ]
  obtain ⟨r0, s0⟩ := q0.read
  refine wpAnyH_ready (rs := [7]) (by kernel_rfl) (by simp) ?_
  refine AllReadyH.cons rfl (fun K hK => ?_) AllReadyH.nil
  go_simp
  refine hK.out _ _ ?_ (fun hHeldN => ?_)
  · (try dsimp only); (((first | (apply hold2; (focus assumption); intro p0 p1 pB) | skip); refine ⟨Blk.full ?_, Blk.full ?_, ?_⟩; all_goals (first | ((repeat' (first | (with_reducible assumption) | ((with_reducible refine Blk.new ?_); first | rfl | (simp; done)) | (with_reducible refine Blk.later (by assumption) ?_) | (with_reducible refine Blk.alloc ?_) | (with_reducible refine Blk.drewN ?_) | (with_reducible refine Blk.drew ?_) | (with_reducible refine Blk.other ?_ (by first | omega | (simp; done) | (simp; omega))))); done) | ((repeat' (first | (with_reducible exact Below.refl _ _) | (with_reducible assumption) | (with_reducible refine belowThru ?_ (by assumption)) | (with_reducible refine belowAlloc ?_) | (with_reducible refine Below.setCell ?_ (by first | omega | (simp; done) | (simp; omega)) _) | (with_reducible refine Below.drew ?_) | (with_reducible refine below_drewN ?_ _))); done))))
  clear hK K hHeld
  have hHeld := hHeldN
  clear hHeldN
  try simp only [Act.put, List.setIfInBounds_toArray, List.set_cons_zero, List.set_cons_succ]
  refine wpAnyH_ready (rs := [8]) (by kernel_rfl) (by simp) ?_
  refine AllReadyH.cons rfl (fun K hK => ?_) AllReadyH.nil
  go_simp
  refine hK.out _ _ ?_ (fun hHeldN => ?_)
  · (try dsimp only); (((first | (apply hold2; (focus assumption); intro p0 p1 pB) | skip); refine ⟨Blk.full ?_, Blk.full ?_, ?_⟩; all_goals (first | ((repeat' (first | (with_reducible assumption) | ((with_reducible refine Blk.new ?_); first | rfl | (simp; done)) | (with_reducible refine Blk.later (by assumption) ?_) | (with_reducible refine Blk.alloc ?_) | (with_reducible refine Blk.drewN ?_) | (with_reducible refine Blk.drew ?_) | (with_reducible refine Blk.other ?_ (by first | omega | (simp; done) | (simp; omega))))); done) | ((repeat' (first | (with_reducible exact Below.refl _ _) | (with_reducible assumption) | (with_reducible refine belowThru ?_ (by assumption)) | (with_reducible refine belowAlloc ?_) | (with_reducible refine Below.setCell ?_ (by first | omega | (simp; done) | (simp; omega)) _) | (with_reducible refine Below.drew ?_) | (with_reducible refine below_drewN ?_ _))); done))))
  clear hK K hHeld
  have hHeld := hHeldN
  clear hHeldN
  try simp only [Act.put, List.setIfInBounds_toArray, List.set_cons_zero, List.set_cons_succ]
  refine wpAnyH_done (by kernel_rfl) ?_ _
  obtain ⟨-, -, qB⟩ := hHeld
  have q1 : Blk ((((wE.setCell ⟨w.heap.size, 0, none⟩ (.int .i64 Z1)).setCell ⟨w.heap.size, 1, none⟩ (.int .i64 Z2)).setCell ⟨w.heap.size, 2, none⟩ (.int .i64 Z3)).setCell ⟨w.heap.size, 3, none⟩ (.int .i64 Z4)) w.heap.size #[.int .i64 Z1, .int .i64 Z2, .int .i64 Z3, .int .i64 Z4] 30 := Blk.set (Blk.set (Blk.set (Blk.set q0)))
  obtain ⟨r1, s1⟩ := q1.read
  go_wp2
  exact bodyPost_ret (v := .tuple #[.agg #[.int .i64 Z1, .int .i64 Z2, .int .i64 Z3, .int .i64 Z4], .int .i64 0]) (by simp only [results, Try.results42]; go_simp) rfl ⟨rfl, qB⟩
end Go.Proofs.Ytdimmnoflenfhaa
/-
  Layer 5: Rise, Fall and Width, by the code.
-/
namespace Go.Proofs.Ytdimmnoflenfhaa
open Go.RowKit Go.Shelf
set_option linter.unusedVariables false
set_option linter.unusedSimpArgs false

/-- The parts of a span, if there is one; otherwise 0. -/
def s1 : Option (Rat × Rat) → Int
  | none => 0
  | some s => fn s.1
def s2 : Option (Rat × Rat) → Int
  | none => 0
  | some s => fd s.1
def s3 : Option (Rat × Rat) → Int
  | none => 0
  | some s => fn s.2
def s4 : Option (Rat × Rat) → Int
  | none => 0
  | some s => fd s.2
/-- Two numbers, if there are two. -/
def both : Option Rat → Option Rat → Option (Rat × Rat)
  | some x, some y => some (x, y)
  | _, _ => none
def riS (t : Int) (zs : List Int) (p n : Int) : Option (Rat × Rat) := if okP zs ∧ okN n ∧ okT t ∧ inL zs p then both (FX t (upL n zs) p.toNat) (FX t (lwL n zs) p.toNat) else none
def faS (t : Int) (zs : List Int) (p n : Int) : Option (Rat × Rat) := if okP zs ∧ okN n ∧ okT t ∧ inL zs p then both (LX t (lwL n zs) p.toNat) (LX t (upL n zs) p.toNat) else none
def wiS (t : Int) (zs : List Int) (n : Int) : Option (Rat × Rat) := if okP zs ∧ okN n ∧ okT t then both (WX t (lwL n zs)) (WX t (upL n zs)) else none
def riE (t : Int) (zs : List Int) (p n : Int) : Int := asE zs (okN n ∧ okT t ∧ inL zs p) (FX t (lwL n zs) p.toNat).isSome
def faE (t : Int) (zs : List Int) (p n : Int) : Int := asE zs (okN n ∧ okT t ∧ inL zs p) (LX t (lwL n zs) p.toNat).isSome
def wiE (t : Int) (zs : List Int) (n : Int) : Int := asE zs (okN n ∧ okT t) (WX t (lwL n zs)).isSome

theorem lt_of_cell {w : World} {b o : Nat} {v : Value} (h : w.cell? ⟨b, o, none⟩ = some v) : b < w.heap.size := by
  unfold World.cell? at h
  by_cases hb : b < w.heap.size
  · exact hb
  · simp [Array.getElem?_eq_none (show w.heap.size ≤ b by omega)] at h
theorem Row.of_ints {w : World} {b n : Nat} {zs : List Int} {t : TypeId} (hl : zs.length = n) (h : Blk w b (ints zs) t) : Row w (some ⟨b, 0, none⟩) n (iv zs) := by
  rw [← hl]; exact Row.of_blk h
theorem inL_of {zs ys : List Int} {p : Int} (h : ys.length = zs.length) : inL ys p ↔ inL zs p := by unfold inL; rw [h]

set_option maxHeartbeats 1000000 in
theorem ri1_any (a : Option Addr) (n c : Nat) (zs : List Int) (t p : Int) (B C : Nat) (hn : n ≤ maxLen) (w : World) (hR : Row w a n (iv zs)) (hc : w.cell? ⟨B, 0, none⟩ = some (.int .i64 t)) (hd : w.cell? ⟨C, 0, none⟩ = some (.int .i64 p)) :
    Calls Try.prog 44 #[.slice a n c, .pointer (some ⟨B, 0, none⟩), .pointer (some ⟨C, 0, none⟩)] w fun e w' => e = .returned (.tuple #[.agg #[.int .i64 (oN (fiO t zs p)), .int .i64 (oD (fiO t zs p))], .int .i64 (fiE t zs p)]) ∧ Below w.heap.size w w' := by
  have HN := Lib.hid (fun w => first_any a n c zs t p hn w)
  have HR := Lib.hid hR
  obtain ⟨A, hA⟩ : ∃ A, oN (fiO t zs p) = A := ⟨_, rfl⟩
  obtain ⟨D, hD⟩ : ∃ B, oD (fiO t zs p) = B := ⟨_, rfl⟩
  obtain ⟨E, hE⟩ : ∃ E, fiE t zs p = E := ⟨_, rfl⟩
  rw [hA, hD, hE] at HN ⊢
  have hBl := lt_of_cell hc; have hCl := lt_of_cell hd
  clear hA hD hE hR
  go_enter Try.func44, Try.ntmps44
  go_wp2_with (go_at_call 9; (with_reducible refine (HN.out _ (HR.out.later (by (repeat' (first | (with_reducible exact Below.refl _ _) | (with_reducible assumption) | (with_reducible refine belowThru ?_ (by assumption)) | (with_reducible refine belowAlloc ?_) | (with_reducible refine Below.setCell ?_ (by first | omega | (simp; done) | (simp; omega)) _) | (with_reducible refine Below.drew ?_) | (with_reducible refine below_drewN ?_ _)))))).mono ?_); rintro e w1 ⟨rfl, hb⟩; (first | ((with_reducible have k0 := Blk.later hb (Blk.new rfl)); skip; obtain ⟨a0, b0⟩ := k0.read; have zl := k0.lt) | ((try (have zk := k0.lt; (first | ((with_reducible refine Blk.keepG hb k0 (fun h => ?_) ?_); (focus ((repeat' (first | (with_reducible assumption) | ((with_reducible refine Blk.new ?_); first | rfl | (simp; done)) | (with_reducible refine Blk.later (by assumption) ?_) | (with_reducible refine Blk.alloc ?_) | (with_reducible refine Blk.drewN ?_) | (with_reducible refine Blk.drew ?_) | (with_reducible refine Blk.other ?_ (by first | omega | (simp; done) | (simp; omega))))); done)); clear k0; intro k0) | (with_reducible replace k0 := Blk.later hb (Blk.set (Blk.set k0))) | (with_reducible replace k0 := Blk.later hb (Blk.set k0))); clear a0 b0; obtain ⟨a0, b0⟩ := k0.read; have zl := k0.lt)))))
  exact bodyPost_ret (v := .tuple #[.agg #[.int .i64 A, .int .i64 D], .int .i64 E]) (by simp only [results, Try.results44]; go_simp) rfl ⟨rfl, by (repeat' (first | (with_reducible exact Below.refl _ _) | (with_reducible assumption) | (with_reducible refine belowThru ?_ (by assumption)) | (with_reducible refine belowAlloc ?_) | (with_reducible refine Below.setCell ?_ (by first | omega | (simp; done) | (simp; omega)) _) | (with_reducible refine Below.drew ?_) | (with_reducible refine below_drewN ?_ _)))⟩
set_option maxHeartbeats 1000000 in
theorem fa1_any (a : Option Addr) (n c : Nat) (zs : List Int) (t p : Int) (B C : Nat) (hn : n ≤ maxLen) (w : World) (hR : Row w a n (iv zs)) (hc : w.cell? ⟨B, 0, none⟩ = some (.int .i64 t)) (hd : w.cell? ⟨C, 0, none⟩ = some (.int .i64 p)) :
    Calls Try.prog 43 #[.slice a n c, .pointer (some ⟨B, 0, none⟩), .pointer (some ⟨C, 0, none⟩)] w fun e w' => e = .returned (.tuple #[.agg #[.int .i64 (oN (laO t zs p)), .int .i64 (oD (laO t zs p))], .int .i64 (laE t zs p)]) ∧ Below w.heap.size w w' := by
  have HN := Lib.hid (fun w => last_any a n c zs t p hn w)
  have HR := Lib.hid hR
  obtain ⟨A, hA⟩ : ∃ A, oN (laO t zs p) = A := ⟨_, rfl⟩
  obtain ⟨D, hD⟩ : ∃ B, oD (laO t zs p) = B := ⟨_, rfl⟩
  obtain ⟨E, hE⟩ : ∃ E, laE t zs p = E := ⟨_, rfl⟩
  rw [hA, hD, hE] at HN ⊢
  have hBl := lt_of_cell hc; have hCl := lt_of_cell hd
  clear hA hD hE hR
  go_enter Try.func43, Try.ntmps43
  go_wp2_with (go_at_call 11; (with_reducible refine (HN.out _ (HR.out.later (by (repeat' (first | (with_reducible exact Below.refl _ _) | (with_reducible assumption) | (with_reducible refine belowThru ?_ (by assumption)) | (with_reducible refine belowAlloc ?_) | (with_reducible refine Below.setCell ?_ (by first | omega | (simp; done) | (simp; omega)) _) | (with_reducible refine Below.drew ?_) | (with_reducible refine below_drewN ?_ _)))))).mono ?_); rintro e w1 ⟨rfl, hb⟩; (first | ((with_reducible have k0 := Blk.later hb (Blk.new rfl)); skip; obtain ⟨a0, b0⟩ := k0.read; have zl := k0.lt) | ((try (have zk := k0.lt; (first | ((with_reducible refine Blk.keepG hb k0 (fun h => ?_) ?_); (focus ((repeat' (first | (with_reducible assumption) | ((with_reducible refine Blk.new ?_); first | rfl | (simp; done)) | (with_reducible refine Blk.later (by assumption) ?_) | (with_reducible refine Blk.alloc ?_) | (with_reducible refine Blk.drewN ?_) | (with_reducible refine Blk.drew ?_) | (with_reducible refine Blk.other ?_ (by first | omega | (simp; done) | (simp; omega))))); done)); clear k0; intro k0) | (with_reducible replace k0 := Blk.later hb (Blk.set (Blk.set k0))) | (with_reducible replace k0 := Blk.later hb (Blk.set k0))); clear a0 b0; obtain ⟨a0, b0⟩ := k0.read; have zl := k0.lt)))))
  exact bodyPost_ret (v := .tuple #[.agg #[.int .i64 A, .int .i64 D], .int .i64 E]) (by simp only [results, Try.results43]; go_simp) rfl ⟨rfl, by (repeat' (first | (with_reducible exact Below.refl _ _) | (with_reducible assumption) | (with_reducible refine belowThru ?_ (by assumption)) | (with_reducible refine belowAlloc ?_) | (with_reducible refine Below.setCell ?_ (by first | omega | (simp; done) | (simp; omega)) _) | (with_reducible refine Below.drew ?_) | (with_reducible refine below_drewN ?_ _)))⟩

/-- Where nothing is found, or what is asked for is wrong. -/
theorem fiO_bad {t : Int} {zs : List Int} {p : Int} (h : ¬ (okP zs ∧ okT t ∧ inL zs p)) : fiO t zs p = none := if_neg h
theorem laO_bad {t : Int} {zs : List Int} {p : Int} (h : ¬ (okP zs ∧ okT t ∧ inL zs p)) : laO t zs p = none := if_neg h
theorem fiO_ok {t : Int} {zs : List Int} {p : Int} (h : okP zs ∧ okT t ∧ inL zs p) : fiO t zs p = FX t zs p.toNat := if_pos h
theorem laO_ok {t : Int} {zs : List Int} {p : Int} (h : okP zs ∧ okT t ∧ inL zs p) : laO t zs p = LX t zs p.toNat := if_pos h
end Go.Proofs.Ytdimmnoflenfhaa
/-
  Layer 5: Rise, Fall and Width for any arguments.
-/
namespace Go.Proofs.Ytdimmnoflenfhaa
open Go.RowKit Go.Shelf
set_option linter.unusedVariables false
set_option linter.unusedSimpArgs false

set_option maxHeartbeats 2000000 in
theorem ext_no (a : Option Addr) (n c : Nat) (t E : Int) (hn : n ≤ maxLen) (zs : List Int) (hE : (E != 0) = true) (w : World) (hR : Row w a n (iv zs))
    (HF : Hid (∀ w, Row w a n (iv zs) → Calls Try.prog 9 #[.slice a n c, .int .i64 t, .int .i64 0] w fun e w' => e = .returned (.tuple #[.agg #[.int .i64 0, .int .i64 0], .int .i64 E]) ∧ Below w.heap.size w w')) :
    Calls Try.prog 62 #[.slice a n c, .int .i64 t] w fun e w' => e = .returned (.tuple #[.agg #[.int .i64 0, .int .i64 0], .int .i64 E]) ∧ Below w.heap.size w w' := by
  have HR := Lib.hid hR
  clear hR
  go_enter Try.func62, Try.ntmps62
  go_wp2_with fail
  refine (HF.out _ (HR.out.later (by (repeat' (first | (with_reducible exact Below.refl _ _) | (with_reducible assumption) | (with_reducible refine belowThru ?_ (by assumption)) | (with_reducible refine belowAlloc ?_) | (with_reducible refine Below.setCell ?_ (by first | omega | (simp; done) | (simp; omega)) _) | (with_reducible refine Below.drew ?_) | (with_reducible refine below_drewN ?_ _)))))).mono ?_
  rintro e w1 ⟨rfl, hb⟩
  have k0 : Blk w1 w.heap.size #[.int .i64 0, .int .i64 0] 23 := Blk.later hb (by (repeat' (first | (with_reducible assumption) | ((with_reducible refine Blk.new ?_); first | rfl | (simp; done)) | (with_reducible refine Blk.later (by assumption) ?_) | (with_reducible refine Blk.alloc ?_) | (with_reducible refine Blk.drewN ?_) | (with_reducible refine Blk.drew ?_) | (with_reducible refine Blk.other ?_ (by first | omega | (simp; done) | (simp; omega))))))
  have hB1 : Below w.heap.size w w1 := by (repeat' (first | (with_reducible exact Below.refl _ _) | (with_reducible assumption) | (with_reducible refine belowThru ?_ (by assumption)) | (with_reducible refine belowAlloc ?_) | (with_reducible refine Below.setCell ?_ (by first | omega | (simp; done) | (simp; omega)) _) | (with_reducible refine Below.drew ?_) | (with_reducible refine below_drewN ?_ _)))
  obtain ⟨a0, b0⟩ := k0.read
  have y0 := k0.lt
  clear hb
  go_wp2
  exact bodyPost_ret (v := .tuple #[.agg #[.int .i64 0, .int .i64 0], .int .i64 E]) (by simp only [results, Try.results62]; go_simp) rfl ⟨rfl, by (repeat' (first | (with_reducible exact Below.refl _ _) | (with_reducible assumption) | (with_reducible refine belowThru ?_ (by assumption)) | (with_reducible refine belowAlloc ?_) | (with_reducible refine Below.setCell ?_ (by first | omega | (simp; done) | (simp; omega)) _) | (with_reducible refine Below.drew ?_) | (with_reducible refine below_drewN ?_ _)))⟩
set_option maxHeartbeats 2000000 in
theorem ext_yes (a : Option Addr) (n c : Nat) (t A B C D X Y e2 : Int) (hn : n ≤ 64) (zs : List Int) (w : World) (hR : Row w a n (iv zs))
    (HF : Hid (∀ w, Row w a n (iv zs) → Calls Try.prog 9 #[.slice a n c, .int .i64 t, .int .i64 0] w fun e w' => e = .returned (.tuple #[.agg #[.int .i64 A, .int .i64 B], .int .i64 0]) ∧ Below w.heap.size w w'))
    (HL : Hid (∀ w, Row w a n (iv zs) → Calls Try.prog 11 #[.slice a n c, .int .i64 t, .int .i64 ((n : Int) - 1)] w fun e w' => e = .returned (.tuple #[.agg #[.int .i64 C, .int .i64 D], .int .i64 e2]) ∧ Below w.heap.size w w'))
    (HS : Hid (∀ w, Calls Try.prog 90 #[.agg #[.int .i64 C, .int .i64 D], .agg #[.int .i64 A, .int .i64 B]] w fun e w' => e = .returned (.tuple #[.agg #[.int .i64 X, .int .i64 Y], .int .i64 0]) ∧ Below w.heap.size w w')) :
    Calls Try.prog 62 #[.slice a n c, .int .i64 t] w fun e w' => e = .returned (.tuple #[.agg #[.int .i64 X, .int .i64 Y], .int .i64 0]) ∧ Below w.heap.size w w' := by
  have HR := Lib.hid hR
  have hw1 : IntKind.i64.wrap ((n : Int) - 1) = (n : Int) - 1 := IntWalk.i64_in _ (by omega)
  clear hR
  go_enter Try.func62, Try.ntmps62
  go_wp2_with fail
  refine (HF.out _ (HR.out.later (by (repeat' (first | (with_reducible exact Below.refl _ _) | (with_reducible assumption) | (with_reducible refine belowThru ?_ (by assumption)) | (with_reducible refine belowAlloc ?_) | (with_reducible refine Below.setCell ?_ (by first | omega | (simp; done) | (simp; omega)) _) | (with_reducible refine Below.drew ?_) | (with_reducible refine below_drewN ?_ _)))))).mono ?_
  rintro e w1 ⟨rfl, hb⟩
  have k0 : Blk w1 w.heap.size #[.int .i64 0, .int .i64 0] 23 := Blk.later hb (by (repeat' (first | (with_reducible assumption) | ((with_reducible refine Blk.new ?_); first | rfl | (simp; done)) | (with_reducible refine Blk.later (by assumption) ?_) | (with_reducible refine Blk.alloc ?_) | (with_reducible refine Blk.drewN ?_) | (with_reducible refine Blk.drew ?_) | (with_reducible refine Blk.other ?_ (by first | omega | (simp; done) | (simp; omega))))))
  have hB1 : Below w.heap.size w w1 := by (repeat' (first | (with_reducible exact Below.refl _ _) | (with_reducible assumption) | (with_reducible refine belowThru ?_ (by assumption)) | (with_reducible refine belowAlloc ?_) | (with_reducible refine Below.setCell ?_ (by first | omega | (simp; done) | (simp; omega)) _) | (with_reducible refine Below.drew ?_) | (with_reducible refine below_drewN ?_ _)))
  have y0 := k0.lt
  clear hb
  go_wp2_with fail
  refine (HL.out _ (HR.out.later (by (repeat' (first | (with_reducible exact Below.refl _ _) | (with_reducible assumption) | (with_reducible refine belowThru ?_ (by assumption)) | (with_reducible refine belowAlloc ?_) | (with_reducible refine Below.setCell ?_ (by first | omega | (simp; done) | (simp; omega)) _) | (with_reducible refine Below.drew ?_) | (with_reducible refine below_drewN ?_ _)))))).mono ?_
  rintro e w2 ⟨rfl, hb⟩
  replace k0 : Blk w2 w.heap.size #[.int .i64 0, .int .i64 0] 23 := Blk.later hb (by (repeat' (first | (with_reducible assumption) | ((with_reducible refine Blk.new ?_); first | rfl | (simp; done)) | (with_reducible refine Blk.later (by assumption) ?_) | (with_reducible refine Blk.alloc ?_) | (with_reducible refine Blk.drewN ?_) | (with_reducible refine Blk.drew ?_) | (with_reducible refine Blk.other ?_ (by first | omega | (simp; done) | (simp; omega))))))
  have k1 : Blk w2 w1.heap.size #[.int .i64 A, .int .i64 B] 23 := Blk.later hb (by (repeat' (first | (with_reducible assumption) | ((with_reducible refine Blk.new ?_); first | rfl | (simp; done)) | (with_reducible refine Blk.later (by assumption) ?_) | (with_reducible refine Blk.alloc ?_) | (with_reducible refine Blk.drewN ?_) | (with_reducible refine Blk.drew ?_) | (with_reducible refine Blk.other ?_ (by first | omega | (simp; done) | (simp; omega))))))
  have hB2 : Below w.heap.size w w2 := by (repeat' (first | (with_reducible exact Below.refl _ _) | (with_reducible assumption) | (with_reducible refine belowThru ?_ (by assumption)) | (with_reducible refine belowAlloc ?_) | (with_reducible refine Below.setCell ?_ (by first | omega | (simp; done) | (simp; omega)) _) | (with_reducible refine Below.drew ?_) | (with_reducible refine below_drewN ?_ _)))
  have y1 := k1.lt
  obtain ⟨a0, b0⟩ := k0.read
  obtain ⟨a1, b1⟩ := k1.read
  have y2 := k0.lt
  clear hb hB1
  go_wp2_with fail
  refine (HS.out _).mono ?_
  rintro e w3 ⟨rfl, hb⟩
  replace k0 : Blk w3 w.heap.size #[.int .i64 0, .int .i64 0] 23 := Blk.later hb (by (repeat' (first | (with_reducible assumption) | ((with_reducible refine Blk.new ?_); first | rfl | (simp; done)) | (with_reducible refine Blk.later (by assumption) ?_) | (with_reducible refine Blk.alloc ?_) | (with_reducible refine Blk.drewN ?_) | (with_reducible refine Blk.drew ?_) | (with_reducible refine Blk.other ?_ (by first | omega | (simp; done) | (simp; omega))))))
  have hB3 : Below w.heap.size w w3 := by (repeat' (first | (with_reducible exact Below.refl _ _) | (with_reducible assumption) | (with_reducible refine belowThru ?_ (by assumption)) | (with_reducible refine belowAlloc ?_) | (with_reducible refine Below.setCell ?_ (by first | omega | (simp; done) | (simp; omega)) _) | (with_reducible refine Below.drew ?_) | (with_reducible refine below_drewN ?_ _)))
  clear a0 b0 a1 b1
  obtain ⟨a0, b0⟩ := k0.read
  go_wp2
  exact bodyPost_ret (v := .tuple #[.agg #[.int .i64 X, .int .i64 Y], .int .i64 0]) (by simp only [results, Try.results62]; go_simp) rfl ⟨rfl, by (repeat' (first | (with_reducible exact Below.refl _ _) | (with_reducible assumption) | (with_reducible refine belowThru ?_ (by assumption)) | (with_reducible refine belowAlloc ?_) | (with_reducible refine Below.setCell ?_ (by first | omega | (simp; done) | (simp; omega)) _) | (with_reducible refine Below.drew ?_) | (with_reducible refine below_drewN ?_ _)))⟩
/-- What extent returns for a valid profile. -/
def exO (t : Int) (zs : List Int) : Option Rat := if okT t then WX t zs else none
def exE (t : Int) (zs : List Int) : Int := if okT t then (if (WX t zs).isSome then 0 else 6) else 2
theorem ext_any (a : Option Addr) (n c : Nat) (zs : List Int) (t : Int) (hz : okP zs) (hl : zs.length = n) (w : World) (hR : Row w a n (iv zs)) :
    Calls Try.prog 62 #[.slice a n c, .int .i64 t] w fun e w' => e = .returned (.tuple #[.agg #[.int .i64 (oN (exO t zs)), .int .i64 (oD (exO t zs))], .int .i64 (exE t zs)]) ∧ Below w.heap.size w w' := by
  have hn : n ≤ maxLen := by have := hz.1.2; unfold maxLen; omega
  have hl2 := hz.1
  have HF := fun w => first_any a n c zs t 0 hn w
  have HL := fun w => last_any a n c zs t ((n : Int) - 1) hn w
  have i0 : inL zs 0 := ⟨by omega, by omega⟩
  have i1 : inL zs ((n : Int) - 1) := ⟨by omega, by omega⟩
  unfold exO exE
  by_cases ht : okT t
  · rw [if_pos ht, if_pos ht]
    rw [fiO_ok ⟨hz, ht, i0⟩, show fiE t zs 0 = _ from asE_ok hz ⟨ht, i0⟩] at HF
    rw [laO_ok ⟨hz, ht, i1⟩, show laE t zs ((n : Int) - 1) = _ from asE_ok hz ⟨ht, i1⟩] at HL
    have e0 : (0 : Int).toNat = 0 := rfl
    have e1 : ((n : Int) - 1).toNat = zs.length - 1 := by omega
    rw [e0] at HF
    rw [e1] at HL
    cases hx : FX t zs 0 with
    | none =>
      rw [(WX_none (by omega)).2 hx]
      rw [hx] at HF
      exact ext_no a n c t 6 hn zs rfl w hR HF
    | some x =>
      obtain ⟨y, hy⟩ := LX_of_FX (by omega) hx
      have hw : WX t zs = some (y - x) := WX_some.2 ⟨x, y, hx, hy, rfl⟩
      have fx := (FX_fits hz ht.1 (by omega) hx).2
      have fy := (LX_fits hz ht.1 (by omega) hy).2
      have fw := (WX_fits hz ht.1 hw).2
      rw [hw]
      rw [hx] at HF
      rw [hy] at HL
      have HS := fun w => sub_q y x fy fx w
      rw [rn_yes fw, rd_yes fw, re_yes fw] at HS
      exact ext_yes a n c t (fn x) (fd x) (fn y) (fd y) (fn (y - x)) (fd (y - x)) _ (by omega) zs w hR HF HL HS
  · rw [if_neg ht, if_neg ht]
    rw [fiO_bad (fun h => ht h.2.1), show fiE t zs 0 = _ from asE_arg hz (fun h => ht h.1)] at HF
    exact ext_no a n c t 2 hn zs rfl w hR HF
set_option maxHeartbeats 1000000 in
theorem wi1_any (a : Option Addr) (n c : Nat) (zs : List Int) (t : Int) (B : Nat) (hz : okP zs) (hl : zs.length = n) (w : World) (hR : Row w a n (iv zs)) (hc : w.cell? ⟨B, 0, none⟩ = some (.int .i64 t)) :
    Calls Try.prog 61 #[.slice a n c, .pointer (some ⟨B, 0, none⟩)] w fun e w' => e = .returned (.tuple #[.agg #[.int .i64 (oN (exO t zs)), .int .i64 (oD (exO t zs))], .int .i64 (exE t zs)]) ∧ Below w.heap.size w w' := by
  have HN := Lib.hid (fun w => ext_any a n c zs t hz hl w)
  have HR := Lib.hid hR
  obtain ⟨A, hA⟩ : ∃ A, oN (exO t zs) = A := ⟨_, rfl⟩
  obtain ⟨D, hD⟩ : ∃ B, oD (exO t zs) = B := ⟨_, rfl⟩
  obtain ⟨E, hE⟩ : ∃ E, exE t zs = E := ⟨_, rfl⟩
  rw [hA, hD, hE] at HN ⊢
  have hBl := lt_of_cell hc
  clear hA hD hE hR
  go_enter Try.func61, Try.ntmps61
  go_wp2_with (go_at_call 62; (with_reducible refine (HN.out _ (HR.out.later (by (repeat' (first | (with_reducible exact Below.refl _ _) | (with_reducible assumption) | (with_reducible refine belowThru ?_ (by assumption)) | (with_reducible refine belowAlloc ?_) | (with_reducible refine Below.setCell ?_ (by first | omega | (simp; done) | (simp; omega)) _) | (with_reducible refine Below.drew ?_) | (with_reducible refine below_drewN ?_ _)))))).mono ?_); rintro e w1 ⟨rfl, hb⟩; (first | ((with_reducible have k0 := Blk.later hb (Blk.new rfl)); skip; obtain ⟨a0, b0⟩ := k0.read; have zl := k0.lt) | ((try (have zk := k0.lt; (first | ((with_reducible refine Blk.keepG hb k0 (fun h => ?_) ?_); (focus ((repeat' (first | (with_reducible assumption) | ((with_reducible refine Blk.new ?_); first | rfl | (simp; done)) | (with_reducible refine Blk.later (by assumption) ?_) | (with_reducible refine Blk.alloc ?_) | (with_reducible refine Blk.drewN ?_) | (with_reducible refine Blk.drew ?_) | (with_reducible refine Blk.other ?_ (by first | omega | (simp; done) | (simp; omega))))); done)); clear k0; intro k0) | (with_reducible replace k0 := Blk.later hb (Blk.set (Blk.set k0))) | (with_reducible replace k0 := Blk.later hb (Blk.set k0))); clear a0 b0; obtain ⟨a0, b0⟩ := k0.read; have zl := k0.lt)))))
  exact bodyPost_ret (v := .tuple #[.agg #[.int .i64 A, .int .i64 D], .int .i64 E]) (by simp only [results, Try.results61]; go_simp) rfl ⟨rfl, by (repeat' (first | (with_reducible exact Below.refl _ _) | (with_reducible assumption) | (with_reducible refine belowThru ?_ (by assumption)) | (with_reducible refine belowAlloc ?_) | (with_reducible refine Below.setCell ?_ (by first | omega | (simp; done) | (simp; omega)) _) | (with_reducible refine Below.drew ?_) | (with_reducible refine below_drewN ?_ _)))⟩
end Go.Proofs.Ytdimmnoflenfhaa
/-
  Layer 5: Rise, Fall and Width for any arguments.
-/
namespace Go.Proofs.Ytdimmnoflenfhaa
open Go.RowKit Go.Shelf
set_option linter.unusedVariables false
set_option linter.unusedSimpArgs false

theorem encl_ri (a : Option Addr) (n c : Nat) (zs : List Int) (t p nz : Int) (B C : Nat) (hn : n ≤ maxLen) (w : World) (hR : Row w a n (iv zs)) (hc : w.cell? ⟨B, 0, none⟩ = some (.int .i64 t)) (hd : w.cell? ⟨C, 0, none⟩ = some (.int .i64 p)) :
    Calls Try.prog 42 #[.slice a n c, .int .i64 nz, .func (.func 44) #[] #[.pointer (some ⟨B, 0, none⟩), .pointer (some ⟨C, 0, none⟩)]] w fun e w' => e = .returned (.tuple #[.agg #[.int .i64 (s1 (riS t zs p nz)), .int .i64 (s2 (riS t zs p nz)), .int .i64 (s3 (riS t zs p nz)), .int .i64 (s4 (riS t zs p nz))], .int .i64 (riE t zs p nz)]) ∧ Below w.heap.size w w' := by
  have hl : zs.length = n := by have := hR.1; rwa [iv_length] at this
  have ef := enters_of Try.func44 (by kernel_rfl) rfl
  by_cases h1 : okP zs ∧ okN nz
  · have zl := lwL_ok h1.1 h1.2.1
    have zu := upL_ok h1.1 h1.2.1
    have HL : Hid (∀ (b : Nat) (W : World), Below w.heap.size w W → Blk W b (ints (lwL nz zs)) 3 → Calls Try.prog 44 (#[.slice (some ⟨b, 0, none⟩) n n] ++ #[.pointer (some ⟨B, 0, none⟩), .pointer (some ⟨C, 0, none⟩)]) W fun e W2 => e = .returned (.tuple #[.agg #[.int .i64 (oN (fiO t (lwL nz zs) p)), .int .i64 (oD (fiO t (lwL nz zs) p))], .int .i64 (fiE t (lwL nz zs) p)]) ∧ Below W.heap.size W W2) := fun b W hW hk =>
      ri1_any (some ⟨b, 0, none⟩) n n (lwL nz zs) t p B C hn W (Row.of_ints (by rw [lwL_length, hl]) hk) (cell_later hW hc) (cell_later hW hd)
    have HM : Hid (∀ (b : Nat) (W : World), Below w.heap.size w W → Blk W b (ints (upL nz zs)) 3 → Calls Try.prog 44 (#[.slice (some ⟨b, 0, none⟩) n n] ++ #[.pointer (some ⟨B, 0, none⟩), .pointer (some ⟨C, 0, none⟩)]) W fun e W2 => e = .returned (.tuple #[.agg #[.int .i64 (oN (fiO t (upL nz zs) p)), .int .i64 (oD (fiO t (upL nz zs) p))], .int .i64 (fiE t (upL nz zs) p)]) ∧ Below W.heap.size W W2) := fun b W hW hk =>
      ri1_any (some ⟨b, 0, none⟩) n n (upL nz zs) t p B C hn W (Row.of_ints (by rw [upL_length, hl]) hk) (cell_later hW hc) (cell_later hW hd)
    by_cases h2 : okT t ∧ inL zs p
    · have il : inL (lwL nz zs) p := (inL_of (lwL_length nz zs)).2 h2.2
      have iu : inL (upL nz zs) p := (inL_of (upL_length nz zs)).2 h2.2
      rw [fiO_ok ⟨zl, h2.1, il⟩, show fiE t (lwL nz zs) p = _ from asE_ok zl ⟨h2.1, il⟩] at HL
      rw [fiO_ok ⟨zu, h2.1, iu⟩, show fiE t (upL nz zs) p = _ from asE_ok zu ⟨h2.1, iu⟩] at HM
      have hp : p.toNat < zs.length := by have := h2.2.1; have := h2.2.2; omega
      have e1 : riS t zs p nz = _ := if_pos ⟨h1.1, h1.2, h2.1, h2.2⟩
      have e2 : riE t zs p nz = _ := asE_ok h1.1 ⟨h1.2, h2.1, h2.2⟩
      cases hx : FX t (lwL nz zs) p.toNat with
      | none =>
        rw [hx] at HL
        have e3 : riS t zs p nz = none := by rw [e1, hx]; unfold both; split <;> first | rfl | simp_all
        rw [e3, e2, hx]
        exact encl_none a n c zs nz _ _ ef h1.1 h1.2 6 rfl w hR HL
      | some x =>
        obtain ⟨y, hy, hyx⟩ := FX_le (lw_up h1.1.2 h1.2.1) hx
        have fx := (FX_fits zl h2.1.1 (by rw [lwL_length]; exact hp) hx).2
        have fy := (FX_fits zu h2.1.1 (by rw [upL_length]; exact hp) hy).2
        rw [hx] at HL
        rw [hy] at HM
        have e3 : riS t zs p nz = some (y, x) := by rw [e1, hx, hy]; rfl
        rw [e3, e2, hx]
        have h := encl_some a n c zs nz _ _ ef h1.1 h1.2 x y fx fy w hR HL HM
        rw [lo2_ge hyx, hi2_ge hyx] at h
        exact h
    · rw [fiO_bad (fun h => h2 ⟨h.2.1, (inL_of (lwL_length nz zs)).1 h.2.2⟩), show fiE t (lwL nz zs) p = _ from asE_arg zl (fun h => h2 ⟨h.1, (inL_of (lwL_length nz zs)).1 h.2⟩)] at HL
      have e1 : riS t zs p nz = none := if_neg (fun h => h2 h.2.2)
      have e2 : riE t zs p nz = 2 := asE_arg h1.1 (fun h => h2 h.2)
      rw [e1, e2]
      exact encl_none a n c zs nz _ _ ef h1.1 h1.2 2 rfl w hR HL
  · have e1 : riS t zs p nz = none := if_neg (fun h => h1 ⟨h.1, h.2.1⟩)
    have e2 : riE t zs p nz = if okP zs then 2 else 50 := by
      by_cases hz : okP zs
      · rw [if_pos hz]; exact asE_arg hz (fun h => h1 ⟨hz, h.1⟩)
      · rw [if_neg hz]; exact asE_no hz
    rw [e1, e2]
    exact encl_no a n c zs nz _ _ hn h1 w hR
set_option maxHeartbeats 1000000 in
theorem ri_any (a : Option Addr) (n c : Nat) (zs : List Int) (t p nz : Int) (hn : n ≤ maxLen) (w : World) (hR : Row w a n (iv zs)) :
    Calls Try.prog 13 #[.slice a n c, .int .i64 t, .int .i64 p, .int .i64 nz] w fun e w' => e = .returned (.tuple #[.agg #[.int .i64 (s1 (riS t zs p nz)), .int .i64 (s2 (riS t zs p nz)), .int .i64 (s3 (riS t zs p nz)), .int .i64 (s4 (riS t zs p nz))], .int .i64 (riE t zs p nz)]) ∧ Below w.heap.size w w' := by
  have HN := Lib.hid (fun B C w => encl_ri a n c zs t p nz B C hn w)
  have HR := Lib.hid hR
  obtain ⟨Z1, hZ1⟩ : ∃ z, s1 (riS t zs p nz) = z := ⟨_, rfl⟩
  obtain ⟨Z2, hZ2⟩ : ∃ z, s2 (riS t zs p nz) = z := ⟨_, rfl⟩
  obtain ⟨Z3, hZ3⟩ : ∃ z, s3 (riS t zs p nz) = z := ⟨_, rfl⟩
  obtain ⟨Z4, hZ4⟩ : ∃ z, s4 (riS t zs p nz) = z := ⟨_, rfl⟩
  obtain ⟨E, hE⟩ : ∃ z, riE t zs p nz = z := ⟨_, rfl⟩
  rw [hZ1, hZ2, hZ3, hZ4, hE] at HN ⊢
  clear hZ1 hZ2 hZ3 hZ4 hE hR
  go_enter Try.func13, Try.ntmps13
  go_wp2_with fail
  refine (HN.out _ _ _ (HR.out.later (by (repeat' (first | (with_reducible exact Below.refl _ _) | (with_reducible assumption) | (with_reducible refine belowThru ?_ (by assumption)) | (with_reducible refine belowAlloc ?_) | (with_reducible refine Below.setCell ?_ (by first | omega | (simp; done) | (simp; omega)) _) | (with_reducible refine Below.drew ?_) | (with_reducible refine below_drewN ?_ _))))) (by simp [go_sem]) (by simp [go_sem])).mono ?_
  rintro e w1 ⟨rfl, hb⟩
  have k0 : Blk w1 (w.heap.size + 1 + 1) #[.int .i64 0, .int .i64 0, .int .i64 0, .int .i64 0] 30 := Blk.later hb (Blk.new (by simp))
  obtain ⟨a0, b0⟩ := k0.read
  go_wp2
  exact bodyPost_ret (v := .tuple #[.agg #[.int .i64 Z1, .int .i64 Z2, .int .i64 Z3, .int .i64 Z4], .int .i64 E]) (by simp only [results, Try.results13]; go_simp) rfl ⟨rfl, by (repeat' (first | (with_reducible exact Below.refl _ _) | (with_reducible assumption) | (with_reducible refine belowThru ?_ (by assumption)) | (with_reducible refine belowAlloc ?_) | (with_reducible refine Below.setCell ?_ (by first | omega | (simp; done) | (simp; omega)) _) | (with_reducible refine Below.drew ?_) | (with_reducible refine below_drewN ?_ _)))⟩
theorem encl_fa (a : Option Addr) (n c : Nat) (zs : List Int) (t p nz : Int) (B C : Nat) (hn : n ≤ maxLen) (w : World) (hR : Row w a n (iv zs)) (hc : w.cell? ⟨B, 0, none⟩ = some (.int .i64 t)) (hd : w.cell? ⟨C, 0, none⟩ = some (.int .i64 p)) :
    Calls Try.prog 42 #[.slice a n c, .int .i64 nz, .func (.func 43) #[] #[.pointer (some ⟨B, 0, none⟩), .pointer (some ⟨C, 0, none⟩)]] w fun e w' => e = .returned (.tuple #[.agg #[.int .i64 (s1 (faS t zs p nz)), .int .i64 (s2 (faS t zs p nz)), .int .i64 (s3 (faS t zs p nz)), .int .i64 (s4 (faS t zs p nz))], .int .i64 (faE t zs p nz)]) ∧ Below w.heap.size w w' := by
  have hl : zs.length = n := by have := hR.1; rwa [iv_length] at this
  have ef := enters_of Try.func43 (by kernel_rfl) rfl
  by_cases h1 : okP zs ∧ okN nz
  · have zl := lwL_ok h1.1 h1.2.1
    have zu := upL_ok h1.1 h1.2.1
    have HL : Hid (∀ (b : Nat) (W : World), Below w.heap.size w W → Blk W b (ints (lwL nz zs)) 3 → Calls Try.prog 43 (#[.slice (some ⟨b, 0, none⟩) n n] ++ #[.pointer (some ⟨B, 0, none⟩), .pointer (some ⟨C, 0, none⟩)]) W fun e W2 => e = .returned (.tuple #[.agg #[.int .i64 (oN (laO t (lwL nz zs) p)), .int .i64 (oD (laO t (lwL nz zs) p))], .int .i64 (laE t (lwL nz zs) p)]) ∧ Below W.heap.size W W2) := fun b W hW hk =>
      fa1_any (some ⟨b, 0, none⟩) n n (lwL nz zs) t p B C hn W (Row.of_ints (by rw [lwL_length, hl]) hk) (cell_later hW hc) (cell_later hW hd)
    have HM : Hid (∀ (b : Nat) (W : World), Below w.heap.size w W → Blk W b (ints (upL nz zs)) 3 → Calls Try.prog 43 (#[.slice (some ⟨b, 0, none⟩) n n] ++ #[.pointer (some ⟨B, 0, none⟩), .pointer (some ⟨C, 0, none⟩)]) W fun e W2 => e = .returned (.tuple #[.agg #[.int .i64 (oN (laO t (upL nz zs) p)), .int .i64 (oD (laO t (upL nz zs) p))], .int .i64 (laE t (upL nz zs) p)]) ∧ Below W.heap.size W W2) := fun b W hW hk =>
      fa1_any (some ⟨b, 0, none⟩) n n (upL nz zs) t p B C hn W (Row.of_ints (by rw [upL_length, hl]) hk) (cell_later hW hc) (cell_later hW hd)
    by_cases h2 : okT t ∧ inL zs p
    · have il : inL (lwL nz zs) p := (inL_of (lwL_length nz zs)).2 h2.2
      have iu : inL (upL nz zs) p := (inL_of (upL_length nz zs)).2 h2.2
      rw [laO_ok ⟨zl, h2.1, il⟩, show laE t (lwL nz zs) p = _ from asE_ok zl ⟨h2.1, il⟩] at HL
      rw [laO_ok ⟨zu, h2.1, iu⟩, show laE t (upL nz zs) p = _ from asE_ok zu ⟨h2.1, iu⟩] at HM
      have hp : p.toNat < zs.length := by have := h2.2.1; have := h2.2.2; omega
      have e1 : faS t zs p nz = _ := if_pos ⟨h1.1, h1.2, h2.1, h2.2⟩
      have e2 : faE t zs p nz = _ := asE_ok h1.1 ⟨h1.2, h2.1, h2.2⟩
      cases hx : LX t (lwL nz zs) p.toNat with
      | none =>
        rw [hx] at HL
        have e3 : faS t zs p nz = none := by rw [e1, hx]; unfold both; split <;> first | rfl | simp_all
        rw [e3, e2, hx]
        exact encl_none a n c zs nz _ _ ef h1.1 h1.2 6 rfl w hR HL
      | some x =>
        obtain ⟨y, hy, hyx⟩ := LX_le (lw_up h1.1.2 h1.2.1) (by rw [lwL_length]; omega) hx
        have fx := (LX_fits zl h2.1.1 (by rw [lwL_length]; exact hp) hx).2
        have fy := (LX_fits zu h2.1.1 (by rw [upL_length]; exact hp) hy).2
        rw [hx] at HL
        rw [hy] at HM
        have e3 : faS t zs p nz = some (x, y) := by rw [e1, hx, hy]; rfl
        rw [e3, e2, hx]
        have h := encl_some a n c zs nz _ _ ef h1.1 h1.2 x y fx fy w hR HL HM
        rw [lo2_le hyx, hi2_le hyx] at h
        exact h
    · rw [laO_bad (fun h => h2 ⟨h.2.1, (inL_of (lwL_length nz zs)).1 h.2.2⟩), show laE t (lwL nz zs) p = _ from asE_arg zl (fun h => h2 ⟨h.1, (inL_of (lwL_length nz zs)).1 h.2⟩)] at HL
      have e1 : faS t zs p nz = none := if_neg (fun h => h2 h.2.2)
      have e2 : faE t zs p nz = 2 := asE_arg h1.1 (fun h => h2 h.2)
      rw [e1, e2]
      exact encl_none a n c zs nz _ _ ef h1.1 h1.2 2 rfl w hR HL
  · have e1 : faS t zs p nz = none := if_neg (fun h => h1 ⟨h.1, h.2.1⟩)
    have e2 : faE t zs p nz = if okP zs then 2 else 50 := by
      by_cases hz : okP zs
      · rw [if_pos hz]; exact asE_arg hz (fun h => h1 ⟨hz, h.1⟩)
      · rw [if_neg hz]; exact asE_no hz
    rw [e1, e2]
    exact encl_no a n c zs nz _ _ hn h1 w hR
set_option maxHeartbeats 1000000 in
theorem fa_any (a : Option Addr) (n c : Nat) (zs : List Int) (t p nz : Int) (hn : n ≤ maxLen) (w : World) (hR : Row w a n (iv zs)) :
    Calls Try.prog 12 #[.slice a n c, .int .i64 t, .int .i64 p, .int .i64 nz] w fun e w' => e = .returned (.tuple #[.agg #[.int .i64 (s1 (faS t zs p nz)), .int .i64 (s2 (faS t zs p nz)), .int .i64 (s3 (faS t zs p nz)), .int .i64 (s4 (faS t zs p nz))], .int .i64 (faE t zs p nz)]) ∧ Below w.heap.size w w' := by
  have HN := Lib.hid (fun B C w => encl_fa a n c zs t p nz B C hn w)
  have HR := Lib.hid hR
  obtain ⟨Z1, hZ1⟩ : ∃ z, s1 (faS t zs p nz) = z := ⟨_, rfl⟩
  obtain ⟨Z2, hZ2⟩ : ∃ z, s2 (faS t zs p nz) = z := ⟨_, rfl⟩
  obtain ⟨Z3, hZ3⟩ : ∃ z, s3 (faS t zs p nz) = z := ⟨_, rfl⟩
  obtain ⟨Z4, hZ4⟩ : ∃ z, s4 (faS t zs p nz) = z := ⟨_, rfl⟩
  obtain ⟨E, hE⟩ : ∃ z, faE t zs p nz = z := ⟨_, rfl⟩
  rw [hZ1, hZ2, hZ3, hZ4, hE] at HN ⊢
  clear hZ1 hZ2 hZ3 hZ4 hE hR
  go_enter Try.func12, Try.ntmps12
  go_wp2_with fail
  refine (HN.out _ _ _ (HR.out.later (by (repeat' (first | (with_reducible exact Below.refl _ _) | (with_reducible assumption) | (with_reducible refine belowThru ?_ (by assumption)) | (with_reducible refine belowAlloc ?_) | (with_reducible refine Below.setCell ?_ (by first | omega | (simp; done) | (simp; omega)) _) | (with_reducible refine Below.drew ?_) | (with_reducible refine below_drewN ?_ _))))) (by simp [go_sem]) (by simp [go_sem])).mono ?_
  rintro e w1 ⟨rfl, hb⟩
  have k0 : Blk w1 (w.heap.size + 1 + 1) #[.int .i64 0, .int .i64 0, .int .i64 0, .int .i64 0] 30 := Blk.later hb (Blk.new (by simp))
  obtain ⟨a0, b0⟩ := k0.read
  go_wp2
  exact bodyPost_ret (v := .tuple #[.agg #[.int .i64 Z1, .int .i64 Z2, .int .i64 Z3, .int .i64 Z4], .int .i64 E]) (by simp only [results, Try.results12]; go_simp) rfl ⟨rfl, by (repeat' (first | (with_reducible exact Below.refl _ _) | (with_reducible assumption) | (with_reducible refine belowThru ?_ (by assumption)) | (with_reducible refine belowAlloc ?_) | (with_reducible refine Below.setCell ?_ (by first | omega | (simp; done) | (simp; omega)) _) | (with_reducible refine Below.drew ?_) | (with_reducible refine below_drewN ?_ _)))⟩
theorem encl_wi (a : Option Addr) (n c : Nat) (zs : List Int) (t nz : Int) (B : Nat) (hn : n ≤ maxLen) (w : World) (hR : Row w a n (iv zs)) (hc : w.cell? ⟨B, 0, none⟩ = some (.int .i64 t)) :
    Calls Try.prog 42 #[.slice a n c, .int .i64 nz, .func (.func 61) #[] #[.pointer (some ⟨B, 0, none⟩)]] w fun e w' => e = .returned (.tuple #[.agg #[.int .i64 (s1 (wiS t zs nz)), .int .i64 (s2 (wiS t zs nz)), .int .i64 (s3 (wiS t zs nz)), .int .i64 (s4 (wiS t zs nz))], .int .i64 (wiE t zs nz)]) ∧ Below w.heap.size w w' := by
  have hl : zs.length = n := by have := hR.1; rwa [iv_length] at this
  have ef := enters_of Try.func61 (by kernel_rfl) rfl
  by_cases h1 : okP zs ∧ okN nz
  · have zl := lwL_ok h1.1 h1.2.1
    have zu := upL_ok h1.1 h1.2.1
    have hz0 := h1.1.1
    have HL : Hid (∀ (b : Nat) (W : World), Below w.heap.size w W → Blk W b (ints (lwL nz zs)) 3 → Calls Try.prog 61 (#[.slice (some ⟨b, 0, none⟩) n n] ++ #[.pointer (some ⟨B, 0, none⟩)]) W fun e W2 => e = .returned (.tuple #[.agg #[.int .i64 (oN (exO t (lwL nz zs))), .int .i64 (oD (exO t (lwL nz zs)))], .int .i64 (exE t (lwL nz zs))]) ∧ Below W.heap.size W W2) := fun b W hW hk =>
      wi1_any (some ⟨b, 0, none⟩) n n (lwL nz zs) t B zl (by rw [lwL_length, hl]) W (Row.of_ints (by rw [lwL_length, hl]) hk) (cell_later hW hc)
    have HM : Hid (∀ (b : Nat) (W : World), Below w.heap.size w W → Blk W b (ints (upL nz zs)) 3 → Calls Try.prog 61 (#[.slice (some ⟨b, 0, none⟩) n n] ++ #[.pointer (some ⟨B, 0, none⟩)]) W fun e W2 => e = .returned (.tuple #[.agg #[.int .i64 (oN (exO t (upL nz zs))), .int .i64 (oD (exO t (upL nz zs)))], .int .i64 (exE t (upL nz zs))]) ∧ Below W.heap.size W W2) := fun b W hW hk =>
      wi1_any (some ⟨b, 0, none⟩) n n (upL nz zs) t B zu (by rw [upL_length, hl]) W (Row.of_ints (by rw [upL_length, hl]) hk) (cell_later hW hc)
    by_cases h2 : okT t
    · rw [show exO t (lwL nz zs) = _ from if_pos h2, show exE t (lwL nz zs) = _ from if_pos h2] at HL
      rw [show exO t (upL nz zs) = _ from if_pos h2, show exE t (upL nz zs) = _ from if_pos h2] at HM
      have e1 : wiS t zs nz = _ := if_pos ⟨h1.1, h1.2, h2⟩
      have e2 : wiE t zs nz = _ := asE_ok h1.1 ⟨h1.2, h2⟩
      cases hx : WX t (lwL nz zs) with
      | none =>
        rw [hx] at HL
        have e3 : wiS t zs nz = none := by rw [e1, hx]; rfl
        rw [e3, e2, hx]
        exact encl_none a n c zs nz _ _ ef h1.1 h1.2 6 rfl w hR HL
      | some x =>
        obtain ⟨y, hy, hyx⟩ := WX_le (lw_up h1.1.2 h1.2.1) (by rw [lwL_length]; omega) hx
        have fx := (WX_fits zl h2.1 hx).2
        have fy := (WX_fits zu h2.1 hy).2
        rw [hx] at HL
        rw [hy] at HM
        have e3 : wiS t zs nz = some (x, y) := by rw [e1, hx, hy]; rfl
        rw [e3, e2, hx]
        have h := encl_some a n c zs nz _ _ ef h1.1 h1.2 x y fx fy w hR HL HM
        rw [lo2_le hyx, hi2_le hyx] at h
        exact h
    · rw [show exO t (lwL nz zs) = _ from if_neg h2, show exE t (lwL nz zs) = _ from if_neg h2] at HL
      have e1 : wiS t zs nz = none := if_neg (fun h => h2 h.2.2)
      have e2 : wiE t zs nz = 2 := asE_arg h1.1 (fun h => h2 h.2)
      rw [e1, e2]
      exact encl_none a n c zs nz _ _ ef h1.1 h1.2 2 rfl w hR HL
  · have e1 : wiS t zs nz = none := if_neg (fun h => h1 ⟨h.1, h.2.1⟩)
    have e2 : wiE t zs nz = if okP zs then 2 else 50 := by
      by_cases hz : okP zs
      · rw [if_pos hz]; exact asE_arg hz (fun h => h1 ⟨hz, h.1⟩)
      · rw [if_neg hz]; exact asE_no hz
    rw [e1, e2]
    exact encl_no a n c zs nz _ _ hn h1 w hR
set_option maxHeartbeats 1000000 in
theorem wi_any (a : Option Addr) (n c : Nat) (zs : List Int) (t nz : Int) (hn : n ≤ maxLen) (w : World) (hR : Row w a n (iv zs)) :
    Calls Try.prog 31 #[.slice a n c, .int .i64 t, .int .i64 nz] w fun e w' => e = .returned (.tuple #[.agg #[.int .i64 (s1 (wiS t zs nz)), .int .i64 (s2 (wiS t zs nz)), .int .i64 (s3 (wiS t zs nz)), .int .i64 (s4 (wiS t zs nz))], .int .i64 (wiE t zs nz)]) ∧ Below w.heap.size w w' := by
  have HN := Lib.hid (fun B w => encl_wi a n c zs t nz B hn w)
  have HR := Lib.hid hR
  obtain ⟨Z1, hZ1⟩ : ∃ z, s1 (wiS t zs nz) = z := ⟨_, rfl⟩
  obtain ⟨Z2, hZ2⟩ : ∃ z, s2 (wiS t zs nz) = z := ⟨_, rfl⟩
  obtain ⟨Z3, hZ3⟩ : ∃ z, s3 (wiS t zs nz) = z := ⟨_, rfl⟩
  obtain ⟨Z4, hZ4⟩ : ∃ z, s4 (wiS t zs nz) = z := ⟨_, rfl⟩
  obtain ⟨E, hE⟩ : ∃ z, wiE t zs nz = z := ⟨_, rfl⟩
  rw [hZ1, hZ2, hZ3, hZ4, hE] at HN ⊢
  clear hZ1 hZ2 hZ3 hZ4 hE hR
  go_enter Try.func31, Try.ntmps31
  go_wp2_with fail
  refine (HN.out _ _ (HR.out.later (by (repeat' (first | (with_reducible exact Below.refl _ _) | (with_reducible assumption) | (with_reducible refine belowThru ?_ (by assumption)) | (with_reducible refine belowAlloc ?_) | (with_reducible refine Below.setCell ?_ (by first | omega | (simp; done) | (simp; omega)) _) | (with_reducible refine Below.drew ?_) | (with_reducible refine below_drewN ?_ _))))) (by simp [go_sem])).mono ?_
  rintro e w1 ⟨rfl, hb⟩
  have k0 : Blk w1 (w.heap.size + 1) #[.int .i64 0, .int .i64 0, .int .i64 0, .int .i64 0] 30 := Blk.later hb (Blk.new (by simp))
  obtain ⟨a0, b0⟩ := k0.read
  go_wp2
  exact bodyPost_ret (v := .tuple #[.agg #[.int .i64 Z1, .int .i64 Z2, .int .i64 Z3, .int .i64 Z4], .int .i64 E]) (by simp only [results, Try.results31]; go_simp) rfl ⟨rfl, by (repeat' (first | (with_reducible exact Below.refl _ _) | (with_reducible assumption) | (with_reducible refine belowThru ?_ (by assumption)) | (with_reducible refine belowAlloc ?_) | (with_reducible refine Below.setCell ?_ (by first | omega | (simp; done) | (simp; omega)) _) | (with_reducible refine Below.drew ?_) | (with_reducible refine below_drewN ?_ _)))⟩
end Go.Proofs.Ytdimmnoflenfhaa
/-
  Layer 5: valid gauges, by the code.
-/
namespace Go.Proofs.Ytdimmnoflenfhaa
open Go.RowKit Go.Shelf
set_option linter.unusedVariables false
set_option linter.unusedSimpArgs false

/-- A fraction that a gauge may have. -/
def smF (a b : Int) : Prop := (-1000000 ≤ a ∧ a ≤ 1000000) ∧ b ≤ 1000000
end Go.Proofs.Ytdimmnoflenfhaa
/-
  Layer 5: whether the reference takes a profile, whether a span contains a number, by the statements' own texts.
-/
namespace Go.Proofs.Ytdimmnoflenfhaa
open Go.RowKit Go.Shelf
set_option linter.unusedVariables false
set_option linter.unusedSimpArgs false

set_option maxHeartbeats 400000 in
theorem rwithin_yes (n lo hi : Int) (h1 : lo ≤ n) (h2 : n ≤ hi) (w : World) :
    Calls Try.prog 88 #[.int .i64 n, .int .i64 lo, .int .i64 hi] w fun e w' => e = .returned (.bool true) ∧ w = w' := by
  go_enter Try.func88, Try.ntmps88
  go_wp2
  go_ret
  exact ⟨rfl, rfl⟩
set_option maxHeartbeats 400000 in
theorem rwithin_no (n lo hi : Int) (h : ¬ (lo ≤ n ∧ n ≤ hi)) (w : World) :
    Calls Try.prog 88 #[.int .i64 n, .int .i64 lo, .int .i64 hi] w fun e w' => e = .returned (.bool false) ∧ w = w' := by
  by_cases h1 : lo ≤ n
  · have hd : decide (n ≤ hi) = false := by simp; omega
    clear h
    go_enter Try.func88, Try.ntmps88
    go_wp2
    go_ret
    exact ⟨rfl, rfl⟩
  · have hd : decide (lo ≤ n) = false := by simpa using h1
    clear h
    go_enter Try.func88, Try.ntmps88
    go_wp2
    go_ret
    exact ⟨rfl, rfl⟩
set_option maxHeartbeats 2000000 in
theorem val_loop (a : Option Addr) (n c : Nat) (zs : List Int) (hn2 : 2 ≤ n) (hn64 : n ≤ 64) (w : World) (hR : Row w a n (iv zs)) :
    Calls Try.prog 60 #[.slice a n c] w fun e w' => e = .returned (.bool (decide (okP zs))) ∧ Below w.heap.size w w' := by
  have hx : zs.length = n := by have := hR.1; rwa [iv_length] at this
  have HX := Lib.hid hx; have HR := Lib.hid hR
  clear hx hR
  have p2 : (2 : Int) ≤ (n : Int) := by omega
  have p3 : (n : Int) ≤ 64 := by omega
  go_enter Try.func60, Try.ntmps60
  go_wp2
  go_loopw [3] (fun i wr => ∃ k : Nat, k ≤ n ∧ i = .int .i64 k ∧ Hid (V8 (zs.take k)) ∧ Below w.heap.size w wr) (fun i _ => n - (intOf i).toNat)
  case atStart => exact ⟨0, Nat.zero_le _, rfl, (show V8 (zs.take 0) from fun z hz => by simp at hz), by (repeat' (first | (with_reducible exact Below.refl _ _) | (with_reducible assumption) | (with_reducible refine belowThru ?_ (by assumption)) | (with_reducible refine belowAlloc ?_) | (with_reducible refine Below.setCell ?_ (by first | omega | (simp; done) | (simp; omega)) _) | (with_reducible refine Below.drew ?_) | (with_reducible refine below_drewN ?_ _)))⟩
  case round =>
    obtain ⟨k, hk, rfl, ht, hB⟩ := hrel
    by_cases hlt : k < n
    · obtain ⟨b1, o1, z1, rfl, l1, h1, c1⟩ := HR.out.int hlt
      have c1 := cell_later hB c1
      have p0 : (0 : Int) ≤ (k : Int) := by omega
      have p1 : (k : Int) < (n : Int) := by omega
      by_cases he : 0 ≤ z1 ∧ z1 ≤ 255
      · have ht' : Hid (V8 (zs.take (k + 1))) := V8.snoc ht.out h1 he
        have HC := Lib.hid (rwithin_yes z1 0 255 he.1 he.2)
        clear h1 he
        go_wp2_with (go_at_call 88; ((with_reducible refine (HC.out _).mono ?_); rintro e w1 ⟨rfl, rfl⟩))
        go_roundw
        case rel => exact ⟨k + 1, hlt, by go_num, ht', by (repeat' (first | (with_reducible exact Below.refl _ _) | (with_reducible assumption) | (with_reducible refine belowThru ?_ (by assumption)) | (with_reducible refine belowAlloc ?_) | (with_reducible refine Below.setCell ?_ (by first | omega | (simp; done) | (simp; omega)) _) | (with_reducible refine Below.drew ?_) | (with_reducible refine below_drewN ?_ _)))⟩
        case measure => simp [intOf]; omega
      · have hz : decide (okP zs) = false := decide_eq_false (fun h => V8.not h1 he h.2)
        have HC := Lib.hid (rwithin_no z1 0 255 he)
        clear h1 he
        go_wp2_with (go_at_call 88; ((with_reducible refine (HC.out _).mono ?_); rintro e w1 ⟨rfl, rfl⟩))
        go_ret
        exact ⟨by rw [hz]; rfl, by (repeat' (first | (with_reducible exact Below.refl _ _) | (with_reducible assumption) | (with_reducible refine belowThru ?_ (by assumption)) | (with_reducible refine belowAlloc ?_) | (with_reducible refine Below.setCell ?_ (by first | omega | (simp; done) | (simp; omega)) _) | (with_reducible refine Below.drew ?_) | (with_reducible refine below_drewN ?_ _)))⟩
    · have hz : decide (okP zs) = true := decide_eq_true ⟨⟨by rw [HX.out]; exact hn2, by rw [HX.out]; exact hn64⟩, V8.all (k := k) ht.out (by rw [HX.out]; omega)⟩
      have p1 : (n : Int) ≤ (k : Int) := by omega
      go_wp2
      go_ret
      exact ⟨by rw [hz]; rfl, by (repeat' (first | (with_reducible exact Below.refl _ _) | (with_reducible assumption) | (with_reducible refine belowThru ?_ (by assumption)) | (with_reducible refine belowAlloc ?_) | (with_reducible refine Below.setCell ?_ (by first | omega | (simp; done) | (simp; omega)) _) | (with_reducible refine Below.drew ?_) | (with_reducible refine below_drewN ?_ _)))⟩
set_option maxHeartbeats 400000 in
theorem val_any (a : Option Addr) (n c : Nat) (zs : List Int) (hn : n ≤ 64) (w : World) (hR : Row w a n (iv zs)) :
    Calls Try.prog 60 #[.slice a n c] w fun e w' => e = .returned (.bool (decide (okP zs))) ∧ Below w.heap.size w w' := by
  by_cases hl : 2 ≤ n
  · exact val_loop a n c zs hl hn w hR
  · have hx : zs.length = n := by have := hR.1; rwa [iv_length] at this
    rw [decide_eq_false (fun h : okP zs => hl (by rw [← hx]; exact h.1.1))]
    have p1 : (n : Int) < 2 := by omega
    have hd : decide ((n : Int) < 2) = true := decide_eq_true p1
    clear hl hx hR
    go_enter Try.func60, Try.ntmps60
    go_wp2
    go_ret
    exact ⟨rfl, by (repeat' (first | (with_reducible exact Below.refl _ _) | (with_reducible assumption) | (with_reducible refine belowThru ?_ (by assumption)) | (with_reducible refine belowAlloc ?_) | (with_reducible refine Below.setCell ?_ (by first | omega | (simp; done) | (simp; omega)) _) | (with_reducible refine Below.drew ?_) | (with_reducible refine below_drewN ?_ _)))⟩
end Go.Proofs.Ytdimmnoflenfhaa
