/-
  The texts that the laws of this seat share, merged: part 2.
-/
import Derived.BigQuiet
import Derived.Deep.CutRange
import Derived.Deep.DeepCutAuto
import Derived.Deep.Draws
import Derived.Deep.OwnRows
import Derived.Deep.QuietTactic
import Derived.Deep.RegionHeld3
import Derived.Laws.AppendOwn
import Derived.Lib.Hide
import Derived.LoopIn
import Derived.LoopNIn
import Derived.OneCell
import Derived.Orders
import Derived.OwnWalkIn
import Derived.RangeFuncBound
import Derived.RangeFuncCalls
import Derived.RangeFuncLeaves
import Derived.RangeFuncNested
import Derived.Shelf.Abstract
import Derived.Shelf.AbstractIn
import Derived.Shelf.RegionOpen
import Derived.StillTailTactics
import Derived.TacticsInMore
import Derived.Test.YtghmjdmiaajbnaaProg
import Derived.WalkKit
import Derived.WalkSmall
import Derived.WalkSpells
import Derived.Test.YtghmjdmiaajbnaaM1
/-
  Layer 2: new images out of the values for their places.
-/
namespace Go.Proofs.Ytghmjdmiaajbnaa
open Go.RowKit Go.Shelf
set_option linter.unusedVariables false
set_option linter.unusedSimpArgs false

attribute [local go_sem] Oper.semAt_some

theorem Blk.own {X Y : World} {b : Nat} {c : Array Value} {t : TypeId} {row : Option Nat} (h : Blk X b c t) (hg : X.grownBy Y row) (hr : ∀ r, row = some r → ∃ o : Obj, X.heap[r]? = some o ∧ o.isCells = false) : Blk Y b c t :=
  (hg.block b h.lt (fun e => by
    obtain ⟨o, ho, hc⟩ := hr b e.symm
    have : X.heap[b]? = _ := h
    rw [this] at ho; cases ho; cases hc)).trans h
theorem made_ints (N : Nat) : madeCells #[.int .i64 0] N = ints (List.replicate N 0) := by
  unfold madeCells ints
  apply Array.ext
  · simp
  · intro i h1 h2
    simp [Nat.mod_one]
theorem run_make_ints (N : Nat) (h : N ≤ 1099511627776) (w : World) : (Instr.makeSlice 22 (.int .i64 (N : Int)) (.int .i64 (N : Int))).run Try.prog w = .ok (.slice (some ⟨w.heap.size, 0, none⟩) N N) (w.alloc (.cells (ints (List.replicate N 0)) 3)) := by
  rw [← made_ints]
  exact run_make_row' 22 3 (.int .i64 0) 8 Try.underlying22 (by kernel_rfl) rfl .i64 .i64 N (by omega) (by omega) w
theorem ints_set (zs : List Int) (p : Nat) (v : Int) : (ints zs).setIfInBounds p (.int .i64 v) = ints (zs.set p v) := by
  unfold ints
  apply Array.ext'
  simp [List.map_set]

theorem alloc5 (w : World) (c0 : Array Value) (t0 : TypeId) (c1 : Array Value) (t1 : TypeId) (c2 : Array Value) (t2 : TypeId) (c3 : Array Value) (t3 : TypeId) (c4 : Array Value) (t4 : TypeId) :
    ∃ W0, ((((w.alloc (.cells c0 t0)).alloc (.cells c1 t1)).alloc (.cells c2 t2)).alloc (.cells c3 t3)).alloc (.cells c4 t4) = W0 ∧ Blk W0 w.heap.size c0 t0 ∧ Blk W0 (w.heap.size + 1) c1 t1 ∧ Blk W0 (w.heap.size + 1 + 1) c2 t2 ∧ Blk W0 (w.heap.size + 1 + 1 + 1) c3 t3 ∧ Blk W0 (w.heap.size + 1 + 1 + 1 + 1) c4 t4 ∧ Below w.heap.size w W0 ∧ W0.heap.size = w.heap.size + 1 + 1 + 1 + 1 + 1 :=
  ⟨_, rfl, Blk.alloc (Blk.alloc (Blk.alloc (Blk.alloc (Blk.new rfl)))), Blk.alloc (Blk.alloc (Blk.alloc (Blk.new (by simp)))), Blk.alloc (Blk.alloc (Blk.new (by simp))), Blk.alloc (Blk.new (by simp)), Blk.new (by simp), by (repeat' (first | (with_reducible exact Below.refl _ _) | (with_reducible assumption) | (with_reducible refine belowThru ?_ (by assumption)) | (with_reducible refine belowAlloc ?_) | (with_reducible refine Below.setCell ?_ (by first | omega | (simp; done) | (simp; omega)) _) | (with_reducible refine Below.drew ?_) | (with_reducible refine below_drewN ?_ _))), by simp⟩
theorem cell_putObj {W : World} {l : Nat} {o o' : Obj} {a : Addr} {v : Value} (ho : W.heap[l]? = some o) (hc : o.isCells = false) (h : W.cell? a = some v) : (W.putObj l o').cell? a = some v := by
  rw [World.cell?_of_block (w := W)]
  · exact h
  · refine World.putObj_heap_other (fun e => ?_)
    unfold World.cell? at h
    rw [e, ho] at h
    cases o <;> simp_all [Obj.isCells]
theorem PixG.putObj {Bm b off len c : Nat} {Wd Hd : Int} {R : Nat → Int → Prop} {W : World} {l : Nat} {o o' : Obj} (h : PixG Bm b off len c Wd Hd R W) (ho : W.heap[l]? = some o) (hc : o.isCells = false) : PixG Bm b off len c Wd Hd R (W.putObj l o') := by
  obtain ⟨g0, g1, g2, g3⟩ := h
  exact ⟨cell_putObj ho hc g0, cell_putObj ho hc g1, cell_putObj ho hc g2, fun j hj => by obtain ⟨z, hz, cz⟩ := g3 j hj; exact ⟨z, hz, cell_putObj ho hc cz⟩⟩

theorem PixG.alloc {Bm b off len c : Nat} {Wd Hd : Int} {R : Nat → Int → Prop} {W : World} (h : PixG Bm b off len c Wd Hd R W) (o : Obj) : PixG Bm b off len c Wd Hd R (W.alloc o) := by
  obtain ⟨g0, g1, g2, g3⟩ := h
  exact ⟨cell_alloc g0, cell_alloc g1, cell_alloc g2, fun j hj => by obtain ⟨z, hz, cz⟩ := g3 j hj; exact ⟨z, hz, cell_alloc cz⟩⟩
theorem PixG.later {Bm b off len c : Nat} {Wd Hd : Int} {R : Nat → Int → Prop} {W W' : World} (hb : Below W.heap.size W W') (h : PixG Bm b off len c Wd Hd R W) : PixG Bm b off len c Wd Hd R W' := by
  obtain ⟨g0, g1, g2, g3⟩ := h
  exact ⟨cell_later hb g0, cell_later hb g1, cell_later hb g2, fun j hj => by obtain ⟨z, hz, cz⟩ := g3 j hj; exact ⟨z, hz, cell_later hb cz⟩⟩

/-- What is written so far of a new image. -/
def Put (N : Nat) (V : Nat → Int) (pre : List (Pel N (fun _ _ => True))) (zs : List Int) : Prop := zs.length = N ∧ ∀ x ∈ pre, zs[x.1.1]? = some (inR (V x.1.1) (-2147483648) 2147483648)
theorem Put.snoc {N : Nat} {V : Nat → Int} {pre : List (Pel N (fun _ _ => True))} {zs : List Int} (h : Put N V pre zs) (x : Pel N (fun _ _ => True)) : Put N V (pre ++ [x]) (zs.set x.1.1 (inR (V x.1.1) (-2147483648) 2147483648)) := by
  refine ⟨by rw [List.length_set]; exact h.1, fun y hy => ?_⟩
  by_cases e : x.1.1 = y.1.1
  · rw [e, List.getElem?_set_self (by rw [h.1]; exact y.2.1)]
  · rw [List.getElem?_set_ne e]
    rcases List.mem_append.1 hy with k | k
    · exact h.2 y k
    · rw [List.mem_singleton] at k; subst k; exact absurd rfl e
theorem Put.all {N : Nat} {V : Nat → Int} {xs : List (Pel N (fun _ _ => True))} {zs : List Int} (h : Put N V xs zs) (ha : PixAll N xs) : zs = (List.range N).map fun k => inR (V k) (-2147483648) 2147483648 := by
  apply List.ext_getElem?
  intro i
  by_cases hi : i < N
  · have hm : i ∈ xs.map (fun x => x.1.1) := by rw [ha]; exact List.mem_range.2 hi
    obtain ⟨x, hx, rfl⟩ := List.mem_map.1 hm
    rw [h.2 x hx]; simp [hi]
  · rw [List.getElem?_eq_none (by rw [h.1]; omega), List.getElem?_eq_none (by simp; omega)]

set_option maxRecDepth 100000 in
set_option maxHeartbeats 4000000 in
theorem build_in (n : Nat) (hn : 3 ≤ n) (W H : Int) (N : Nat) (f : FuncId) (cap : Array Value) (V : Nat → Int) (hN : W * H = (N : Int)) (w0 : 1 ≤ W) (w1 : W ≤ 16) (h0 : 1 ≤ H) (h1 : H ≤ 16) (N1 : N ≤ 256)
    (ef : ∀ args w, (callFunc f args).run Try.prog w = .ok (.enter f args) w) (w : World)
    (HV : Hid (∀ k, k < N → ∀ W1, Below w.heap.size w W1 → Calls Try.prog f (#[.agg #[.int .i64 ((k : Int) % W), .int .i64 ((k : Int) / W)]] ++ cap) W1 fun e W2 => e = .returned (.int .i64 (V k)) ∧ Below W1.heap.size W1 W2)) :
    CallsIn Fence.wide n Try.prog 53 #[.int .i64 W, .int .i64 H, .func (.func f) #[] cap] w fun e w' => ∃ b, e = .returned (.agg #[.int .i64 W, .int .i64 H, .slice (some ⟨b, 0, none⟩) N N]) ∧ w.heap.size ≤ b ∧ Blk w' b (ints ((List.range N).map fun k => inR (V k) (-2147483648) 2147483648)) 3 ∧ Below w.heap.size w w' := by
  have hmk := run_make_ints N (by omega)
  have hw : IntKind.i64.wrap (N : Int) = (N : Int) := IntWalk.i64_in _ (by omega)
  refine callsIn_of_wp_marks Try.func53 rfl trivial ?_ rfl
  simp only [Try.ntmps53, List.size_toArray, List.length_cons, List.length_nil, Nat.reduceAdd, Nat.reduceSub, Array.replicate_succ, Array.replicate_zero, List.push_toArray, List.append_toArray, List.nil_append, List.cons_append]
  have n1 : 1 ≤ n := by omega
  have n2 : 1 ≤ n - 1 - 1 := by omega
  have hmx : Try.prog.follows .mixedOrders = true := by kernel_rfl
  gi_wp2_with ((try (refine ⟨trivial, ?_⟩)); gi_at_call 69; refine (callsIn_wide.2 (pixels_any _ _ _ _ _ _)).mono ?_; rintro e w' ⟨rfl, rfl⟩)
  obtain ⟨W0, hW0, k0, k1, k2, k3, k4, hB0, hsz⟩ := alloc5 w #[.func (.func f) #[] cap] 87 #[.int .i64 0, .int .i64 0, .slice none 0 0] 24 (ints (List.replicate N 0)) 3 #[.int .i64 W, .int .i64 H, .slice (some ⟨w.heap.size + 1 + 1, 0, none⟩) N N] 86 #[.int .i64 W, .int .i64 H, .slice (some ⟨w.heap.size + 1 + 1, 0, none⟩) N N] 86
  rw [hW0]
  clear hW0
  have hG0 : PixG (w.heap.size + 1 + 1 + 1 + 1) (w.heap.size + 1 + 1) 0 N N W H (fun _ _ => True) W0 :=
    ⟨k4.cells 0, k4.cells 1, k4.cells 2, fun j hj => ⟨0, trivial, by rw [k2.cells, ints_get, Nat.zero_add, List.getElem?_replicate, if_pos hj]; rfl⟩⟩
  refine wpIn_rangeFunc_ownH rfl n1 (gf := 110) (lb := #[.pointer (some ⟨w.heap.size + 1 + 1 + 1 + 1, 0, none⟩)]) rfl trivial (enters_of Try.func110 (by kernel_rfl) rfl)
    (pix_stops (n - 1) (w.heap.size + 1 + 1 + 1 + 1) (w.heap.size + 1 + 1) 0 N N W H (fun _ _ => True) (by omega) w0 (by omega) W0 (by omega) (by omega) hG0)
    (fun hAB hBC hA => hBC (hAB hA))
    (fun W1 l o o' hl ho hc _ hG => PixG.putObj hG ho hc)
    (Below.refl _ _) (fun _ => rfl)
    (fun pre W1 => (∃ zs, Put N V pre zs ∧ Blk W1 (w.heap.size + 1 + 1) (ints zs) 3) ∧ (Blk W1 w.heap.size #[.func (.func f) #[] cap] 87 ∧ Blk W1 (w.heap.size + 1) #[.int .i64 0, .int .i64 0, .slice none 0 0] 24 ∧ Blk W1 (w.heap.size + 1 + 1 + 1) #[.int .i64 W, .int .i64 H, .slice (some ⟨w.heap.size + 1 + 1, 0, none⟩) N N] 86 ∧ Blk W1 (w.heap.size + 1 + 1 + 1 + 1) #[.int .i64 W, .int .i64 H, .slice (some ⟨w.heap.size + 1 + 1, 0, none⟩) N N] 86) ∧ Below w.heap.size w W1)
    (fun _ _ _ => False)
    (fun s X Y row hs hg hr => by
      obtain ⟨⟨zs, hp, kz⟩, ⟨b0, b1, b3, b4⟩, hb⟩ := hs
      have hr' := fun r e => (hr r e).2
      exact ⟨⟨zs, hp, kz.own hg hr'⟩, ⟨b0.own hg hr', b1.own hg hr', b3.own hg hr', b4.own hg hr'⟩, ownFrom_below (β := Unit) (Nat.le_refl _) hB0.size () X Y row hb hg hr⟩)
    (fun _ _ _ _ _ hs _ _ => hs)
    ⟨⟨_, ⟨List.length_replicate, fun _ h => by cases h⟩, k2⟩, ⟨k0, k1, k3, k4⟩, hB0⟩
    (fun x a' W1 => ∃ Bx, Blk W1 Bx #[.int .i64 ((x.1.1 : Int) % W), .int .i64 ((x.1.1 : Int) / W)] 83 ∧ w.heap.size + 1 + 1 + 1 + 1 < Bx ∧ a' = { tmps := #[.int .i64 W, .int .i64 H, .func (.func f) #[] cap, undef, undef, .pointer (some ⟨w.heap.size, 0, none⟩), .pointer (some ⟨w.heap.size + 1, 0, none⟩), .pointer (some ⟨w.heap.size + 1 + 1 + 1, 0, none⟩), .pointer (some ⟨Bx, 0, none⟩), .int .i64 W, .int .i64 H, .int .i64 W, .int .i64 H, .int .i64 N, .slice (some ⟨w.heap.size + 1 + 1, 0, none⟩) N N, .agg #[.int .i64 W, .int .i64 H, .slice (some ⟨w.heap.size + 1 + 1, 0, none⟩) N N], .agg #[.int .i64 W, .int .i64 H, .slice (some ⟨w.heap.size + 1 + 1, 0, none⟩) N N], .func (.func 110) #[] #[.pointer (some ⟨w.heap.size + 1 + 1 + 1 + 1, 0, none⟩)], .agg #[.int .i64 ((x.1.1 : Int) % W), .int .i64 ((x.1.1 : Int) / W)], .int .i64 x.1.2, undef, undef, undef, undef, undef, undef, undef, undef, undef, undef, undef], defers := [] })
    (fun x a' _ X Y row hs hg hr => by obtain ⟨Bx, h1, h2, h3⟩ := hs; exact ⟨Bx, h1.own hg (fun r e => (hr r e).2), h2, h3⟩)
    ?assign ?body ?done ?stop
  case assign =>
    rintro l pre x W1 K ⟨⟨zs, hp, kz⟩, ⟨b0, b1, b3, b4⟩, hb⟩ hK
    simp only [pxEnc]
    gi_wp2
    exact hK _ _ ((KeepsOthers.alloc _ _).from _) (fun hG => hG.alloc _) ⟨⟨zs, hp, kz.alloc⟩, ⟨b0.alloc, b1.alloc, b3.alloc, b4.alloc⟩, hb.alloc hb.size _⟩ ⟨W1.heap.size, Blk.new rfl, by have := b4.lt; omega, rfl⟩
  case body =>
    rintro l pre x a' W1 hl _ ⟨⟨zs, hp, k3⟩, ⟨k0, kr, k1, k4⟩, hB⟩ ⟨Bx, k2, hx, rfl⟩ hlt
    obtain ⟨⟨k, z⟩, hk, ht⟩ := x
    have hp' := hp.snoc ⟨(k, z), hk, ht⟩
    dsimp only at hk k2 hp' ⊢
    have hkN : (k : Int) < (N : Int) := by omega
    have hk0 : (0 : Int) ≤ (k : Int) := by omega
    obtain ⟨v1, v2, v3, v4, v5, v6⟩ := small_div k W w0 (by omega)
    have HI := Lib.hid (fun w' => index_any W H ((k : Int) % W) ((k : Int) / W) k (some ⟨w.heap.size + 1 + 1, 0, none⟩) N N (Lib.hid (by have := Int.mul_ediv_add_emod (k : Int) W; rw [Int.mul_comm]; exact this)) v3 (by
      have : (k : Int) / W < H := Int.ediv_lt_of_lt_mul (by omega) (by rw [Int.mul_comm, hN]; omega)
      omega) (by omega) (by omega) v5 (by omega) w')
    obtain ⟨z0, hz0⟩ : ∃ z0, (ints zs)[k]? = some (.int .i64 z0) := ⟨zs[k]'(by rw [hp.1]; exact hk), by rw [ints_get, List.getElem?_eq_getElem (by rw [hp.1]; exact hk)]; rfl⟩
    have HV1 := Lib.hid (HV.out k hk)
    obtain ⟨a0, b0⟩ := k0.read; obtain ⟨a1, b1⟩ := k1.read; obtain ⟨a2, b2⟩ := k2.read; obtain ⟨a3, b3⟩ := k3.read; obtain ⟨a4, b4⟩ := k4.read
    have hw1 := k4.lt
    have HB1 := Lib.hid hB
    clear v1 v2 v3 v4 v5 v6 hmk hw hN hG0
    gi_wp2
    refine held_in (fun w' => (Blk w' w.heap.size #[.func (.func f) #[] cap] 87 ∧ (∀ i : Nat, w'.cell? ⟨w.heap.size, i, none⟩ = (#[.func (.func f) #[] cap] : Array Value)[i]?)) ∧ (Blk w' (w.heap.size + 1 + 1 + 1) #[.int .i64 W, .int .i64 H, .slice (some ⟨w.heap.size + 1 + 1, 0, none⟩) N N] 86 ∧ (∀ i : Nat, w'.cell? ⟨w.heap.size + 1 + 1 + 1, i, none⟩ = (#[.int .i64 W, .int .i64 H, .slice (some ⟨w.heap.size + 1 + 1, 0, none⟩) N N] : Array Value)[i]?)) ∧ (Blk w' Bx #[.int .i64 ((k : Int) % W), .int .i64 ((k : Int) / W)] 83 ∧ (∀ i : Nat, w'.cell? ⟨Bx, i, none⟩ = (#[.int .i64 ((k : Int) % W), .int .i64 ((k : Int) / W)] : Array Value)[i]?)) ∧ Below w.heap.size w w') hmx (by kernel_rfl) (by rintro ⟨_, _, h⟩; exact h) ⟨k0.drew.full, k1.drew.full, k2.drew.full, hB.drew⟩ (fun hHeld => ?_)
    refine wpAnyH_take (i := 0) (v := ?_) rfl (by kernel_rfl) (by kernel_rfl) (by kernel_rfl) (fun _ _ _ h => h) (Or.inl ⟨by rfl, ?hT0⟩) (by assumption) ?_
    case hT0 => ((intro w hSw; (try dsimp only at hSw); go_simp); try (with_reducible rfl))
    try simp only [Act.put, List.setIfInBounds_toArray, List.set_cons_zero, List.set_cons_succ]
    refine wpAnyH_take (i := 1) (v := ?_) rfl (by kernel_rfl) (by kernel_rfl) (by kernel_rfl) (fun _ _ _ h => h) (Or.inl ⟨by rfl, ?hT1⟩) (by assumption) ?_
    case hT1 => ((intro w hSw; (try dsimp only at hSw); go_simp); try (with_reducible rfl))
    try simp only [Act.put, List.setIfInBounds_toArray, List.set_cons_zero, List.set_cons_succ]
    refine wpAnyH_take (i := 2) (v := ?_) rfl (by kernel_rfl) (by kernel_rfl) (by kernel_rfl) (fun _ _ _ h => h) (Or.inl ⟨by rfl, ?hT2⟩) (by assumption) ?_
    case hT2 => ((intro w hSw; (try dsimp only at hSw); go_simp); try (with_reducible rfl))
    try simp only [Act.put, List.setIfInBounds_toArray, List.set_cons_zero, List.set_cons_succ]
    refine wpAnyH_take (i := 3) (v := ?_) rfl (by kernel_rfl) (by kernel_rfl) (by kernel_rfl) (fun _ _ _ h => h) (Or.inl ⟨by rfl, ?hT3⟩) (by assumption) ?_
    case hT3 => ((intro w hSw; (try dsimp only at hSw); go_simp); try (with_reducible rfl))
    try simp only [Act.put, List.setIfInBounds_toArray, List.set_cons_zero, List.set_cons_succ]
    refine wpAnyH_take (i := 5) (v := ?_) rfl (by kernel_rfl) (by kernel_rfl) (by kernel_rfl) (fun _ _ _ h => h) (Or.inl ⟨by rfl, ?hT4⟩) (by assumption) ?_
    case hT4 => ((intro w hSw; (try dsimp only at hSw); go_simp); try (with_reducible rfl))
    try simp only [Act.put, List.setIfInBounds_toArray, List.set_cons_zero, List.set_cons_succ]
    refine wpAnyH_take (i := 6) (v := ?_) rfl (by kernel_rfl) (by kernel_rfl) (by kernel_rfl) (fun _ _ _ h => h) (Or.inl ⟨by rfl, ?hT5⟩) (by assumption) ?_
    case hT5 => ((intro w hSw; (try dsimp only at hSw); go_simp); try (with_reducible rfl))
    try simp only [Act.put, List.setIfInBounds_toArray, List.set_cons_zero, List.set_cons_succ]
    refine wpAnyH_ready (rs := [4]) (by kernel_rfl) (by simp) ?_
    refine AllReadyH.cons rfl (fun K hK => ?_) AllReadyH.nil
    go_simp
    (go_at_call 96; (with_reducible refine (HI.out _).mono ?_); rintro e wA ⟨rfl, hb⟩)
    refine hK.out _ _ ?_ (fun hHeldN => ?_)
    · (try dsimp only); (((first | (apply hold3; (focus assumption); intro p0 p1 p2 pB) | skip); refine ⟨Blk.full ?_, Blk.full ?_, Blk.full ?_, ?_⟩; all_goals (first | ((repeat' (first | (with_reducible assumption) | ((with_reducible refine Blk.new ?_); first | rfl | (simp; done)) | (with_reducible refine Blk.later (by assumption) ?_) | (with_reducible refine Blk.alloc ?_) | (with_reducible refine Blk.drewN ?_) | (with_reducible refine Blk.drew ?_) | (with_reducible refine Blk.other ?_ (by first | omega | (simp; done) | (simp; omega))))); done) | ((repeat' (first | (with_reducible exact Below.refl _ _) | (with_reducible assumption) | (with_reducible refine belowThru ?_ (by assumption)) | (with_reducible refine belowAlloc ?_) | (with_reducible refine Below.setCell ?_ (by first | omega | (simp; done) | (simp; omega)) _) | (with_reducible refine Below.drew ?_) | (with_reducible refine below_drewN ?_ _))); done))))
    clear hK K hHeld
    have hHeld := hHeldN
    clear hHeldN
    try simp only [Act.put, List.setIfInBounds_toArray, List.set_cons_zero, List.set_cons_succ]
    have hA : Below W1.heap.size W1 wA := ((Below.refl _ W1).drew).trans hb
    clear hb
    refine wpAnyH_ready (rs := [7]) (by kernel_rfl) (by simp) ?_
    refine AllReadyH.cons rfl (fun K hK => ?_) AllReadyH.nil
    go_simp
    (go_at_fn f; (with_reducible refine (HV1.out _ (HB1.out.trans (hA.mono HB1.out.size))).mono ?_); rintro e wB ⟨rfl, hb⟩)
    refine hK.out _ _ ?_ (fun hHeldN => ?_)
    · (try dsimp only); (((first | (apply hold3; (focus assumption); intro p0 p1 p2 pB) | skip); refine ⟨Blk.full ?_, Blk.full ?_, Blk.full ?_, ?_⟩; all_goals (first | ((repeat' (first | (with_reducible assumption) | ((with_reducible refine Blk.new ?_); first | rfl | (simp; done)) | (with_reducible refine Blk.later (by assumption) ?_) | (with_reducible refine Blk.alloc ?_) | (with_reducible refine Blk.drewN ?_) | (with_reducible refine Blk.drew ?_) | (with_reducible refine Blk.other ?_ (by first | omega | (simp; done) | (simp; omega))))); done) | ((repeat' (first | (with_reducible exact Below.refl _ _) | (with_reducible assumption) | (with_reducible refine belowThru ?_ (by assumption)) | (with_reducible refine belowAlloc ?_) | (with_reducible refine Below.setCell ?_ (by first | omega | (simp; done) | (simp; omega)) _) | (with_reducible refine Below.drew ?_) | (with_reducible refine below_drewN ?_ _))); done))))
    clear hK K hHeld
    have hHeld := hHeldN
    clear hHeldN
    try simp only [Act.put, List.setIfInBounds_toArray, List.set_cons_zero, List.set_cons_succ]
    have hAB : Below W1.heap.size W1 wB := hA.trans (hb.mono hA.size)
    clear hb hA
    refine wpAnyH_ready (rs := [8]) (by kernel_rfl) (by simp) ?_
    refine AllReadyH.cons rfl (fun K hK => ?_) AllReadyH.nil
    go_simp
    (go_at_call 55; (with_reducible refine (bring_any _ _ _ _).mono ?_); rintro e w1 ⟨rfl, rfl⟩)
    refine hK.out _ _ ?_ (fun hHeldN => ?_)
    · (try dsimp only); (((first | (apply hold3; (focus assumption); intro p0 p1 p2 pB) | skip); refine ⟨Blk.full ?_, Blk.full ?_, Blk.full ?_, ?_⟩; all_goals (first | ((repeat' (first | (with_reducible assumption) | ((with_reducible refine Blk.new ?_); first | rfl | (simp; done)) | (with_reducible refine Blk.later (by assumption) ?_) | (with_reducible refine Blk.alloc ?_) | (with_reducible refine Blk.drewN ?_) | (with_reducible refine Blk.drew ?_) | (with_reducible refine Blk.other ?_ (by first | omega | (simp; done) | (simp; omega))))); done) | ((repeat' (first | (with_reducible exact Below.refl _ _) | (with_reducible assumption) | (with_reducible refine belowThru ?_ (by assumption)) | (with_reducible refine belowAlloc ?_) | (with_reducible refine Below.setCell ?_ (by first | omega | (simp; done) | (simp; omega)) _) | (with_reducible refine Below.drew ?_) | (with_reducible refine below_drewN ?_ _))); done))))
    clear hK K hHeld
    have hHeld := hHeldN
    clear hHeldN
    try simp only [Act.put, List.setIfInBounds_toArray, List.set_cons_zero, List.set_cons_succ]
    refine wpAnyH_take (i := 9) (v := ?_) rfl (by kernel_rfl) (by kernel_rfl) (by kernel_rfl) (fun _ _ _ h => h) (Or.inl ⟨by rfl, ?hT6⟩) (by assumption) ?_
    case hT6 => ((intro w hSw; (try dsimp only at hSw); go_simp); try (with_reducible rfl))
    try simp only [Act.put, List.setIfInBounds_toArray, List.set_cons_zero, List.set_cons_succ]
    have k3' := Blk.later hAB k3
    obtain ⟨a3', b3'⟩ := k3'.read
    refine wpAnyH_ready (rs := [10]) (by kernel_rfl) (by simp) ?_
    refine AllReadyH.cons rfl (fun K hK => ?_) AllReadyH.nil
    go_simp
    refine hK.out _ _ ?_ (fun hHeldN => ?_)
    · (try dsimp only); (((first | (apply hold3; (focus assumption); intro p0 p1 p2 pB) | skip); refine ⟨Blk.full ?_, Blk.full ?_, Blk.full ?_, ?_⟩; all_goals (first | ((repeat' (first | (with_reducible assumption) | ((with_reducible refine Blk.new ?_); first | rfl | (simp; done)) | (with_reducible refine Blk.later (by assumption) ?_) | (with_reducible refine Blk.alloc ?_) | (with_reducible refine Blk.drewN ?_) | (with_reducible refine Blk.drew ?_) | (with_reducible refine Blk.other ?_ (by first | omega | (simp; done) | (simp; omega))))); done) | ((repeat' (first | (with_reducible exact Below.refl _ _) | (with_reducible assumption) | (with_reducible refine belowThru ?_ (by assumption)) | (with_reducible refine belowAlloc ?_) | (with_reducible refine Below.setCell ?_ (by first | omega | (simp; done) | (simp; omega)) _) | (with_reducible refine Below.drew ?_) | (with_reducible refine below_drewN ?_ _))); done))))
    clear hK K hHeld
    have hHeld := hHeldN
    clear hHeldN
    try simp only [Act.put, List.setIfInBounds_toArray, List.set_cons_zero, List.set_cons_succ]
    refine wpAnyH_done (by kernel_rfl) ?_ _
    gi_wp2
    obtain ⟨⟨q0, -⟩, ⟨q1, -⟩, -, qB⟩ := hHeld
    have q3 : Blk (wB.setCell ⟨w.heap.size + 1 + 1, k, none⟩ (.int .i64 (inR (V k) (-2147483648) 2147483648))) (w.heap.size + 1 + 1) (ints (zs.set k (inR (V k) (-2147483648) 2147483648))) 3 := by rw [← ints_set]; exact Blk.set k3'
    have q4 := Blk.other (a := ⟨w.heap.size + 1 + 1, k, none⟩) (v := .int .i64 (inR (V k) (-2147483648) 2147483648)) (Blk.later hAB k4) (by simp; omega)
    have qr := Blk.other (a := ⟨w.heap.size + 1 + 1, k, none⟩) (v := .int .i64 (inR (V k) (-2147483648) 2147483648)) (Blk.later hAB kr) (by simp)
    refine ⟨(KeepsFrom.of_below hAB).trans ((KeepsOthers.setCell _ _ _).from _), fun _ => ⟨q4.cells 0, q4.cells 1, q4.cells 2, fun j hj => ?_⟩, ⟨⟨_, hp', q3⟩, ⟨q0, qr, q1, q4⟩, qB⟩⟩
    have hl := hp'.1
    exact ⟨(zs.set k (inR (V k) (-2147483648) 2147483648))[j]'(by omega), trivial, by rw [q3.cells, ints_get, Nat.zero_add, List.getElem?_eq_getElem (by omega)]; rfl⟩
  case done =>
    rintro D xs W1 hD hall ⟨⟨zs, hp, kz⟩, ⟨b0, b1, b3, b4⟩, hb⟩ hK
    obtain ⟨e1, f1⟩ := b1.read
    obtain ⟨e3, f3⟩ := b3.read
    rw [hp.all hall] at kz
    have kr : Blk (((W1.setCell ⟨w.heap.size + 1, 0, none⟩ (.int .i64 W)).setCell ⟨w.heap.size + 1, 1, none⟩ (.int .i64 H)).setCell ⟨w.heap.size + 1, 2, none⟩ (.slice (some ⟨w.heap.size + 1 + 1, 0, none⟩) N N)) (w.heap.size + 1) #[.int .i64 W, .int .i64 H, .slice (some ⟨w.heap.size + 1 + 1, 0, none⟩) N N] 24 := Blk.set (Blk.set (Blk.set b1))
    have kz' : Blk (((W1.setCell ⟨w.heap.size + 1, 0, none⟩ (.int .i64 W)).setCell ⟨w.heap.size + 1, 1, none⟩ (.int .i64 H)).setCell ⟨w.heap.size + 1, 2, none⟩ (.slice (some ⟨w.heap.size + 1 + 1, 0, none⟩) N N)) (w.heap.size + 1 + 1) (ints ((List.range N).map fun k => inR (V k) (-2147483648) 2147483648)) 3 := by (repeat' (first | (with_reducible assumption) | ((with_reducible refine Blk.new ?_); first | rfl | (simp; done)) | (with_reducible refine Blk.later (by assumption) ?_) | (with_reducible refine Blk.alloc ?_) | (with_reducible refine Blk.drewN ?_) | (with_reducible refine Blk.drew ?_) | (with_reducible refine Blk.other ?_ (by first | omega | (simp; done) | (simp; omega)))))
    have hK' := (((KeepsOthers.setCell W1 ⟨w.heap.size + 1, 0, none⟩ (.int .i64 W)).trans (KeepsOthers.setCell _ ⟨w.heap.size + 1, 1, none⟩ (.int .i64 H))).trans (KeepsOthers.setCell _ ⟨w.heap.size + 1, 2, none⟩ (.slice (some ⟨w.heap.size + 1 + 1, 0, none⟩) N N))).same D _ hK rfl
    have hb' : Below w.heap.size w (((W1.setCell ⟨w.heap.size + 1, 0, none⟩ (.int .i64 W)).setCell ⟨w.heap.size + 1, 1, none⟩ (.int .i64 H)).setCell ⟨w.heap.size + 1, 2, none⟩ (.slice (some ⟨w.heap.size + 1 + 1, 0, none⟩) N N)) := by (repeat' (first | (with_reducible exact Below.refl _ _) | (with_reducible assumption) | (with_reducible refine belowThru ?_ (by assumption)) | (with_reducible refine belowAlloc ?_) | (with_reducible refine Below.setCell ?_ (by first | omega | (simp; done) | (simp; omega)) _) | (with_reducible refine Below.drew ?_) | (with_reducible refine below_drewN ?_ _)))
    gi_wp2
    obtain ⟨Wf, hWf⟩ : ∃ Wf, ((W1.setCell ⟨w.heap.size + 1, 0, none⟩ (.int .i64 W)).setCell ⟨w.heap.size + 1, 1, none⟩ (.int .i64 H)).setCell ⟨w.heap.size + 1, 2, none⟩ (.slice (some ⟨w.heap.size + 1 + 1, 0, none⟩) N N) = Wf := ⟨_, rfl⟩
    rw [hWf] at kr kz' hK' hb' ⊢
    clear hWf
    have kr2 := kr.own (grownBy_putObj' Wf D (.deferred none)) (fun r e => by cases e; exact ⟨_, hK', rfl⟩)
    have kz2 := kz'.own (grownBy_putObj' Wf D (.deferred none)) (fun r e => by cases e; exact ⟨_, hK', rfl⟩)
    have er := kr2.read.1
    refine ⟨by simp, .inl ⟨_, _, rfl, run_takeDeferred hK', ?_⟩⟩
    refine ⟨.agg #[.int .i64 W, .int .i64 H, .slice (some ⟨w.heap.size + 1 + 1, 0, none⟩) N N], ?_, _, rfl, by omega, kz2, hb'.trans (belowK_b (w := w) (Nat.le_refl _) Wf D _ _ (by omega) hK' rfl rfl)⟩
    simp only [results, Try.results53]
    go_simp
  case stop =>
    rintro D c pre W1 _ _ h _
    exact h.elim

/-- The new image of the values that a function gives for its places. -/
theorem build_any (W H : Int) (N : Nat) (f : FuncId) (cap : Array Value) (V : Nat → Int) (hN : W * H = (N : Int)) (w0 : 1 ≤ W) (w1 : W ≤ 16) (h0 : 1 ≤ H) (h1 : H ≤ 16) (N1 : N ≤ 256)
    (ef : ∀ args w, (callFunc f args).run Try.prog w = .ok (.enter f args) w) (w : World)
    (HV : Hid (∀ k, k < N → ∀ W1, Below w.heap.size w W1 → Calls Try.prog f (#[.agg #[.int .i64 ((k : Int) % W), .int .i64 ((k : Int) / W)]] ++ cap) W1 fun e W2 => e = .returned (.int .i64 (V k)) ∧ Below W1.heap.size W1 W2)) :
    Calls Try.prog 53 #[.int .i64 W, .int .i64 H, .func (.func f) #[] cap] w fun e w' => ∃ b, e = .returned (.agg #[.int .i64 W, .int .i64 H, .slice (some ⟨b, 0, none⟩) N N]) ∧ w.heap.size ≤ b ∧ Blk w' b (ints ((List.range N).map fun k => inR (V k) (-2147483648) 2147483648)) 3 ∧ Below w.heap.size w w' :=
  (callsIn_wide (n := 9)).1 (build_in 9 (by omega) W H N f cap V hN w0 w1 h0 h1 N1 ef w HV)
end Go.Proofs.Ytghmjdmiaajbnaa
/-
  Sums of numbers: over rows, columns, rectangles; plain numbers.
-/
namespace Go.Proofs.Ytghmjdmiaajbnaa

/-- The sum of the first n numbers. -/
def sumN (f : Nat → Int) : Nat → Int
  | 0 => 0
  | n + 1 => sumN f n + f n
theorem sumN_congr {f g : Nat → Int} {n : Nat} (h : ∀ i, i < n → f i = g i) : sumN f n = sumN g n := by
  induction n with
  | zero => rfl
  | succ n ih => rw [sumN, sumN, ih (fun i hi => h i (by omega)), h n (by omega)]
theorem sumN_zero {f : Nat → Int} {n : Nat} (h : ∀ i, i < n → f i = 0) : sumN f n = 0 := by
  induction n with
  | zero => rfl
  | succ n ih => rw [sumN, ih (fun i hi => h i (by omega)), h n (by omega)]; rfl
/-- The sum of the numbers from a on, below b. -/
def sumR (f : Nat → Int) (a b : Nat) : Int := sumN (fun i => f (a + i)) (b - a)
theorem sumR_self (f : Nat → Int) (a : Nat) : sumR f a a = 0 := by unfold sumR; rw [Nat.sub_self]; rfl
theorem sumR_succ (f : Nat → Int) {a b : Nat} (h : a ≤ b) : sumR f a (b + 1) = sumR f a b + f b := by
  unfold sumR
  rw [show b + 1 - a = (b - a) + 1 by omega, sumN, show a + (b - a) = b by omega]
theorem sumR_zero (f : Nat → Int) (b : Nat) : sumR f 0 b = sumN f b := by
  unfold sumR; rw [Nat.sub_zero]; exact sumN_congr fun i _ => by rw [Nat.zero_add]
/-- The pixel of a place. -/
def pxN (W : Nat) (zs : List Int) (x y : Nat) : Int := zs[y * W + x]?.getD 0
/-- The sum of a rectangle. -/
def boxN (W : Nat) (zs : List Int) (x0 y0 x1 y1 : Nat) : Int := sumR (fun y => sumR (fun x => pxN W zs x y) x0 x1) y0 y1
theorem divmod_place {W x y : Nat} (h : x < W) : (y * W + x) % W = x ∧ (y * W + x) / W = y := by
  constructor
  · rw [Nat.mul_comm, Nat.mul_add_mod, Nat.mod_eq_of_lt h]
  · rw [Nat.mul_comm, Nat.mul_add_div (by omega), Nat.div_eq_of_lt h, Nat.add_zero]
theorem box_step (W : Nat) (zs : List Int) (x y : Nat) : boxN W zs 0 0 (x + 1) (y + 1) = pxN W zs x y + boxN W zs 0 0 x (y + 1) + boxN W zs 0 0 (x + 1) y - boxN W zs 0 0 x y := by
  unfold boxN
  rw [sumR_succ _ (Nat.zero_le y), sumR_succ _ (Nat.zero_le y), sumR_succ _ (Nat.zero_le x)]
  omega
theorem box_x0 (W : Nat) (zs : List Int) (y : Nat) : boxN W zs 0 0 0 y = 0 := by
  unfold boxN; rw [sumR_zero]; exact sumN_zero fun i _ => sumR_self _ _
theorem box_y0 (W : Nat) (zs : List Int) (x : Nat) : boxN W zs 0 0 x 0 = 0 := by unfold boxN; exact sumR_self _ _
end Go.Proofs.Ytghmjdmiaajbnaa
/-
  Layer 2: sums of rows and of columns, by the code.
-/
namespace Go.Proofs.Ytghmjdmiaajbnaa
open Go.RowKit Go.Shelf
set_option linter.unusedVariables false
set_option linter.unusedSimpArgs false

attribute [local go_sem] Oper.semAt_some

/-- What the iterator hands on of an image: its values. -/
def ValR (zs : List Int) (j : Nat) (z : Int) : Prop := zs[j]? = some z ∧ okV z
/-- The sum of the values of some pixels that belong to a number. -/
def addP {N : Nat} {zs : List Int} (ix : Nat → Nat) (pre : List (Pel N (ValR zs))) (j : Nat) : Int := (pre.map fun x => if ix x.1.1 = j then x.1.2 else 0).foldl (· + ·) 0
theorem addP_snoc {N : Nat} {zs : List Int} (ix : Nat → Nat) (pre : List (Pel N (ValR zs))) (x : Pel N (ValR zs)) (j : Nat) : addP ix (pre ++ [x]) j = addP ix pre j + if ix x.1.1 = j then x.1.2 else 0 := by
  unfold addP; rw [List.map_append, List.foldl_append]; rfl
theorem fold_range (f : Nat → Int) (n : Nat) : ((List.range n).map f).foldl (· + ·) 0 = sumN f n := by
  induction n with
  | zero => rfl
  | succ n ih => rw [List.range_succ, List.map_append, List.foldl_append, ih]; rfl
theorem addP_all {N : Nat} {zs : List Int} (ix : Nat → Nat) {xs : List (Pel N (ValR zs))} (h : PixAll N xs) (j : Nat) : addP ix xs j = sumN (fun i => if ix i = j then zs[i]?.getD 0 else 0) N := by
  rw [← fold_range, ← (show xs.map (fun x => x.1.1) = List.range N from h), List.map_map]
  unfold addP
  congr 1
  refine List.map_congr_left fun x _ => ?_
  show _ = if ix x.1.1 = j then zs[x.1.1]?.getD 0 else 0
  rw [x.2.2.1]; rfl
def SumsP {N : Nat} {zs : List Int} (ix : Nat → Nat) (cnt : Nat) (pre : List (Pel N (ValR zs))) (ls : List Int) : Prop := ls.length = cnt ∧ ∀ j, j < cnt → ls[j]? = some (addP ix pre j)
theorem SumsP.snoc {N : Nat} {zs : List Int} {ix : Nat → Nat} {cnt : Nat} {pre : List (Pel N (ValR zs))} {ls : List Int} (h : SumsP ix cnt pre ls) (x : Pel N (ValR zs)) (hx : ix x.1.1 < cnt) : SumsP ix cnt (pre ++ [x]) (ls.set (ix x.1.1) (addP ix pre (ix x.1.1) + x.1.2)) := by
  refine ⟨by rw [List.length_set]; exact h.1, fun j hj => ?_⟩
  rw [addP_snoc]
  by_cases e : ix x.1.1 = j
  · rw [if_pos e, ← e, List.getElem?_set_self (by rw [h.1]; exact hx)]
  · rw [if_neg e, Int.add_zero, List.getElem?_set_ne e, h.2 j hj]
theorem SumsP.all {N : Nat} {zs : List Int} {ix : Nat → Nat} {cnt : Nat} {xs : List (Pel N (ValR zs))} {ls : List Int} (h : SumsP ix cnt xs ls) (ha : PixAll N xs) : ls = (List.range cnt).map fun j => sumN (fun i => if ix i = j then zs[i]?.getD 0 else 0) N := by
  apply List.ext_getElem?
  intro j
  by_cases hj : j < cnt
  · rw [h.2 j hj, addP_all ix ha, List.getElem?_map, List.getElem?_range hj]; rfl
  · rw [List.getElem?_eq_none (by rw [h.1]; omega), List.getElem?_eq_none (by simp; omega)]
theorem SumsP.start {N : Nat} {zs : List Int} (ix : Nat → Nat) (cnt : Nat) : SumsP ix cnt ([] : List (Pel N (ValR zs))) (List.replicate cnt 0) :=
  ⟨List.length_replicate, fun j hj => by rw [List.getElem?_replicate, if_pos hj]; rfl⟩

end Go.Proofs.Ytghmjdmiaajbnaa
/-
  Layer 2: quotients, rounded down; sources of a warp; whether a place is a pixel.
-/
namespace Go.Proofs.Ytghmjdmiaajbnaa
open Go.RowKit
set_option linter.unusedVariables false
set_option linter.unusedSimpArgs false

theorem ediv_unique {d q r q' r' : Int} (h : d * q + r = d * q' + r') (h0 : 0 ≤ r) (h1 : r < d) (h2 : 0 ≤ r') (h3 : r' < d) : q = q' := by
  have e : d * (q - q') = r' - r := by rw [Int.mul_sub]; omega
  rcases Int.lt_trichotomy (q - q') 0 with k | k | k
  · have := Int.mul_le_mul_of_nonneg_left (show q - q' ≤ -1 by omega) (show 0 ≤ d by omega)
    omega
  · omega
  · have := Int.mul_le_mul_of_nonneg_left (show 1 ≤ q - q' by omega) (show 0 ≤ d by omega)
    omega
/-- A quotient that is rounded down, out of the machine's own. -/
theorem floor_of (n d : Int) (hd : 1 ≤ d) : (n.tmod d < 0 → n / d = n.tdiv d - 1) ∧ (¬ n.tmod d < 0 → n / d = n.tdiv d) := by
  have h1 := Int.mul_tdiv_add_tmod n d
  have h2 := Int.mul_ediv_add_emod n d
  have h3 := Int.emod_nonneg n (show d ≠ 0 by omega)
  have h4 := Int.emod_lt_of_pos n (show 0 < d by omega)
  have h5 : n.tmod d < d ∧ -d < n.tmod d := by
    have e : n.tmod d = -((-n).tmod d) := by rw [Int.neg_tmod, Int.neg_neg]
    have q1 := Int.tmod_lt_of_pos n (show 0 < d by omega)
    have q2 := Int.tmod_lt_of_pos (-n) (show 0 < d by omega)
    omega
  constructor
  · intro h
    have e : n / d = (n.tdiv d - 1) := by
      have : d * (n / d) + n % d = d * (n.tdiv d - 1) + (n.tmod d + d) := by rw [h2, Int.mul_sub, Int.mul_one]; omega
      exact ediv_unique this h3 h4 (by omega) (by omega)
    exact e
  · intro h
    have : d * (n / d) + n % d = d * (n.tdiv d) + n.tmod d := by rw [h2, h1]
    exact ediv_unique this h3 h4 (by omega) (by omega)
theorem tdiv_in (n d : Int) (hd : 1 ≤ d) (m : Int) (h1 : -m ≤ n) (h2 : n ≤ m) : -m ≤ n.tdiv d ∧ n.tdiv d ≤ m := by
  have h0 := Int.natAbs_tdiv n d
  have h3 : (n.tdiv d).natAbs ≤ n.natAbs := by rw [h0]; exact Nat.div_le_self _ _
  omega
set_option maxHeartbeats 1000000 in
theorem quotient_any (n d : Int) (hd : 1 ≤ d) (h1 : -1152921504606846976 ≤ n) (h2 : n ≤ 1152921504606846976) (h3 : d ≤ 1152921504606846976) (w : World) :
    Calls Try.prog 56 #[.int .i64 n, .int .i64 d] w fun e w' => e = .returned (.int .i64 (n / d)) ∧ w = w' := by
  have f1 := (floor_of n d hd).1
  have f2 := (floor_of n d hd).2
  have hb := tdiv_in n d hd _ h1 h2
  have hw : IntKind.i64.wrap (n.tdiv d) = n.tdiv d := IntWalk.i64_in _ (by omega)
  have hz : ¬ d = 0 := by omega
  by_cases hm : n.tmod d < 0
  · have f := f1 hm
    have F := Lib.hid f
    clear f f1 f2
    go_enter Try.func56, Try.ntmps56
    go_wp2
    go_ret
    exact ⟨ret_int F.out.symm, rfl⟩
  · have f := f2 hm
    have F := Lib.hid f
    clear f f1 f2
    go_enter Try.func56, Try.ntmps56
    go_wp2
    go_ret
    exact ⟨ret_int F.out.symm, rfl⟩
/-- A pair of numbers is a pixel. -/
def inP (W H x y : Int) : Prop := (0 ≤ x ∧ x < W) ∧ (0 ≤ y ∧ y < H)
instance (W H x y : Int) : Decidable (inP W H x y) := inferInstanceAs (Decidable (_ ∧ _))
set_option maxHeartbeats 1000000 in
theorem has_any (W H x y : Int) (a : Option Addr) (n c : Nat) (w : World) :
    Calls Try.prog 83 #[.agg #[.int .i64 W, .int .i64 H, .slice a n c], .agg #[.int .i64 x, .int .i64 y]] w fun e w' => e = .returned (.bool (decide (inP W H x y))) ∧ Below w.heap.size w w' := by
  by_cases h : inP W H x y
  · rw [decide_eq_true h]
    obtain ⟨⟨h1, h2⟩, h3, h4⟩ := h
    go_enter Try.func83, Try.ntmps83
    go_wp2
    go_ret
    exact ⟨rfl, by (repeat' (first | (with_reducible exact Below.refl _ _) | (with_reducible assumption) | (with_reducible refine belowThru ?_ (by assumption)) | (with_reducible refine belowAlloc ?_) | (with_reducible refine Below.setCell ?_ (by first | omega | (simp; done) | (simp; omega)) _) | (with_reducible refine Below.drew ?_) | (with_reducible refine below_drewN ?_ _)))⟩
  · rw [decide_eq_false h]
    by_cases h1 : 0 ≤ x
    · by_cases h2 : x < W
      · by_cases h3 : 0 ≤ y
        · have h4 : ¬ y < H := fun h4 => h ⟨⟨h1, h2⟩, h3, h4⟩
          clear h
          go_enter Try.func83, Try.ntmps83
          go_wp2
          go_ret
          exact ⟨rfl, by (repeat' (first | (with_reducible exact Below.refl _ _) | (with_reducible assumption) | (with_reducible refine belowThru ?_ (by assumption)) | (with_reducible refine belowAlloc ?_) | (with_reducible refine Below.setCell ?_ (by first | omega | (simp; done) | (simp; omega)) _) | (with_reducible refine Below.drew ?_) | (with_reducible refine below_drewN ?_ _)))⟩
        · clear h
          go_enter Try.func83, Try.ntmps83
          go_wp2
          go_ret
          exact ⟨rfl, by (repeat' (first | (with_reducible exact Below.refl _ _) | (with_reducible assumption) | (with_reducible refine belowThru ?_ (by assumption)) | (with_reducible refine belowAlloc ?_) | (with_reducible refine Below.setCell ?_ (by first | omega | (simp; done) | (simp; omega)) _) | (with_reducible refine Below.drew ?_) | (with_reducible refine below_drewN ?_ _)))⟩
      · clear h
        go_enter Try.func83, Try.ntmps83
        go_wp2
        go_ret
        exact ⟨rfl, by (repeat' (first | (with_reducible exact Below.refl _ _) | (with_reducible assumption) | (with_reducible refine belowThru ?_ (by assumption)) | (with_reducible refine belowAlloc ?_) | (with_reducible refine Below.setCell ?_ (by first | omega | (simp; done) | (simp; omega)) _) | (with_reducible refine Below.drew ?_) | (with_reducible refine below_drewN ?_ _)))⟩
    · clear h
      go_enter Try.func83, Try.ntmps83
      go_wp2
      go_ret
      exact ⟨rfl, by (repeat' (first | (with_reducible exact Below.refl _ _) | (with_reducible assumption) | (with_reducible refine belowThru ?_ (by assumption)) | (with_reducible refine belowAlloc ?_) | (with_reducible refine Below.setCell ?_ (by first | omega | (simp; done) | (simp; omega)) _) | (with_reducible refine Below.drew ?_) | (with_reducible refine below_drewN ?_ _)))⟩
end Go.Proofs.Ytghmjdmiaajbnaa
/-
  Layer 2: pixels by their places; the source of a pixel in a warp.
-/
namespace Go.Proofs.Ytghmjdmiaajbnaa
open Go.RowKit
set_option linter.unusedVariables false
set_option linter.unusedSimpArgs false

/-- The value of a pixel. -/
def pixAt (W : Int) (zs : List Int) (x y : Int) : Int := zs[(y * W + x).toNat]?.getD 0
theorem inP_at {W H x y : Int} (hW : okS W) (hH : okS H) (h : inP W H x y) : ∃ p : Nat, y * W + x = (p : Int) ∧ (p : Int) < W * H ∧ 0 ≤ y * W ∧ y * W ≤ 256 := by
  obtain ⟨⟨x0, x1⟩, y0, y1⟩ := h
  obtain ⟨w0, w1⟩ := hW
  obtain ⟨h0, h1⟩ := hH
  have a := Int.mul_nonneg y0 (show 0 ≤ W by omega)
  have b := Int.mul_le_mul_of_nonneg_right (show y + 1 ≤ H by omega) (show 0 ≤ W by omega)
  have c := Int.mul_le_mul (show y ≤ 16 by omega) w1 (by omega) (by omega)
  have e : (y + 1) * W = y * W + W := by rw [Int.add_mul, Int.one_mul]
  have f : H * W = W * H := Int.mul_comm _ _
  exact ⟨(y * W + x).toNat, by omega, by omega, a, by omega⟩
set_option maxHeartbeats 1000000 in
/-- The value of a pixel of a valid image. -/
theorem at_z (W H x y : Int) (a : Option Addr) (n c : Nat) (zs : List Int) (hI : okI W H zs) (hp : inP W H x y) (w : World) (hR : Row w a n (iv zs)) :
    Calls Try.prog 57 #[.agg #[.int .i64 W, .int .i64 H, .slice a n c], .agg #[.int .i64 x, .int .i64 y]] w fun e w' => e = .returned (.int .i64 (pixAt W zs x y)) ∧ Below w.heap.size w w' := by
  obtain ⟨⟨hW, hH⟩, hL, -⟩ := hI
  obtain ⟨p, e, hlt, -, -⟩ := inP_at hW hH hp
  have hn : zs.length = n := by have := hR.1; rwa [iv_length] at this
  obtain ⟨b, off, z, rfl, -, hz, hc⟩ := hR.int (show p < n by omega)
  have hv : pixAt W zs x y = z := by unfold pixAt; rw [e, Int.toNat_natCast, hz]; rfl
  rw [hv]
  obtain ⟨⟨x0, x1⟩, y0, y1⟩ := hp
  obtain ⟨w0, w1⟩ := hW
  obtain ⟨h0, h1⟩ := hH
  exact at_any W H x y p b off n c z (Lib.hid e) y0 (by omega) (by omega) (by omega) x0 (by omega) (by omega) w hc
/-! ### The source of a pixel -/
/-- A number that may be a factor. -/
def okFa (n : Int) : Prop := -65536 ≤ n ∧ n ≤ 65536
instance (n : Int) : Decidable (okFa n) := inferInstanceAs (Decidable (_ ∧ _))
end Go.Proofs.Ytghmjdmiaajbnaa
/-
  Layer 2: which warps are valid, by the code and by the document.
-/
namespace Go.Proofs.Ytghmjdmiaajbnaa
open Go.RowKit
set_option linter.unusedVariables false
set_option linter.unusedSimpArgs false

/-- A warp that is valid. -/
def okT (tA tB tC tD tE tF tG : Int) : Prop := (okFa tA ∧ okFa tB ∧ okFa tC ∧ okFa tD ∧ okFa tE ∧ okFa tF) ∧ 1 ≤ tG ∧ tG ≤ 65536
instance (tA tB tC tD tE tF tG : Int) : Decidable (okT tA tB tC tD tE tF tG) := inferInstanceAs (Decidable (_ ∧ _))
theorem within_fa (n : Int) (w : World) : Calls Try.prog 95 #[.int .i64 n, .int .i64 65536] w fun e w' => e = .returned (.bool (decide (okFa n))) ∧ w = w' := by
  by_cases h : okFa n
  · rw [decide_eq_true h]; exact within_yes n 65536 (by omega) (by omega) h w
  · rw [decide_eq_false h]; exact within_no n 65536 (by omega) (by omega) (by unfold okFa at h; omega) w
/-- What the first numbers of a warp are known to be. -/
def Six (tA tB tC tD tE tF k : Int) : Prop := (0 < k → okFa tA) ∧ (1 < k → okFa tB) ∧ (2 < k → okFa tC) ∧ (3 < k → okFa tD) ∧ (4 < k → okFa tE) ∧ (5 < k → okFa tF)
theorem Six.start (tA tB tC tD tE tF : Int) : Six tA tB tC tD tE tF 0 := ⟨fun h => absurd h (by omega), fun h => absurd h (by omega), fun h => absurd h (by omega), fun h => absurd h (by omega), fun h => absurd h (by omega), fun h => absurd h (by omega)⟩
theorem Six.all {tA tB tC tD tE tF : Int} (h : Six tA tB tC tD tE tF 6) : okFa tA ∧ okFa tB ∧ okFa tC ∧ okFa tD ∧ okFa tE ∧ okFa tF := ⟨h.1 (by omega), h.2.1 (by omega), h.2.2.1 (by omega), h.2.2.2.1 (by omega), h.2.2.2.2.1 (by omega), h.2.2.2.2.2 (by omega)⟩

theorem Six.s0 {tA tB tC tD tE tF : Int} (h : Six tA tB tC tD tE tF 0) (ok : okFa tA) : Six tA tB tC tD tE tF 1 := ⟨fun _ => ok, fun q => absurd q (by omega), fun q => absurd q (by omega), fun q => absurd q (by omega), fun q => absurd q (by omega), fun q => absurd q (by omega)⟩
theorem Six.s1 {tA tB tC tD tE tF : Int} (h : Six tA tB tC tD tE tF 1) (ok : okFa tB) : Six tA tB tC tD tE tF 2 := ⟨fun _ => h.1 (by omega), fun _ => ok, fun q => absurd q (by omega), fun q => absurd q (by omega), fun q => absurd q (by omega), fun q => absurd q (by omega)⟩
theorem Six.s2 {tA tB tC tD tE tF : Int} (h : Six tA tB tC tD tE tF 2) (ok : okFa tC) : Six tA tB tC tD tE tF 3 := ⟨fun _ => h.1 (by omega), fun _ => h.2.1 (by omega), fun _ => ok, fun q => absurd q (by omega), fun q => absurd q (by omega), fun q => absurd q (by omega)⟩
theorem Six.s3 {tA tB tC tD tE tF : Int} (h : Six tA tB tC tD tE tF 3) (ok : okFa tD) : Six tA tB tC tD tE tF 4 := ⟨fun _ => h.1 (by omega), fun _ => h.2.1 (by omega), fun _ => h.2.2.1 (by omega), fun _ => ok, fun q => absurd q (by omega), fun q => absurd q (by omega)⟩
theorem Six.s4 {tA tB tC tD tE tF : Int} (h : Six tA tB tC tD tE tF 4) (ok : okFa tE) : Six tA tB tC tD tE tF 5 := ⟨fun _ => h.1 (by omega), fun _ => h.2.1 (by omega), fun _ => h.2.2.1 (by omega), fun _ => h.2.2.2.1 (by omega), fun _ => ok, fun q => absurd q (by omega)⟩
theorem Six.s5 {tA tB tC tD tE tF : Int} (h : Six tA tB tC tD tE tF 5) (ok : okFa tF) : Six tA tB tC tD tE tF 6 := ⟨fun _ => h.1 (by omega), fun _ => h.2.1 (by omega), fun _ => h.2.2.1 (by omega), fun _ => h.2.2.2.1 (by omega), fun _ => h.2.2.2.2.1 (by omega), fun _ => ok⟩
end Go.Proofs.Ytghmjdmiaajbnaa
/-
  Layer 2: warped, turned and flipped images, by the code: the value of a place.
-/
namespace Go.Proofs.Ytghmjdmiaajbnaa
open Go.RowKit
set_option linter.unusedVariables false
set_option linter.unusedSimpArgs false

theorem okI_at {W H : Int} {zs : List Int} (hI : okI W H zs) {x y : Int} (hp : inP W H x y) : okV (pixAt W zs x y) := by
  obtain ⟨p, e, hlt, -, -⟩ := inP_at hI.1.1 hI.1.2 hp
  have hl : p < zs.length := by have := hI.2.1; omega
  unfold pixAt
  rw [e, Int.toNat_natCast, List.getElem?_eq_getElem hl]
  exact hI.2.2 _ (List.getElem_mem hl)
theorem inR_ok {v : Int} (h : okV v) : inR v (-2147483648) 2147483648 = v := by unfold inR; obtain ⟨a, b⟩ := h; omega

set_option maxRecDepth 100000 in
set_option maxHeartbeats 2000000 in
theorem turn1_any (W H x y : Int) (a : Option Addr) (n c : Nat) (zs : List Int) (hI : okI W H zs) (hp : inP W H y (H - 1 - x)) (x0 : 0 ≤ x) (x1 : x ≤ 64) (bm : Nat) (w : World)
    (hR : Row w a n (iv zs)) (km : Blk w bm #[.int .i64 W, .int .i64 H, .slice a n c] 24) :
    Calls Try.prog 94 #[.agg #[.int .i64 x, .int .i64 y], .pointer (some ⟨bm, 0, none⟩)] w fun e w' => e = .returned (.int .i64 (pixAt W zs y (H - 1 - x))) ∧ Below w.heap.size w w' := by
  have HA := Lib.hid (fun w hR => at_z W H y (H - 1 - x) a n c zs hI hp w hR)
  have HR := Lib.hid hR
  obtain ⟨⟨-, h0, h1⟩, -⟩ := hI
  have k1 := km.alloc (o := .cells #[.int .i64 x, .int .i64 y] 83)
  obtain ⟨a1, b1⟩ := k1.read
  have z1 := km.lt
  clear hR hp km
  go_enter Try.func94, Try.ntmps94
  go_wp2_with (go_at_call 57; (with_reducible refine (HA.out _ (HR.out.later (by (repeat' (first | (with_reducible exact Below.refl _ _) | (with_reducible assumption) | (with_reducible refine belowThru ?_ (by assumption)) | (with_reducible refine belowAlloc ?_) | (with_reducible refine Below.setCell ?_ (by first | omega | (simp; done) | (simp; omega)) _) | (with_reducible refine Below.drew ?_) | (with_reducible refine below_drewN ?_ _)))))).mono ?_); rintro e w1 ⟨rfl, hb⟩; (try (have zk := k1.lt; (first | ((with_reducible refine Blk.keepG hb k1 (fun h => ?_) ?_); (focus ((repeat' (first | (with_reducible assumption) | ((with_reducible refine Blk.new ?_); first | rfl | (simp; done)) | (with_reducible refine Blk.later (by assumption) ?_) | (with_reducible refine Blk.alloc ?_) | (with_reducible refine Blk.drewN ?_) | (with_reducible refine Blk.drew ?_) | (with_reducible refine Blk.other ?_ (by first | omega | (simp; done) | (simp; omega))))); done)); clear k1; intro k1) | (with_reducible replace k1 := Blk.later hb (Blk.set (Blk.set k1))) | (with_reducible replace k1 := Blk.later hb (Blk.set k1))); clear a1 b1; obtain ⟨a1, b1⟩ := k1.read; have zl := k1.lt)))
  go_ret
  exact ⟨rfl, by (repeat' (first | (with_reducible exact Below.refl _ _) | (with_reducible assumption) | (with_reducible refine belowThru ?_ (by assumption)) | (with_reducible refine belowAlloc ?_) | (with_reducible refine Below.setCell ?_ (by first | omega | (simp; done) | (simp; omega)) _) | (with_reducible refine Below.drew ?_) | (with_reducible refine below_drewN ?_ _)))⟩
end Go.Proofs.Ytghmjdmiaajbnaa
/-
  Layer 2: warped, turned and flipped images, by the code.
-/
namespace Go.Proofs.Ytghmjdmiaajbnaa
open Go.RowKit
set_option linter.unusedVariables false
set_option linter.unusedSimpArgs false

/-- A new slice of these numbers, in memory of its own. -/
def New (B : Nat) (w' : World) (a : Option Addr) (n : Nat) (zs : List Int) : Prop :=
  zs.length = n ∧ ((a = none ∧ n = 0) ∨ ∃ b, a = some ⟨b, 0, none⟩ ∧ B ≤ b ∧ Blk w' b (ints zs) 3)
/-- An image and an error are returned, the image in memory of its own; what was there is as it was. -/
def RetI (W H : Int) (zs : List Int) (E : Int) (w : World) (e : Ending) (w' : World) : Prop :=
  ∃ (a : Option Addr) (n c : Nat), e = .returned (.tuple #[.agg #[.int .i64 W, .int .i64 H, .slice a n c], .int .i64 E]) ∧ New w.heap.size w' a n zs ∧ Below w.heap.size w w'
theorem RetI.none {E : Int} {w w' : World} (h : Below w.heap.size w w') : RetI 0 0 [] E w (.returned (.tuple #[.agg #[.int .i64 0, .int .i64 0, .slice none 0 0], .int .i64 E])) w' := ⟨Option.none, 0, 0, rfl, ⟨rfl, .inl ⟨rfl, rfl⟩⟩, h⟩
theorem RetI.made {W H E : Int} {zs : List Int} {w w' : World} {b n c : Nat} (hn : zs.length = n) (hB : w.heap.size ≤ b) (k : Blk w' b (ints zs) 3) (h : Below w.heap.size w w') :
    RetI W H zs E w (.returned (.tuple #[.agg #[.int .i64 W, .int .i64 H, .slice (some ⟨b, 0, Option.none⟩) n c], .int .i64 E])) w' := ⟨_, _, _, rfl, ⟨hn, .inr ⟨b, rfl, hB, k⟩⟩, h⟩
theorem icheck_ok {W H : Int} {zs : List Int} (h : okI W H zs) (a : Option Addr) (n c : Nat) (hn : n ≤ maxLen) (w : World) (hR : Row w a n (iv zs)) :
    Calls Try.prog 51 #[.agg #[.int .i64 W, .int .i64 H, .slice a n c]] w fun e w' => e = .returned (.int .i64 0) ∧ Below w.heap.size w w' := by
  have := icheck_any W H a n c zs hn w hR; rw [ckI_ok h] at this; exact this
theorem icheck_no {W H : Int} {zs : List Int} (h : ¬ okI W H zs) (a : Option Addr) (n c : Nat) (hn : n ≤ maxLen) (w : World) (hR : Row w a n (iv zs)) :
    Calls Try.prog 51 #[.agg #[.int .i64 W, .int .i64 H, .slice a n c]] w fun e w' => e = .returned (.int .i64 20) ∧ Below w.heap.size w w' := by
  have := icheck_any W H a n c zs hn w hR; rw [ckI_no h] at this; exact this

/-- The numbers of a new image. -/
def made (N : Nat) (V : Nat → Int) : List Int := (List.range N).map V
theorem made_length (N : Nat) (V : Nat → Int) : (made N V).length = N := by simp [made]
theorem made_in (N : Nat) (V : Nat → Int) (h : ∀ k, k < N → okV (V k)) : ((List.range N).map fun k => inR (V k) (-2147483648) 2147483648) = made N V :=
  List.map_congr_left (fun k hk => inR_ok (h k (List.mem_range.1 hk)))
theorem place_in {W H : Int} {N k : Nat} (hW : okS W) (hH : okS H) (hN : W * H = (N : Int)) (hk : k < N) : (0 ≤ (k : Int) % W ∧ (k : Int) % W < W) ∧ 0 ≤ (k : Int) / W ∧ (k : Int) / W < H := by
  obtain ⟨w0, w1⟩ := hW
  refine ⟨⟨Int.emod_nonneg _ (by omega), Int.emod_lt_of_pos _ (by omega)⟩, Int.ediv_nonneg (by omega) (by omega), Int.ediv_lt_of_lt_mul (by omega) ?_⟩
  rw [Int.mul_comm, hN]; omega

set_option maxRecDepth 100000 in
set_option maxHeartbeats 4000000 in
theorem turn_ok (W H : Int) (a : Option Addr) (n c : Nat) (zs : List Int) (hI : okI W H zs) (hn : n ≤ maxLen) (w : World) (hR : Row w a n (iv zs)) :
    Calls Try.prog 49 #[.agg #[.int .i64 W, .int .i64 H, .slice a n c]] w (RetI H W (made zs.length fun k => pixAt W zs ((k : Int) / H) (H - 1 - (k : Int) % H)) 0 w) := by
  have HK := Lib.hid (icheck_ok hI a n c hn)
  have HR := Lib.hid hR
  have hN : H * W = (zs.length : Int) := by rw [hI.2.1, Int.mul_comm]
  have hW := hI.1.1
  have hH := hI.1.2
  have hm := okS_mul hH hW
  have HP : Hid (∀ k, k < zs.length → inP W H ((k : Int) / H) (H - 1 - (k : Int) % H)) := fun k hk => by
    have := place_in hH hW hN hk
    unfold inP; omega
  clear hR hn
  go_enter Try.func49, Try.ntmps49
  go_upto_region 4 with (go_at_call 51; (with_reducible refine (HK.out _ (HR.out.later (by (repeat' (first | (with_reducible exact Below.refl _ _) | (with_reducible assumption) | (with_reducible refine belowThru ?_ (by assumption)) | (with_reducible refine belowAlloc ?_) | (with_reducible refine Below.setCell ?_ (by first | omega | (simp; done) | (simp; omega)) _) | (with_reducible refine Below.drew ?_) | (with_reducible refine below_drewN ?_ _)))))).mono ?_); rintro e w1 ⟨rfl, hb⟩; (first | ((with_reducible have k0 := Blk.later hb (Blk.alloc (Blk.new rfl))); (with_reducible have k1 := Blk.later hb (Blk.new rfl)); simp only [World.size_alloc] at k1; obtain ⟨a0, b0⟩ := k0.read; have zl := k0.lt; obtain ⟨a1, b1⟩ := k1.read; have zl := k1.lt) | ((try (have zk := k0.lt; (first | ((with_reducible refine Blk.keepG hb k0 (fun h => ?_) ?_); (focus ((repeat' (first | (with_reducible assumption) | ((with_reducible refine Blk.new ?_); first | rfl | (simp; done)) | (with_reducible refine Blk.later (by assumption) ?_) | (with_reducible refine Blk.alloc ?_) | (with_reducible refine Blk.drewN ?_) | (with_reducible refine Blk.drew ?_) | (with_reducible refine Blk.other ?_ (by first | omega | (simp; done) | (simp; omega))))); done)); clear k0; intro k0) | (with_reducible replace k0 := Blk.later hb (Blk.set (Blk.set k0))) | (with_reducible replace k0 := Blk.later hb (Blk.set k0))); clear a0 b0; obtain ⟨a0, b0⟩ := k0.read; have zl := k0.lt)); (try (have zk := k1.lt; (first | ((with_reducible refine Blk.keepG hb k1 (fun h => ?_) ?_); (focus ((repeat' (first | (with_reducible assumption) | ((with_reducible refine Blk.new ?_); first | rfl | (simp; done)) | (with_reducible refine Blk.later (by assumption) ?_) | (with_reducible refine Blk.alloc ?_) | (with_reducible refine Blk.drewN ?_) | (with_reducible refine Blk.drew ?_) | (with_reducible refine Blk.other ?_ (by first | omega | (simp; done) | (simp; omega))))); done)); clear k1; intro k1) | (with_reducible replace k1 := Blk.later hb (Blk.set (Blk.set k1))) | (with_reducible replace k1 := Blk.later hb (Blk.set k1))); clear a1 b1; obtain ⟨a1, b1⟩ := k1.read; have zl := k1.lt)))))
  have HV := Lib.hid (fun (k : Nat) (hk : k < zs.length) W1 (hW1 : Below _ _ W1) => turn1_any W H ((k : Int) % H) ((k : Int) / H) a n c zs hI (HP.out k hk) (place_in hH hW hN hk).1.1 (by have := place_in hH hW hN hk; unfold okS at hH; omega) w.heap.size W1 (HR.out.later (by (repeat' (first | (with_reducible exact Below.refl _ _) | (with_reducible assumption) | (with_reducible refine belowThru ?_ (by assumption)) | (with_reducible refine belowAlloc ?_) | (with_reducible refine Below.setCell ?_ (by first | omega | (simp; done) | (simp; omega)) _) | (with_reducible refine Below.drew ?_) | (with_reducible refine below_drewN ?_ _))))) (Blk.later hW1 k0))
  have HB := Lib.hid (build_any H W zs.length 94 #[.pointer (some ⟨w.heap.size, 0, none⟩)] (fun k => pixAt W zs ((k : Int) / H) (H - 1 - (k : Int) % H)) hN hH.1 hH.2 hW.1 hW.2 (by omega) (enters_of Try.func94 (by kernel_rfl) rfl) _ HV)
  rw [made_in _ _ (fun k hk => okI_at hI (HP.out k hk))] at HB
  clear HV
  go_wp2_with (go_at_call 53; (with_reducible refine (HB.out).mono ?_); rintro e w2 ⟨B, rfl, hB0, kB, hb⟩; (try (have zk := k0.lt; (first | ((with_reducible refine Blk.keepG hb k0 (fun h => ?_) ?_); (focus ((repeat' (first | (with_reducible assumption) | ((with_reducible refine Blk.new ?_); first | rfl | (simp; done)) | (with_reducible refine Blk.later (by assumption) ?_) | (with_reducible refine Blk.alloc ?_) | (with_reducible refine Blk.drewN ?_) | (with_reducible refine Blk.drew ?_) | (with_reducible refine Blk.other ?_ (by first | omega | (simp; done) | (simp; omega))))); done)); clear k0; intro k0) | (with_reducible replace k0 := Blk.later hb (Blk.set (Blk.set k0))) | (with_reducible replace k0 := Blk.later hb (Blk.set k0))); clear a0 b0; obtain ⟨a0, b0⟩ := k0.read; have zl := k0.lt)); (try (have zk := k1.lt; (first | ((with_reducible refine Blk.keepG hb k1 (fun h => ?_) ?_); (focus ((repeat' (first | (with_reducible assumption) | ((with_reducible refine Blk.new ?_); first | rfl | (simp; done)) | (with_reducible refine Blk.later (by assumption) ?_) | (with_reducible refine Blk.alloc ?_) | (with_reducible refine Blk.drewN ?_) | (with_reducible refine Blk.drew ?_) | (with_reducible refine Blk.other ?_ (by first | omega | (simp; done) | (simp; omega))))); done)); clear k1; intro k1) | (with_reducible replace k1 := Blk.later hb (Blk.set (Blk.set k1))) | (with_reducible replace k1 := Blk.later hb (Blk.set k1))); clear a1 b1; obtain ⟨a1, b1⟩ := k1.read; have zl := k1.lt)))
  exact bodyPost_ret (v := .tuple #[.agg #[.int .i64 H, .int .i64 W, .slice (some ⟨B, 0, none⟩) zs.length zs.length], .int .i64 0]) (by simp only [results, Try.results49]; go_simp) rfl (RetI.made (made_length _ _) (by omega) (by (repeat' (first | (with_reducible assumption) | ((with_reducible refine Blk.new ?_); first | rfl | (simp; done)) | (with_reducible refine Blk.later (by assumption) ?_) | (with_reducible refine Blk.alloc ?_) | (with_reducible refine Blk.drewN ?_) | (with_reducible refine Blk.drew ?_) | (with_reducible refine Blk.other ?_ (by first | omega | (simp; done) | (simp; omega)))))) (by (repeat' (first | (with_reducible exact Below.refl _ _) | (with_reducible assumption) | (with_reducible refine belowThru ?_ (by assumption)) | (with_reducible refine belowAlloc ?_) | (with_reducible refine Below.setCell ?_ (by first | omega | (simp; done) | (simp; omega)) _) | (with_reducible refine Below.drew ?_) | (with_reducible refine below_drewN ?_ _)))))
end Go.Proofs.Ytghmjdmiaajbnaa
