/-
  Layer 2: an image in new memory; whether images are equal; an image whose values are changed.
-/
import Derived.Test.YtihefdlolfpbnaaIWarps
import Derived.Maps.AppendAt
namespace Go.Proofs.Ytihefdlolfpbnaa
open Go.RowKit
set_option linter.unusedVariables false
set_option linter.unusedSimpArgs false

set_option maxHeartbeats 2000000 in
theorem sameInts_any (a b : Option Addr) (n m c d : Nat) (xs ys : List Int) (hn : n ≤ maxLen) (w : World) (hR : Row w a n (iv xs)) (hS : Row w b m (iv ys)) :
    Calls Try.prog 23 #[.slice a n c, .slice b m d] w fun e w' => e = .returned (.bool (decide (xs = ys))) ∧ Below w.heap.size w w' := by
  unfold maxLen at hn
  have hx : xs.length = n := by have := hR.1; rwa [iv_length] at this
  have hy : ys.length = m := by have := hS.1; rwa [iv_length] at this
  by_cases hl : n = m
  · subst hl
    have HX := Lib.hid hx; have HY := Lib.hid hy; have HR := Lib.hid hR; have HS := Lib.hid hS
    clear hx hy hR hS
    go_enter Try.func23, Try.ntmps23
    go_wp2
    go_loopw [5] (fun i wr => ∃ k : Nat, k ≤ n ∧ i = .int .i64 k ∧ Hid (xs.take k = ys.take k) ∧ Below w.heap.size w wr) (fun i _ => n - (intOf i).toNat)
    case atStart => exact ⟨0, Nat.zero_le _, rfl, (show xs.take 0 = ys.take 0 by simp), by (repeat' (first | (with_reducible exact Below.refl _ _) | (with_reducible assumption) | (with_reducible refine belowThru ?_ (by assumption)) | (with_reducible refine belowAlloc ?_) | (with_reducible refine Below.setCell ?_ (by first | omega | (simp; done) | (simp; omega)) _) | (with_reducible refine Below.drew ?_) | (with_reducible refine below_drewN ?_ _)))⟩
    case round =>
      obtain ⟨k, hk, rfl, ht, hB⟩ := hrel
      by_cases hlt : k < n
      · obtain ⟨b1, o1, z1, rfl, l1, h1, c1⟩ := HR.out.int hlt
        obtain ⟨b2, o2, z2, rfl, l2, h2, c2⟩ := HS.out.int hlt
        have c1 := cell_later hB c1
        have c2 := cell_later hB c2
        have p0 : (0 : Int) ≤ (k : Int) := by omega
        have p1 : (k : Int) < (n : Int) := by omega
        by_cases he : z1 = z2
        · subst he
          have ht' : Hid (xs.take (k + 1) = ys.take (k + 1)) := by show _ = _; rw [List.take_add_one, List.take_add_one, h1, h2, ht.out]
          clear h1 h2
          go_wp2_with fail
          go_quiet (fail)
          go_wp2
          go_roundw
          case rel => exact ⟨k + 1, hlt, by go_num, ht', by (repeat' (first | (with_reducible exact Below.refl _ _) | (with_reducible assumption) | (with_reducible refine belowThru ?_ (by assumption)) | (with_reducible refine belowAlloc ?_) | (with_reducible refine Below.setCell ?_ (by first | omega | (simp; done) | (simp; omega)) _) | (with_reducible refine Below.drew ?_) | (with_reducible refine below_drewN ?_ _)))⟩
          case measure => simp [intOf]; omega
        · have hd : (z1 != z2) = true := by simpa using he
          have hz : decide (xs = ys) = false := decide_eq_false (fun e => he (by rw [e, h2] at h1; exact (Option.some.inj h1).symm))
          clear h1 h2 he
          go_wp2_with fail
          go_quiet (fail)
          go_wp2
          go_ret
          exact ⟨by first | rfl | (rw [hz]; rfl), by (repeat' (first | (with_reducible exact Below.refl _ _) | (with_reducible assumption) | (with_reducible refine belowThru ?_ (by assumption)) | (with_reducible refine belowAlloc ?_) | (with_reducible refine Below.setCell ?_ (by first | omega | (simp; done) | (simp; omega)) _) | (with_reducible refine Below.drew ?_) | (with_reducible refine below_drewN ?_ _)))⟩
      · have hz : decide (xs = ys) = true := decide_eq_true (by
          have h := ht.out
          rwa [List.take_of_length_le (by rw [HX.out]; omega), List.take_of_length_le (by rw [HY.out]; omega)] at h)
        go_wp2
        go_ret
        exact ⟨by first | rfl | (rw [hz]; rfl), by (repeat' (first | (with_reducible exact Below.refl _ _) | (with_reducible assumption) | (with_reducible refine belowThru ?_ (by assumption)) | (with_reducible refine belowAlloc ?_) | (with_reducible refine Below.setCell ?_ (by first | omega | (simp; done) | (simp; omega)) _) | (with_reducible refine Below.drew ?_) | (with_reducible refine below_drewN ?_ _)))⟩
  · have hd : ((n : Int) != (m : Int)) = true := by simp; omega
    rw [decide_eq_false (fun e : xs = ys => hl (by rw [← hx, ← hy, e]))]
    clear hR hS hx hy
    go_enter Try.func23, Try.ntmps23
    go_wp2
    go_ret
    exact ⟨rfl, by (repeat' (first | (with_reducible exact Below.refl _ _) | (with_reducible assumption) | (with_reducible refine belowThru ?_ (by assumption)) | (with_reducible refine belowAlloc ?_) | (with_reducible refine Below.setCell ?_ (by first | omega | (simp; done) | (simp; omega)) _) | (with_reducible refine Below.drew ?_) | (with_reducible refine below_drewN ?_ _)))⟩

set_option maxHeartbeats 2000000 in
theorem same_yes (W H : Int) (a b : Option Addr) (n m c d : Nat) (zs : List Int) (hn : n ≤ maxLen) (w : World) (hR : Row w a n (iv zs)) (hS : Row w b m (iv zs)) :
    Calls Try.prog 35 #[.agg #[.int .i64 W, .int .i64 H, .slice a n c], .agg #[.int .i64 W, .int .i64 H, .slice b m d]] w fun e w' => e = .returned (.bool true) ∧ Below w.heap.size w w' := by
  have HS : Hid (∀ w, Row w a n (iv zs) → Row w b m (iv zs) → Calls Try.prog 23 #[.slice a n c, .slice b m d] w fun e w' => e = .returned (.bool true) ∧ Below w.heap.size w w') := fun w hR hS => by
    have := sameInts_any a b n m c d zs zs hn w hR hS
    rw [decide_eq_true rfl] at this; exact this
  have H1 := Lib.hid hR; have H2 := Lib.hid hS
  clear hR hS hn
  go_enter Try.func35, Try.ntmps35
  go_wp2_with (go_at_call 23; (with_reducible refine (HS.out _ (H1.out.later (by (repeat' (first | (with_reducible exact Below.refl _ _) | (with_reducible assumption) | (with_reducible refine belowThru ?_ (by assumption)) | (with_reducible refine belowAlloc ?_) | (with_reducible refine Below.setCell ?_ (by first | omega | (simp; done) | (simp; omega)) _) | (with_reducible refine Below.drew ?_) | (with_reducible refine below_drewN ?_ _))))) (H2.out.later (by (repeat' (first | (with_reducible exact Below.refl _ _) | (with_reducible assumption) | (with_reducible refine belowThru ?_ (by assumption)) | (with_reducible refine belowAlloc ?_) | (with_reducible refine Below.setCell ?_ (by first | omega | (simp; done) | (simp; omega)) _) | (with_reducible refine Below.drew ?_) | (with_reducible refine below_drewN ?_ _)))))).mono ?_); rintro e w1 ⟨rfl, hb⟩)
  go_ret
  exact ⟨rfl, by (repeat' (first | (with_reducible exact Below.refl _ _) | (with_reducible assumption) | (with_reducible refine belowThru ?_ (by assumption)) | (with_reducible refine belowAlloc ?_) | (with_reducible refine Below.setCell ?_ (by first | omega | (simp; done) | (simp; omega)) _) | (with_reducible refine Below.drew ?_) | (with_reducible refine below_drewN ?_ _)))⟩

/-! ### An image in new memory -/
theorem info_tin : (Try.prog.info? 3).map (fun i => (i.zero, i.size, i.bytes)) = some (some (.int .i64 0), 1, 8) := by kernel_rfl
theorem oneCell_iv (zs : List Int) : ∀ u ∈ iv zs, u.oneCell' = true := by
  intro u hu
  obtain ⟨z, -, rfl⟩ := List.mem_map.1 hu
  rfl
theorem Row.set {w : World} {a : Option Addr} {n : Nat} {vs : List Value} (h : Row w a n vs) {p : Addr} {v : Value} (hp : ∀ ad, a = some ad → p.block ≠ ad.block) : Row (w.setCell p v) a n vs :=
  ⟨h.1, fun hn => by
    obtain ⟨b, off, ha, hlt, hc⟩ := h.2 hn
    have hne := hp _ ha
    exact ⟨b, off, ha, by simpa [World.setCell] using hlt, fun j hj => (World.cell?_of_block (w := w) (Below.heap_setCell w p v b (fun e => hne e.symm))).trans (hc j hj)⟩⟩
theorem add_pl (b off i : Nat) : (⟨b, off, none⟩ : Addr).add i = ⟨b, off + i, none⟩ := by
  unfold Addr.add; split <;> simp_all
/-- A slice of numbers in a block of numbers that is known. -/
def Own (w : World) (a : Option Addr) (n : Nat) (zs : List Int) : Prop :=
  zs.length = n ∧ ((a = none ∧ n = 0) ∨ ∃ (g : Nat) (cur : Array Value), a = some ⟨g, 0, none⟩ ∧ Blk w g cur 3 ∧ ∀ j, j < n → cur[j]? = (iv zs)[j]?)
theorem Own.row {w : World} {a : Option Addr} {n : Nat} {zs : List Int} (h : Own w a n zs) : Row w a n (iv zs) := by
  obtain ⟨hl, h⟩ := h
  refine ⟨by rw [iv_length]; exact hl, fun hn => ?_⟩
  rcases h with ⟨-, rfl⟩ | ⟨g, cur, rfl, k, hc⟩
  · exact absurd hn (by omega)
  · exact ⟨g, 0, rfl, k.lt, fun j hj => by rw [Nat.zero_add, k.cells, hc j hj]⟩
theorem Own.later {w w' : World} (hb : Below w.heap.size w w') {a : Option Addr} {n : Nat} {zs : List Int} (h : Own w a n zs) : Own w' a n zs :=
  ⟨h.1, h.2.imp id (fun ⟨g, cur, e, k, hc⟩ => ⟨g, cur, e, Blk.later hb k, hc⟩)⟩
theorem Own.drew {w : World} {a : Option Addr} {n : Nat} {zs : List Int} (h : Own w a n zs) : Own w.drew a n zs := h
theorem Own.alloc {w : World} {o : Obj} {a : Option Addr} {n : Nat} {zs : List Int} (h : Own w a n zs) : Own (w.alloc o) a n zs :=
  ⟨h.1, h.2.imp id (fun ⟨g, cur, e, k, hc⟩ => ⟨g, cur, e, k.alloc, hc⟩)⟩
theorem Own.set {w : World} {a : Option Addr} {n : Nat} {zs : List Int} (h : Own w a n zs) {b i : Nat} {c : Array Value} {t : TypeId} (k : Blk w b c t) (ht : t ≠ 3) (v : Value) : Own (w.setCell ⟨b, i, none⟩ v) a n zs :=
  ⟨h.1, h.2.imp id (fun ⟨g, cur, e, kg, hc⟩ => ⟨g, cur, e, Blk.other kg (fun e2 => by
    have e3 : g = b := e2
    subst e3
    have k1 : w.heap[g]? = some (.cells cur 3 (0, 0)) := kg
    have k2 : w.heap[g]? = some (.cells c t (0, 0)) := k
    rw [k1] at k2
    cases k2
    exact ht rfl), hc⟩)⟩
theorem Own.set3 {w : World} {a : Option Addr} {n : Nat} {zs : List Int} (h : Own w a n zs) {b : Nat} {c : Array Value} {t : TypeId} (k : Blk w b c t) (ht : t ≠ 3) (x y z : Value) : Own (((w.setCell ⟨b, 0, none⟩ x).setCell ⟨b, 1, none⟩ y).setCell ⟨b, 2, none⟩ z) a n zs :=
  ((h.set k ht x).set (Blk.set k) ht y).set (Blk.set (Blk.set k)) ht z
/-- What append makes of nil and a slice that reads as a list. -/
theorem run_append_row (ty : TypeId) (a : Option Addr) (n c : Nat) (zs : List Int) (h8 : n * 8 ≤ 140737488351232) (w : World) (hR : Row w a n (iv zs)) :
    ∃ (a' : Option Addr) (c' : Nat) (w' : World), (Builtin.append_ #[22, 22] ty #[.slice none 0 0, .slice a n c]).run Try.prog w = .ok (.slice a' n c') w' ∧ Own w' a' n zs ∧ (∀ ad, a' = some ad → w.heap.size ≤ ad.block) ∧ Below w.heap.size w w' := by
  obtain ⟨i0, hi, hz0, hz1, hz2⟩ := info_parts info_tin
  rcases a with _ | ad
  · have hn : n = 0 := by
      rcases Nat.eq_zero_or_pos n with h | h
      · exact h
      · obtain ⟨b, off, e, -⟩ := hR.2 h; cases e
    subst hn
    have hv : iv zs = [] := List.eq_nil_of_length_eq_zero hR.1
    have hz : zs = [] := by cases zs <;> simp_all [iv]
    subst hz
    refine ⟨none, 0, w, ?_, ⟨rfl, .inl ⟨rfl, rfl⟩⟩, (fun _ e => by cases e), Below.refl _ _⟩
    simp [Builtin.append_, run_underlying Try.underlying22, sizeOf, typeInfo, hi, Builtin.lenOf, Builtin.firstCells]
  · have hc : ∀ j u, (iv zs)[j]? = some u → w.cell? (ad.add j) = some u := by
      intro j u hu
      have hj : j < n := by have := (List.getElem?_eq_some_iff.1 hu).1; have := hR.1; omega
      obtain ⟨b, off, e, -, hc⟩ := hR.2 (by omega)
      cases e
      rw [add_pl, hc j hj, hu]
    obtain ⟨v', w', hrun, hown, hg, -, -⟩ := run_append_own_at (P := Try.prog) w w.heap.size 22 ty 3 i0 (.int .i64 0) 1 8 Try.underlying22 hi hz0 hz1 hz2 rfl (by omega) (.slice none 0 0) 0 [] (World.ownsRow_nil _ _ _ _) ad n c (iv zs) (by rw [hR.1]; omega) hc (oneCell_iv zs) (by unfold maxLen; omega) (by omega) (Nat.le_refl _)
    have hB : Below w.heap.size w w' := (Below.refl _ w).grown hg (Nat.le_refl _) (fun k hk => by simp [Value.ownBlock] at hk)
    simp only [Nat.zero_add, List.nil_append] at hown
    rcases hown.2 with ⟨rfl, h0⟩ | ⟨g, cap, cur, rfl, hb, hh, hnc, _, hcs, ht⟩
    · subst h0
      exact ⟨none, 0, w', hrun, ⟨by have := hR.1; rwa [iv_length] at this, .inl ⟨rfl, rfl⟩⟩, (fun _ e => by cases e), hB⟩
    · refine ⟨_, _, w', hrun, ⟨by have := hR.1; rwa [iv_length] at this, .inr ⟨g, cur, rfl, hh, fun j hj => ?_⟩⟩, (fun ad e => by cases e; exact hb), hB⟩
      rw [← ht, Nat.mul_one, List.getElem?_take_of_lt hj, Array.getElem?_toList]
theorem wp_append_row {P : Program} {o : Oper} {act : Act} {K : Act → World → Prop} {Q : Exit → Act → World → Prop} {w : World} (s x : Operand) (t : TypeId) (R : Value → World → Prop)
    (ho : o.op = .call { callee := .builtin .append, args := #[s, x], argTypes := #[t, t] }) (v u : Value) (hs : act.eval s = v) (hx : act.eval x = u)
    (hr : ∃ r w', (Builtin.append_ #[t, t] o.type #[v, u]).run P w = .ok r w' ∧ R r w')
    (h : ∀ r w', R r w' → K (act.put o.dst r) w') : o.wp P act w K Q := by
  obtain ⟨r, w', hrun, hR⟩ := hr
  unfold Oper.wp execOp
  simp only [ho, resolve, invoke, builtin, Sem.run_bind, Sem.run_pure, Result.andThen_ok, List.map_toArray, List.map_cons, List.map_nil, hs, hx, hrun]
  exact h r w' hR
theorem wpList_append_row {P : Program} {ops : Array Oper} {rest : List Oper} {o : Oper} {act : Act} {Q : Exit → Act → World → Prop} {w : World} (hgd : o.guard = none) (s x : Operand) (t : TypeId) (R : Value → World → Prop)
    (ho : o.op = .call { callee := .builtin .append, args := #[s, x], argTypes := #[t, t] }) (v u : Value) (hs : act.eval s = v) (hx : act.eval x = u)
    (hr : ∃ r w', (Builtin.append_ #[t, t] o.type #[v, u]).run P w = .ok r w' ∧ R r w')
    (h : ∀ r w', R r w' → wpList P ops Q rest (act.put o.dst r) w') : wpList P ops Q (o :: rest) act w :=
  wpList_plain hgd fun _ hK => wp_append_row s x t R ho v u hs hx hr fun r w' hR => hK _ _ (h r w' hR)
/-- A new image that reads as the old one. -/
def RetTwin (W H : Int) (n : Nat) (zs : List Int) (w : World) (e : Ending) (w' : World) : Prop :=
  ∃ (a' : Option Addr) (c' : Nat), e = .returned (.agg #[.int .i64 W, .int .i64 H, .slice a' n c']) ∧ Own w' a' n zs ∧ Below w.heap.size w w'
set_option maxHeartbeats 1000000 in
theorem twin_any (W H : Int) (a : Option Addr) (n c : Nat) (zs : List Int) (h8 : n * 8 ≤ 140737488351232) (w : World) (hR : Row w a n (iv zs)) :
    Calls Try.prog 33 #[.agg #[.int .i64 W, .int .i64 H, .slice a n c]] w (RetTwin W H n zs w) := by
  have hR2 : Row ((w.alloc (.cells #[.int .i64 W, .int .i64 H, .slice a n c] 24)).alloc (.cells #[.int .i64 0, .int .i64 0, .slice none 0 0] 24)) a n (iv zs) := hR.later (by (repeat' (first | (with_reducible exact Below.refl _ _) | (with_reducible assumption) | (with_reducible refine belowThru ?_ (by assumption)) | (with_reducible refine belowAlloc ?_) | (with_reducible refine Below.setCell ?_ (by first | omega | (simp; done) | (simp; omega)) _) | (with_reducible refine Below.drew ?_) | (with_reducible refine below_drewN ?_ _))))
  have HA : Hid (∀ ty, ∃ r w', (Builtin.append_ #[22, 22] ty #[.slice none 0 0, .slice a n c]).run Try.prog ((w.alloc (.cells #[.int .i64 W, .int .i64 H, .slice a n c] 24)).alloc (.cells #[.int .i64 0, .int .i64 0, .slice none 0 0] 24)) = .ok r w' ∧ ∃ (a' : Option Addr) (c' : Nat), r = .slice a' n c' ∧ Own w' a' n zs ∧ (∀ ad, a' = some ad → w.heap.size + 1 + 1 ≤ ad.block) ∧ Below (w.heap.size + 1 + 1) ((w.alloc (.cells #[.int .i64 W, .int .i64 H, .slice a n c] 24)).alloc (.cells #[.int .i64 0, .int .i64 0, .slice none 0 0] 24)) w') := by
    intro ty
    obtain ⟨a', c', w', h1, h2, h4, h3⟩ := run_append_row ty a n c zs h8 _ hR2
    exact ⟨_, w', h1, a', c', rfl, h2, by simpa using h4, by simpa using h3⟩
  clear hR hR2 h8
  go_enter Try.func33, Try.ntmps33
  go_wp2_with (at_builtin; (refine wpList_append_row rfl _ _ _ _ rfl _ _ rfl rfl (HA.out _) ?_); (rintro r w1 ⟨a1, n1, rfl, hR1, hL1, hb⟩); (have k0 : Blk w1 w.heap.size #[.int .i64 W, .int .i64 H, .slice a n c] 24 := Blk.below hb (by omega) (Blk.alloc (Blk.new rfl))); (have k1 : Blk w1 (w.heap.size + 1) #[.int .i64 0, .int .i64 0, .slice none 0 0] 24 := Blk.below hb (by omega) (Blk.new (by simp))); obtain ⟨a0, b0⟩ := k0.read; obtain ⟨a1', b1⟩ := k1.read)
  have hB : Below w.heap.size w w1 := Below.trans (b := ((w.alloc (.cells #[.int .i64 W, .int .i64 H, .slice a n c] 24)).alloc (.cells #[.int .i64 0, .int .i64 0, .slice none 0 0] 24))) (by (repeat' (first | (with_reducible exact Below.refl _ _) | (with_reducible assumption) | (with_reducible refine belowThru ?_ (by assumption)) | (with_reducible refine belowAlloc ?_) | (with_reducible refine Below.setCell ?_ (by first | omega | (simp; done) | (simp; omega)) _) | (with_reducible refine Below.drew ?_) | (with_reducible refine below_drewN ?_ _)))) (hb.mono (by omega))
  have hz : w.heap.size + 1 + 1 ≤ w1.heap.size := by have := hb.size; simpa using this
  exact bodyPost_ret (v := .agg #[.int .i64 W, .int .i64 H, .slice a1 n n1]) (by simp only [results, Try.results33]; go_simp) rfl ⟨a1, n1, rfl, Own.set3 (Own.set hR1 k0 (by decide) _) (Blk.other k1 (by simp)) (by decide) _ _ _, by (repeat' (first | (with_reducible exact Below.refl _ _) | (with_reducible assumption) | (with_reducible refine belowThru ?_ (by assumption)) | (with_reducible refine belowAlloc ?_) | (with_reducible refine Below.setCell ?_ (by first | omega | (simp; done) | (simp; omega)) _) | (with_reducible refine Below.drew ?_) | (with_reducible refine below_drewN ?_ _)))⟩
end Go.Proofs.Ytihefdlolfpbnaa
