/-
  Slices of structs that read as lists, and what append makes of them (for any element type).
-/
import Derived.Maps.AppendAt
import Derived.Laws.OwnMore
import Derived.Test.YtnkpejinnbiocaaJRow
namespace Go.Proofs.Ytnkpejinnbiocaa
open Go.RowKit
set_option linter.unusedVariables false
set_option linter.unusedSimpArgs false

section
variable {α : Type}
/-- Elements of a type t of k cells, in slices of the type ts. -/
structure Elem (P : Program) (t ts : TypeId) (k : Nat) (en : α → List Value) : Prop where
  hk : ∀ x, (en x).length = k
  k0 : 0 < k
  one : ∀ x, ∀ u ∈ en x, u.oneCell' = true
  und : P.underlying ts = some (.slice t)
  info : ∃ (i : TypeInfo) (z : Value), P.info? t = some i ∧ i.zero = some z ∧ i.size = k ∧ i.bytes ≤ 64 ∧ z.cells.size = k
variable {P : Program} {t ts : TypeId} {k : Nat} {en : α → List Value}
theorem fm_length (hk : ∀ x, (en x).length = k) (xs : List α) : (xs.flatMap en).length = xs.length * k := by
  induction xs with
  | nil => simp
  | cons x xs ih => rw [List.flatMap_cons, List.length_append, ih, hk, List.length_cons, Nat.add_mul]; omega
theorem fm_get (hk : ∀ x, (en x).length = k) (xs : List α) (j i : Nat) (hi : i < k) : (xs.flatMap en)[j * k + i]? = xs[j]?.bind fun x => (en x)[i]? := by
  induction xs generalizing j with
  | nil => simp
  | cons x xs ih =>
    rw [List.flatMap_cons]
    cases j with
    | zero => rw [Nat.zero_mul, Nat.zero_add, List.getElem?_append_left (by rw [hk]; exact hi)]; rfl
    | succ j =>
      rw [List.getElem?_append_right (by rw [hk, Nat.add_mul]; omega), hk, show (j + 1) * k + i - k = j * k + i by rw [Nat.add_mul]; omega, ih]
      rfl
/-- A slice that reads as these elements; its address is known only where it has an element. -/
def RowK (k : Nat) (en : α → List Value) (w : World) (a : Option Addr) (n : Nat) (xs : List α) : Prop :=
  xs.length = n ∧ (0 < n → ∃ b off, a = some ⟨b, off, none⟩ ∧ b < w.heap.size ∧ ∀ (j : Nat) (x : α), xs[j]? = some x → ∀ (i : Nat) (v : Value), (en x)[i]? = some v → w.cell? ⟨b, off + j * k + i, none⟩ = some v)
theorem RowK.later {w w' : World} (hb : Below w.heap.size w w') {a : Option Addr} {n : Nat} {xs : List α} (h : RowK k en w a n xs) : RowK k en w' a n xs :=
  ⟨h.1, fun hn => by
    obtain ⟨b, off, ha, hlt, hc⟩ := h.2 hn
    exact ⟨b, off, ha, Nat.lt_of_lt_of_le hlt hb.size, fun j x hx i v hv => (World.cell?_of_block (w := w) (hb.block b hlt)).trans (hc j x hx i v hv)⟩⟩
theorem RowK.drew {w : World} {a : Option Addr} {n : Nat} {xs : List α} (h : RowK k en w a n xs) : RowK k en w.drew a n xs := h
theorem RowK.nil (w : World) (a : Option Addr) : RowK k en w a 0 [] := ⟨rfl, fun h => absurd h (by omega)⟩
theorem RowK.at {w : World} {a : Option Addr} {n : Nat} {xs : List α} (h : RowK k en w a n xs) {j : Nat} (hj : j < n) :
    ∃ b off x, a = some ⟨b, off, none⟩ ∧ b < w.heap.size ∧ xs[j]? = some x ∧ ∀ (i : Nat) (v : Value), (en x)[i]? = some v → w.cell? ⟨b, off + j * k + i, none⟩ = some v := by
  obtain ⟨b, off, ha, hlt, hc⟩ := h.2 (by omega)
  have e : xs[j]? = some (xs[j]'(by rw [h.1]; exact hj)) := List.getElem?_eq_getElem _
  exact ⟨b, off, _, ha, hlt, e, hc j _ e⟩
/-- A row whose block is not written. -/
theorem RowK.other {w : World} {a : Option Addr} {n : Nat} {xs : List α} (h : RowK k en w a n xs) {p : Addr} {v : Value} (hp : ∀ ad, a = some ad → ad.block ≠ p.block) : RowK k en (w.setCell p v) a n xs :=
  ⟨h.1, fun hn => by
    obtain ⟨b, off, ha, hlt, hc⟩ := h.2 hn
    exact ⟨b, off, ha, by simpa [World.setCell] using hlt, fun j x hx i u hu => (World.cell?_of_block (w := w) (Below.heap_setCell w p v b (hp _ ha))).trans (hc j x hx i u hu)⟩⟩
/-- A slice of one's own, made behind a mark, that reads as these elements. -/
def OwnK (t : TypeId) (k : Nat) (en : α → List Value) (B : Nat) (w : World) (v : Value) (xs : List α) : Prop := w.ownsRow B t k v xs.length (xs.flatMap en)
theorem OwnK.row (E : Elem P t ts k en) {B : Nat} {w : World} {v : Value} {xs : List α} (h : OwnK t k en B w v xs) :
    ∃ a c, v = .slice a xs.length c ∧ RowK k en w a xs.length xs ∧ xs.length ≤ c ∧ c ≤ maxLen ∧ (∀ ad, a = some ad → B ≤ ad.block) := by
  rcases h.2 with ⟨rfl, h0⟩ | ⟨g, cap, cur, rfl, hb, hh, hnc, hcm, hcs, ht⟩
  · exact ⟨none, 0, by rw [h0], ⟨rfl, fun hn => absurd hn (by omega)⟩, by omega, Nat.zero_le _, fun _ e => by cases e⟩
  · refine ⟨_, _, rfl, ⟨rfl, fun hn => ⟨g, 0, rfl, lt_of_block hh, fun j x hx i v hv => ?_⟩⟩, hnc, hcm, fun ad e => by cases e; exact hb⟩
    have hj : j < xs.length := (List.getElem?_eq_some_iff.1 hx).1
    have hi : i < k := by have := (List.getElem?_eq_some_iff.1 hv).1; rwa [E.hk] at this
    have hlt : j * k + i < xs.length * k := by
      have : (j + 1) * k ≤ xs.length * k := Nat.mul_le_mul_right _ hj
      rw [Nat.add_mul] at this; omega
    have hq := fm_get E.hk xs j i hi
    rw [hx, ← ht, List.getElem?_take_of_lt hlt, Array.getElem?_toList] at hq
    show w.cell? ⟨g, 0 + j * k + i, none⟩ = some v
    rw [Nat.zero_add]
    have e : w.cell? ⟨g, j * k + i, none⟩ = cur[j * k + i]? := by simp [World.cell?, hh]
    rw [e, hq]; exact hv
theorem OwnK.later {B : Nat} {w w' : World} {v : Value} {xs : List α} (hb : Below w.heap.size w w') (h : OwnK t k en B w v xs) : OwnK t k en B w' v xs := by
  refine ⟨h.1, ?_⟩
  rcases h.2 with h0 | ⟨g, cap, cur, rfl, hb1, hh, hr⟩
  · exact .inl h0
  · exact .inr ⟨g, cap, cur, rfl, hb1, by rw [hb.block g (lt_of_block hh)]; exact hh, hr⟩
theorem OwnK.drew {B : Nat} {w : World} {v : Value} {xs : List α} (h : OwnK t k en B w v xs) : OwnK t k en B w.drew v xs := h
theorem OwnK.alloc {B : Nat} {w : World} {o : Obj} {v : Value} {xs : List α} (h : OwnK t k en B w v xs) : OwnK t k en B (w.alloc o) v xs := World.ownsRow.alloc h o
theorem OwnK.mono {B C : Nat} (hC : C ≤ B) {w : World} {v : Value} {xs : List α} (h : OwnK t k en B w v xs) : OwnK t k en C w v xs :=
  ⟨h.1, h.2.imp id fun ⟨g, cap, cur, a, b, c⟩ => ⟨g, cap, cur, a, Nat.le_trans hC b, c⟩⟩
theorem OwnK.nil (B : Nat) (w : World) : OwnK t k en B w (.slice none 0 0) [] := ⟨by simp, .inl ⟨rfl, rfl⟩⟩
/-- Another block is written. -/
theorem OwnK.other {B : Nat} {w : World} {v : Value} {xs : List α} (h : OwnK t k en B w v xs) {p : Addr} {u : Value} (hp : v.ownBlock ≠ some p.block) : OwnK t k en B (w.setCell p u) v xs := by
  refine ⟨h.1, ?_⟩
  rcases h.2 with h0 | ⟨g, cap, cur, rfl, hb1, hh, hr⟩
  · exact .inl h0
  · exact .inr ⟨g, cap, cur, rfl, hb1, by rw [Below.heap_setCell w p u g (fun e => hp (by simp [Value.ownBlock, e]))]; exact hh, hr⟩
theorem OwnK.but {B : Nat} {w w' : World} {v : Value} {xs : List α} {row : Option Nat} (h : OwnK t k en B w v xs) (hg : w.grownBy w' row) (hne : v.ownBlock = none ∨ v.ownBlock ≠ row) : OwnK t k en B w' v xs := World.ownsRow.kept h hg hne
theorem OwnK.lt {B : Nat} {w : World} {v : Value} {xs : List α} (h : OwnK t k en B w v xs) : ∀ g, v.ownBlock = some g → B ≤ g ∧ g < w.heap.size := World.ownsRow.lt h
/-- A block of another type is not its own. -/
theorem OwnK.ne {B : Nat} {w : World} {v : Value} {xs : List α} (h : OwnK t k en B w v xs) {b : Nat} {c : Array Value} {t' : TypeId} (kb : Blk w b c t') (ht : t' ≠ t) : v.ownBlock ≠ some b := by
  rcases h.2 with ⟨rfl, -⟩ | ⟨g, cap, cur, rfl, hb1, hh, hr⟩
  · intro e; simp [Value.ownBlock] at e
  · intro e
    have e' : g = b := by simpa [Value.ownBlock] using e
    subst e'
    have k2 : w.heap[g]? = some (.cells c t' (0, 0)) := kb
    rw [k2] at hh
    cases hh
    exact ht rfl
theorem OwnK.one (E : Elem P t ts k en) {B b : Nat} {w : World} {x : α} (h : Blk w b (en x).toArray t) (hB : B ≤ b) : OwnK t k en B w (.slice (some ⟨b, 0, none⟩) 1 1) [x] :=
  ⟨by simp [E.hk], .inr ⟨b, 1, _, rfl, hB, h, Nat.le_refl _, by unfold maxLen; omega, by simp [E.hk], by simp [← E.hk x]⟩⟩
theorem OwnK.none0 (E : Elem P t ts k en) {B b : Nat} {w : World} (h : Blk w b #[] t) (hB : B ≤ b) : OwnK t k en B w (.slice (some ⟨b, 0, none⟩) 0 0) [] :=
  ⟨by simp, .inr ⟨b, 0, #[], rfl, hB, h, Nat.le_refl _, Nat.zero_le _, by simp, by simp⟩⟩
theorem rowK_one (E : Elem P t ts k en) {b : Nat} {w : World} {x : α} (h : Blk w b (en x).toArray t) : RowK k en w (some ⟨b, 0, none⟩) 1 [x] :=
  ⟨rfl, fun _ => ⟨b, 0, rfl, h.lt, fun j y hy i v hv => by
    cases j with
    | zero =>
      obtain rfl : x = y := by simpa using hy
      rw [h.cells]
      simpa using hv
    | succ j => simp at hy⟩⟩
theorem RowK.cells (E : Elem P t ts k en) {w : World} {ad : Addr} {m : Nat} {us : List α} (h : RowK k en w (some ad) m us) : ∀ j u, (us.flatMap en)[j]? = some u → w.cell? (ad.add j) = some u := by
  intro j u hu
  have hj : j < (us.flatMap en).length := (List.getElem?_eq_some_iff.1 hu).1
  rw [fm_length E.hk] at hj
  have hm : 0 < m := by
    have := h.1
    rcases Nat.eq_zero_or_pos m with h0 | h0
    · rw [h0] at this; rw [this] at hj; omega
    · exact h0
  obtain ⟨b, off, e, -, hc⟩ := h.2 hm
  cases e
  have k0 := E.k0
  have hq : j / k < us.length := Nat.div_lt_of_lt_mul (by rw [Nat.mul_comm]; exact hj)
  have hr : j % k < k := Nat.mod_lt _ k0
  have hd : j / k * k + j % k = j := by rw [Nat.mul_comm]; exact Nat.div_add_mod j k
  have hx : us[j / k]? = some us[j / k] := List.getElem?_eq_getElem hq
  have hg := fm_get E.hk us (j / k) (j % k) hr
  rw [hd, hu, hx] at hg
  have := hc _ _ hx (j % k) u hg.symm
  rw [Addr.add_lit]
  rw [← hd, show off + (j / k * k + j % k) = off + j / k * k + j % k by omega]
  exact this
theorem oneCell_fm (E : Elem P t ts k en) (us : List α) : ∀ u ∈ us.flatMap en, u.oneCell' = true := by
  intro u hu
  obtain ⟨p, -, hp⟩ := List.mem_flatMap.1 hu
  exact E.one p u hp
/-- What append makes of a slice of one's own and others. -/
theorem run_append_k (E : Elem P t ts k en) (ty : TypeId) {B : Nat} {w : World} {v : Value} {xs us : List α} {a : Option Addr} {m c : Nat} (hown : OwnK t k en B w v xs) (hR : RowK k en w a m us) (h1 : xs.length + m ≤ 1099511627776) (hB : B ≤ w.heap.size) :
    ∃ (v' : Value) (w' : World), (Builtin.append_ #[ts, ts] ty #[v, .slice a m c]).run P w = .ok v' w' ∧ OwnK t k en B w' v' (xs ++ us) ∧ w.grownBy w' v.ownBlock ∧ Below B w w' ∧ (v'.ownBlock = v.ownBlock ∨ v'.ownBlock = some w.heap.size) := by
  obtain ⟨i0, z, hi, hz0, hz1, hz2, hz3⟩ := E.info
  have hlen : us.length = m := hR.1
  rcases a with _ | ad
  · have hn : m = 0 := by
      rcases Nat.eq_zero_or_pos m with h | h
      · exact h
      · obtain ⟨b, off, e, -⟩ := hR.2 h; cases e
    subst hn
    obtain rfl : us = [] := List.eq_nil_of_length_eq_zero hlen
    refine ⟨v, w, ?_, by rw [List.append_nil]; exact hown, ⟨rfl, rfl, rfl, Nat.le_refl _, fun _ _ _ => rfl⟩, Below.refl _ _, .inl rfl⟩
    rcases hown.2 with ⟨rfl, h0⟩ | ⟨g, cap, cur, rfl, hb, hh, hnc, _, hcs, ht⟩
    · simp [Builtin.append_, run_underlying E.und, sizeOf, typeInfo, hi, Builtin.lenOf, Builtin.firstCells, storeCells]
    · have q : ¬ (cap < xs.length) := by omega
      simp [Builtin.append_, run_underlying E.und, sizeOf, typeInfo, hi, Builtin.lenOf, Builtin.firstCells, storeCells, hnc, q]
  · obtain ⟨v', w', hrun, hown', hgr, -, hat⟩ := run_append_own_at (P := P) w B ts ty t i0 z k i0.bytes E.und hi hz0 hz1 rfl hz3 E.k0 v xs.length (xs.flatMap en) hown ad m c (us.flatMap en) (by rw [fm_length E.hk, hlen]) (hR.cells E) (oneCell_fm E us) (by unfold maxLen; omega) (Nat.le_trans (Nat.mul_le_mul h1 hz2) (by decide)) hB
    refine ⟨v', w', hrun, ?_, hgr, (Below.refl _ w).grown hgr hB (fun q hq => (hown.lt q hq).1), hat⟩
    unfold OwnK
    rw [List.flatMap_append, List.length_append, hlen]
    exact hown'
/-- What append makes of a slice that is full: new memory. -/
theorem run_append_full (E : Elem P t ts k en) (ty : TypeId) {w : World} {xs us : List α} {a a2 : Option Addr} {n m c : Nat} (hX : RowK k en w a n xs) (hR : RowK k en w a2 m us) (hm : 0 < m) (h1 : n + m ≤ 1099511627776) :
    ∃ (v' : Value) (w' : World), (Builtin.append_ #[ts, ts] ty #[.slice a n n, .slice a2 m c]).run P w = .ok v' w' ∧ OwnK t k en w.heap.size w' v' (xs ++ us) ∧ Below w.heap.size w w' := by
  obtain ⟨i0, z, hi, hz0, hz1, hz2, hz3⟩ := E.info
  have hlen : us.length = m := hR.1
  have hlx : xs.length = n := hX.1
  have hx0 : a = none → n = 0 := fun e => by
    rcases Nat.eq_zero_or_pos n with h | h
    · exact h
    · obtain ⟨b, off, e2, -⟩ := hX.2 h; rw [e] at e2; cases e2
  rcases a2 with _ | ad
  · obtain ⟨b, off, e, -⟩ := hR.2 hm; cases e
  rcases a with _ | b
  · obtain rfl := hx0 rfl
    obtain rfl : xs = [] := List.eq_nil_of_length_eq_zero hlx
    obtain ⟨v', w', h2, h3, h4, h5, h6⟩ := run_append_k E ty (OwnK.nil (t := t) (k := k) (en := en) w.heap.size w) hR (by simpa using h1) (Nat.le_refl _)
    exact ⟨v', w', h2, h3, h5⟩
  · have hb : i0.bytes ≤ 64 := hz2
    have hr := run_append_grow (P := P) w ts ty t i0 z E.und hi hz0 b n n (xs.flatMap en) (by rw [fm_length E.hk, hlx, hz1]) (hX.cells E) ad m c (us.flatMap en) (by rw [fm_length E.hk, hlen, hz1]) (hR.cells E) (by omega) (by omega) (growslice_fits (by omega) (Nat.le_trans (Nat.mul_le_mul h1 hb) (by decide)))
    have hge := grownCap_ge w (n + m) n t
    have hcm : grownCap w (n + m) n t ≤ maxLen := grownCap_le_maxLen w (n + m) n t (by unfold maxLen; omega)
    refine ⟨_, _, hr, ?_, (Below.refl _ w).drew.alloc (by simp) _⟩
    unfold OwnK
    have hl2 : ((xs ++ us).flatMap en).length = (n + m) * k := by rw [fm_length E.hk, List.length_append, hlx, hlen]
    have hl3 : (xs ++ us).length = n + m := by rw [List.length_append, hlx, hlen]
    rw [hl3]
    refine ⟨hl2, .inr ⟨w.heap.size, _, _, rfl, Nat.le_refl _, heap_alloc_new w.drew _, hge, hcm, ?_, ?_⟩⟩
    · simp only [Array.size_append, List.size_toArray, size_zeroCells, hz3, fm_length E.hk, hlx, hlen, ← Nat.add_mul]
      congr 1
      omega
    · simp only [Array.toList_append, List.append_assoc]
      rw [← List.append_assoc, ← List.flatMap_append, ← hl2]
      exact List.take_left
end
theorem wp_append_row {P : Program} {o : Oper} {act : Act} {K : Act → World → Prop} {Q : Exit → Act → World → Prop} {w : World} (s x : Operand) (t : TypeId) (R : Value → World → Prop)
    (ho : o.op = .call { callee := .builtin .append, args := #[s, x], argTypes := #[t, t] }) (v u : Value) (hs : act.eval s = v) (hx : act.eval x = u)
    (hr : ∃ r w', (Builtin.append_ #[t, t] o.type #[v, u]).run P w = .ok r w' ∧ R r w')
    (h : ∀ r w', R r w' → K (act.put o.dst r) w') : o.wp P act w K Q := by
  obtain ⟨r, w', hrun, hR⟩ := hr
  unfold Oper.wp execOp
  simp only [ho, resolve, invoke, builtin, Sem.run_bind, Sem.run_pure, Result.andThen_ok, List.map_toArray, List.map_cons, List.map_nil, hs, hx, hrun]
  exact h r w' hR
theorem wpList_append_row {P : Program} {ops : Array Oper} {rest : List Oper} {o : Oper} {act : Act} {Q : Exit → Act → World → Prop} {w : World} (hgd : o.guard = none) (s x : Operand) (t : TypeId) (R : Value → World → Prop)
    (ho : o.op = .call { callee := .builtin .append, args := #[s, x], argTypes := #[t, t] }) (v u : Value) (hs : act.eval s = v) (hx : act.eval x = u)
    (hr : ∃ r w', (Builtin.append_ #[t, t] o.type #[v, u]).run P w = .ok r w' ∧ R r w')
    (h : ∀ r w', R r w' → wpList P ops Q rest (act.put o.dst r) w') : wpList P ops Q (o :: rest) act w :=
  wpList_plain hgd fun _ hK => wp_append_row s x t R ho v u hs hx hr fun r w' hR => hK _ _ (h r w' hR)

/-! ### Parts and fates -/
abbrev Sn := Int × Int × Int × Bool
abbrev Ft := Int × Int × Bool
/-- The cells of a part, and of a fate. -/
def sn1 (x : Sn) : List Value := [.int .i64 x.1, .int .i64 x.2.1, .int .u8 x.2.2.1, .bool x.2.2.2]
def ft1 (x : Ft) : List Value := [.int .i64 x.1, .int .u8 x.2.1, .bool x.2.2]
def in1 (x : Int) : List Value := [.int .i64 x]
theorem elem_sn : Elem Try.prog 43 24 4 sn1 where
  hk := fun _ => rfl
  k0 := by decide
  one := fun x u hu => by simp [sn1] at hu; rcases hu with rfl | rfl | rfl | rfl <;> rfl
  und := Try.underlying24
  info := by
    have h : (Try.prog.info? 43).map (fun i => (i.zero, i.size, i.bytes)) = some (some (.agg #[.int .i64 0, .int .i64 0, .int .u8 0, .bool false]), 4, 24) := by kernel_rfl
    obtain ⟨i0, hi, hz0, hz1, hz2⟩ := info_parts h
    exact ⟨i0, _, hi, hz0, hz1, by omega, rfl⟩
theorem elem_ft : Elem Try.prog 74 49 3 ft1 where
  hk := fun _ => rfl
  k0 := by decide
  one := fun x u hu => by simp [ft1] at hu; rcases hu with rfl | rfl | rfl <;> rfl
  und := Try.underlying49
  info := by
    have h : (Try.prog.info? 74).map (fun i => (i.zero, i.size, i.bytes)) = some (some (.agg #[.int .i64 0, .int .u8 0, .bool false]), 3, 16) := by kernel_rfl
    obtain ⟨i0, hi, hz0, hz1, hz2⟩ := info_parts h
    exact ⟨i0, _, hi, hz0, hz1, by omega, rfl⟩
theorem elem_in : Elem Try.prog 3 56 1 in1 where
  hk := fun _ => rfl
  k0 := by decide
  one := fun x u hu => by simp [in1] at hu; rcases hu with rfl; rfl
  und := Try.underlying56
  info := by
    have h : (Try.prog.info? 3).map (fun i => (i.zero, i.size, i.bytes)) = some (some (.int .i64 0), 1, 8) := by kernel_rfl
    obtain ⟨i0, hi, hz0, hz1, hz2⟩ := info_parts h
    exact ⟨i0, _, hi, hz0, hz1, by omega, rfl⟩
end Go.Proofs.Ytnkpejinnbiocaa
