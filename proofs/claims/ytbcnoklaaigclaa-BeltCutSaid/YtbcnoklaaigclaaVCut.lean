/-
  The law BeltCut.
-/
import Derived.Test.YtbcnoklaaigclaaVAl3
import Derived.Test.YtbcnoklaaigclaaVSme
namespace Go.Proofs.Ytbcnoklaaigclaa
open Go.RowKit Go.Shelf
set_option linter.unusedVariables false
set_option linter.unusedSimpArgs false


theorem wpList_append_row_g {P : Program} {ops : Array Oper} {rest : List Oper} {o : Oper} {act : Act} {Q : Exit → Act → World → Prop} {w : World} (hw : Region.wanted o (yielded ops act.tmps) = true) (s x : Operand) (t : TypeId) (R : Value → World → Prop)
    (ho : o.op = .call { callee := .builtin .append, args := #[s, x], argTypes := #[t, t] }) (v u : Value) (hs : act.eval s = v) (hx : act.eval x = u)
    (hr : ∃ r w', (Builtin.append_ #[t, t] o.type #[v, u]).run P w = .ok r w' ∧ R r w')
    (h : ∀ r w', R r w' → wpList P ops Q rest (act.put o.dst r) w') : wpList P ops Q (o :: rest) act w :=
  BigFrame.wpList_want hw fun _ hK => wp_append_row s x t R ho v u hs hx hr fun r w' hR => hK _ _ (h r w' hR)
theorem rowOf' {w : World} {B n : Nat} {a : Option Addr} {cap : Nat} {xs : List Sn} (h : OwnK 68 4 sn1 B w (.slice a n cap) xs) : RowK 4 sn1 w a n xs := by
  obtain ⟨a', c, e, hr, hc, -⟩ := h.row elem_sn
  have e : Value.slice a n cap = Value.slice a' xs.length c := e
  cases e
  exact hr
theorem rowOfF {w : World} {B n : Nat} {a : Option Addr} {cap : Nat} {xs : List Ft} (h : OwnK 46 3 ft1 B w (.slice a n cap) xs) : RowK 3 ft1 w a n xs := by
  obtain ⟨a', c, e, hr, hc, -⟩ := h.row elem_ft
  have e : Value.slice a n cap = Value.slice a' xs.length c := e
  cases e
  exact hr
set_option maxRecDepth 100000 in
set_option maxHeartbeats 16000000 in
theorem cut_walk (s p g l c nx C1 C2 N M S : Int) (a : Option Addr) (n cap : Nat) (xs Y1 Y2 : List Sn) (K1 K2 : List Ft) (hn : n ≤ 50) (hN : 1 ≤ N ∧ N ≤ 500) (hM : 1 ≤ M ∧ M ≤ 500) (hS : N + M = S) (hy : Y2.length ≤ 50) (hk1 : K1.length ≤ 50) (hk2 : K2.length ≤ 50) (w : World) (hR : RowK 4 sn1 w a n xs)
    (H1 : Hid (∀ (a : Option Addr) (n cap : Nat) (w : World), RowK 4 sn1 w a n xs → Calls Try.prog 24 #[.agg #[.int .i64 s, .int .i64 p, .int .i64 g, .int .i64 l, .int .i64 c, .int .i64 nx, .slice a n cap], .int .i64 S] w fun e w' => (∃ v uf, e = .returned (.tuple #[.agg #[.int .i64 s, .int .i64 p, .int .i64 g, .int .i64 l, .int .i64 C2, .int .i64 nx, v], uf, .int .i64 0]) ∧ OwnK 68 4 sn1 w.heap.size w' v Y2 ∧ OwnK 46 3 ft1 w.heap.size w' uf (K1 ++ K2)) ∧ Below w.heap.size w w'))
    (H2 : Hid (∀ (a : Option Addr) (n cap : Nat) (w : World), RowK 4 sn1 w a n xs → Calls Try.prog 24 #[.agg #[.int .i64 s, .int .i64 p, .int .i64 g, .int .i64 l, .int .i64 c, .int .i64 nx, .slice a n cap], .int .i64 N] w fun e w' => (∃ v uf, e = .returned (.tuple #[.agg #[.int .i64 s, .int .i64 p, .int .i64 g, .int .i64 l, .int .i64 C1, .int .i64 nx, v], uf, .int .i64 0]) ∧ OwnK 68 4 sn1 w.heap.size w' v Y1 ∧ OwnK 46 3 ft1 w.heap.size w' uf K1) ∧ Below w.heap.size w w'))
    (H3 : Hid (∀ (a : Option Addr) (n cap : Nat) (w : World), RowK 4 sn1 w a n Y1 → Calls Try.prog 24 #[.agg #[.int .i64 s, .int .i64 p, .int .i64 g, .int .i64 l, .int .i64 C1, .int .i64 nx, .slice a n cap], .int .i64 M] w fun e w' => (∃ v uf, e = .returned (.tuple #[.agg #[.int .i64 s, .int .i64 p, .int .i64 g, .int .i64 l, .int .i64 C2, .int .i64 nx, v], uf, .int .i64 0]) ∧ OwnK 68 4 sn1 w.heap.size w' v Y2 ∧ OwnK 46 3 ft1 w.heap.size w' uf K2) ∧ Below w.heap.size w w')) :
    Calls Try.prog 12 #[.agg #[.int .i64 s, .int .i64 p, .int .i64 g, .int .i64 l, .int .i64 c, .int .i64 nx, .slice a n cap], .int .i64 N, .int .i64 M] w fun e w' => e = .returned (.bool true) ∧ Below w.heap.size w w' := by
  have HA := Lib.hid alive_true
  have HR := Lib.hid hR
  obtain ⟨N1, N2⟩ := hN; obtain ⟨M1, M2⟩ := hM
  have d1 : decide ((50 : Int) < n) = false := decide_eq_false (by omega)
  have d2 : decide (N < 1) = false := decide_eq_false (by omega)
  have d3 : decide (M < 1) = false := decide_eq_false (by omega)
  have d4 : decide (500 < N) = false := decide_eq_false (by omega)
  have d5 : decide (500 < M) = false := decide_eq_false (by omega)
  have e1 : IntKind.i64.wrap (N + M) = S := by rw [hS]; exact IntWalk.i64_in _ (by omega)
  have HY := Lib.hid hy; have HK1 := Lib.hid hk1; have HK2 := Lib.hid hk2
  clear hS hR hy hk1 hk2
  go_enter Try.func12, Try.ntmps12
  go_wp2_with fail
  refine (HA.out _).mono ?_
  rintro e w1 ⟨rfl, hb⟩
  have k0 : Blk w1 w.heap.size #[.int .i64 s, .int .i64 p, .int .i64 g, .int .i64 l, .int .i64 c, .int .i64 nx, .slice a n cap] 36 := Blk.later hb (Blk.new rfl)
  have hB : Below w.heap.size w w1 := belowThru (belowAlloc (Below.refl _ _)) hb
  clear hb
  obtain ⟨a0, b0⟩ := k0.read; have y0 := k0.lt
  go_wp2_with fail
  refine (H1.out _ _ _ _ (HR.out.later hB)).mono ?_
  rintro e w2 ⟨⟨v1, u1, rfl, hV1, hK1⟩, hb⟩
  clear a0 b0 y0
  replace k0 := Blk.later hb k0; replace hB := belowThru hB hb
  clear hb
  obtain ⟨a1, c1, e1', -⟩ := hV1.row elem_sn
  obtain ⟨n1, hn1⟩ : ∃ k, Y2.length = k := ⟨_, rfl⟩
  rw [hn1] at e1'
  subst e1'
  obtain ⟨f1, g1, e1', -⟩ := hK1.row elem_ft
  obtain ⟨m1, hm1⟩ : ∃ k, (K1 ++ K2).length = k := ⟨_, rfl⟩
  rw [hm1] at e1'
  subst e1'
  obtain ⟨a0, b0⟩ := k0.read; have y0 := k0.lt
  go_wp2_with fail
  clear a0 b0 y0
  obtain ⟨bA, hbA⟩ : ∃ b, w2.heap.size = b := ⟨_, rfl⟩
  obtain ⟨W1, hW⟩ : ∃ W, w2.alloc (.cells #[.int .i64 s, .int .i64 p, .int .i64 g, .int .i64 l, .int .i64 C2, .int .i64 nx, .slice a1 n1 c1] 36) = W := ⟨_, rfl⟩
  have kA : Blk W1 bA #[.int .i64 s, .int .i64 p, .int .i64 g, .int .i64 l, .int .i64 C2, .int .i64 nx, .slice a1 n1 c1] 36 := by rw [← hW, ← hbA]; exact Blk.new rfl
  replace k0 : Blk W1 w.heap.size #[.int .i64 s, .int .i64 p, .int .i64 g, .int .i64 l, .int .i64 c, .int .i64 nx, .slice a n cap] 36 := by rw [← hW]; exact k0.alloc
  replace hB : Below w.heap.size w W1 := by rw [← hW]; exact belowAlloc hB
  replace hV1 := Lib.hid (show OwnK 68 4 sn1 w1.heap.size W1 _ _ by rw [← hW]; exact hV1.alloc)
  replace hK1 := Lib.hid (show OwnK 46 3 ft1 w1.heap.size W1 _ _ by rw [← hW]; exact hK1.alloc)
  rw [hW, hbA]
  clear hW hbA
  refine (H2.out _ _ _ _ (HR.out.later hB)).mono ?_
  rintro e w3 ⟨⟨v2, u2, rfl, hV2, hK2⟩, hb⟩
  replace kA := Blk.later hb kA; replace hB := belowThru hB hb
  replace hV1 := Lib.hid (hV1.out.later hb); replace hK1 := Lib.hid (hK1.out.later hb)
  clear hb k0
  obtain ⟨a2, c2, e2', -⟩ := hV2.row elem_sn
  subst e2'
  obtain ⟨f2, g2, e2', -⟩ := hK2.row elem_ft
  obtain ⟨m2, hm2⟩ : ∃ k, K1.length = k := ⟨_, rfl⟩
  rw [hm2] at e2'
  subst e2'
  have hr2 := Lib.hid (rowOf' hV2)
  have hK2' := Lib.hid hK2
  clear hV2 hK2
  go_wp2_with fail
  obtain ⟨W2, hW⟩ : ∃ W, w3.alloc (.cells #[.int .i64 s, .int .i64 p, .int .i64 g, .int .i64 l, .int .i64 C1, .int .i64 nx, .slice a2 Y1.length c2] 36) = W := ⟨_, rfl⟩
  replace kA : Blk W2 bA #[.int .i64 s, .int .i64 p, .int .i64 g, .int .i64 l, .int .i64 C2, .int .i64 nx, .slice a1 n1 c1] 36 := by rw [← hW]; exact kA.alloc
  replace hB : Below w.heap.size w W2 := by rw [← hW]; exact belowAlloc hB
  replace hV1 := Lib.hid (show OwnK 68 4 sn1 w1.heap.size W2 _ _ by rw [← hW]; exact hV1.out.alloc)
  replace hK1 := Lib.hid (show OwnK 46 3 ft1 w1.heap.size W2 _ _ by rw [← hW]; exact hK1.out.alloc)
  replace hK2' := Lib.hid (show OwnK 46 3 ft1 W1.heap.size W2 _ _ by rw [← hW]; exact hK2'.out.alloc)
  replace hr2 := Lib.hid (show RowK 4 sn1 W2 _ _ _ by rw [← hW]; exact hr2.out.later (belowAlloc (Below.refl _ _)))
  rw [hW]
  clear hW
  refine (H3.out _ _ _ _ hr2.out).mono ?_
  rintro e w4 ⟨⟨v3, u3, rfl, hV3, hK3⟩, hb⟩
  replace kA := Blk.later hb kA; replace hB := belowThru hB hb
  replace hV1 := Lib.hid (hV1.out.later hb); replace hK1 := Lib.hid (hK1.out.later hb); replace hK2' := Lib.hid (hK2'.out.later hb)
  clear hb hr2
  obtain ⟨a3, c3, e3', -⟩ := hV3.row elem_sn
  rw [hn1] at e3'
  subst e3'
  obtain ⟨f3, g3, e3', -⟩ := hK3.row elem_ft
  obtain ⟨m3, hm3⟩ : ∃ k, K2.length = k := ⟨_, rfl⟩
  rw [hm3] at e3'
  subst e3'
  have hV3' := Lib.hid (show OwnK 68 4 sn1 W2.heap.size (w4.alloc (.cells #[.int .i64 s, .int .i64 p, .int .i64 g, .int .i64 l, .int .i64 C2, .int .i64 nx, .slice a3 n1 c3] 36)) _ _ from hV3.alloc)
  have hK3' := Lib.hid (show OwnK 46 3 ft1 W2.heap.size (w4.alloc (.cells #[.int .i64 s, .int .i64 p, .int .i64 g, .int .i64 l, .int .i64 C2, .int .i64 nx, .slice a3 n1 c3] 36)) _ _ from hK3.alloc)
  replace hV1 := Lib.hid (show OwnK 68 4 sn1 w1.heap.size (w4.alloc (.cells #[.int .i64 s, .int .i64 p, .int .i64 g, .int .i64 l, .int .i64 C2, .int .i64 nx, .slice a3 n1 c3] 36)) _ _ from hV1.out.alloc)
  clear hV3 hK3
  obtain ⟨aA, bA'⟩ := kA.read; have yA := kA.lt
  go_wp2_with fail
  clear aA bA' yA
  have hb4 : Below w4.heap.size w4 (w4.alloc (.cells #[.int .i64 s, .int .i64 p, .int .i64 g, .int .i64 l, .int .i64 C2, .int .i64 nx, .slice a3 n1 c3] 36)) := belowAlloc (Below.refl _ _)
  refine (same_eq s p g l C2 nx a1 a3 n1 c1 c3 Y2 (by have := HY.out; omega) _ (rowOf' hV1.out) (rowOf' hV3'.out)).mono ?_
  rintro e w5 ⟨rfl, hb⟩
  replace hb4 := belowThru hb4 hb
  replace hB := belowThru hB hb4
  have hF1 := Lib.hid (rowOfF (hK1.out.later hb4)); have hF2 := Lib.hid (rowOfF (hK2'.out.later hb4)); have hF3 := Lib.hid (rowOfF (hK3'.out.later hb))
  clear hb hb4 hV1 hV3' hK1 hK2' hK3' kA
  have HP : Hid (∀ ty, ∃ r w', (Builtin.append_ #[40, 40] ty #[.slice (some ⟨w5.heap.size, 0, none⟩) 0 0, .slice f2 m2 g2]).run Try.prog (w5.alloc (.cells #[] 46)) = .ok r w' ∧ (OwnK 46 3 ft1 w5.heap.size w' r K1 ∧ Below w5.heap.size w5 w')) := fun ty => by
    obtain ⟨v', w', h1, h2, -, h3, -⟩ := run_append_k (P := Try.prog) elem_ft ty (OwnK.none0 (B := w5.heap.size) elem_ft (w := w5.alloc (.cells #[] 46)) (Blk.new rfl) (Nat.le_refl _)) (hF2.out.later (belowAlloc (Below.refl _ _))) (by have := HK1.out; simp; omega) (by simp)
    exact ⟨v', w', h1, by simpa using h2, Below.trans (belowAlloc (Below.refl _ _)) h3⟩
  have HG : Hid (∀ r w6, OwnK 46 3 ft1 w5.heap.size w6 r K1 → Below w5.heap.size w5 w6 → ∀ ty, ∃ r' w', (Builtin.append_ #[40, 40] ty #[r, .slice f3 m3 g3]).run Try.prog w6 = .ok r' w' ∧ (OwnK 46 3 ft1 w5.heap.size w' r' (K1 ++ K2) ∧ Below w5.heap.size w5 w')) := fun r w6 hO6 hb6 ty => by
    obtain ⟨v', w', h1, h2, -, h3, -⟩ := run_append_k (P := Try.prog) elem_ft ty hO6 (hF3.out.later hb6) (by have := HK1.out; have := HK2.out; omega) hb6.size
    exact ⟨v', w', h1, h2, Below.trans hb6 h3⟩
  go_wp2_with (first
    | (at_builtin; (refine wpList_append_row_g (by first | rfl | decide | (simp [Region.wanted, yielded]; done) | (go_simp; done)) _ _ _ _ rfl _ _ rfl rfl (HP2.out _) ?_); (rintro r2 w7 ⟨hO7, hb7⟩))
    | (at_builtin; (refine wpList_append_row_g (by first | rfl | decide | (simp [Region.wanted, yielded]; done) | (go_simp; done)) _ _ _ _ rfl _ _ rfl rfl (HP.out _) ?_); (rintro r w6 ⟨hO6, hb6⟩; have HP2 := Lib.hid (HG.out r w6 hO6 hb6))))
  obtain ⟨a7, c7, e7, -⟩ := hO7.row elem_ft
  rw [hm1] at e7
  subst e7
  refine (sameFates_eq f1 a7 m1 g1 c7 (K1 ++ K2) (by have := HK1.out; have := HK2.out; rw [List.length_append] at hm1; omega) _ (hF1.out.later hb7) (rowOfF hO7)).mono ?_
  rintro e w8 ⟨rfl, hb⟩
  replace hB := belowThru (belowThru hB hb7) hb
  go_wp2_with fail
  go_ret
  exact ⟨rfl, hB⟩
set_option maxRecDepth 100000 in
set_option maxHeartbeats 16000000 in
theorem cut_g0 (s p g l c nx N M : Int) (a : Option Addr) (n cap : Nat) (w : World) (d0 : decide ((50 : Int) < n) = true) :
    Calls Try.prog 12 #[.agg #[.int .i64 s, .int .i64 p, .int .i64 g, .int .i64 l, .int .i64 c, .int .i64 nx, .slice a n cap], .int .i64 N, .int .i64 M] w fun e w' => e = .returned (.bool true) ∧ Below w.heap.size w w' := by
  have HA := Lib.hid alive_true
  go_enter Try.func12, Try.ntmps12
  go_wp2_with fail
  refine (HA.out _).mono ?_
  rintro e w1 ⟨rfl, hb⟩
  have k0 : Blk w1 w.heap.size #[.int .i64 s, .int .i64 p, .int .i64 g, .int .i64 l, .int .i64 c, .int .i64 nx, .slice a n cap] 36 := Blk.later hb (Blk.new rfl)
  have hB : Below w.heap.size w w1 := belowThru (belowAlloc (Below.refl _ _)) hb
  clear hb
  obtain ⟨a0, b0⟩ := k0.read; have y0 := k0.lt
  go_wp2_with fail
  go_ret
  exact ⟨rfl, by (repeat' (first | (with_reducible exact Below.refl _ _) | (with_reducible assumption) | (with_reducible refine belowThru ?_ (by assumption)) | (with_reducible refine belowAlloc ?_) | (with_reducible refine Below.setCell ?_ (by first | omega | (simp; done) | (simp; omega)) _) | (with_reducible refine Below.drew ?_) | (with_reducible refine below_drewN ?_ _)))⟩
set_option maxRecDepth 100000 in
set_option maxHeartbeats 16000000 in
theorem cut_g1 (s p g l c nx N M : Int) (a : Option Addr) (n cap : Nat) (w : World) (d0 : decide ((50 : Int) < n) = false) (d1 : decide (N < 1) = true) :
    Calls Try.prog 12 #[.agg #[.int .i64 s, .int .i64 p, .int .i64 g, .int .i64 l, .int .i64 c, .int .i64 nx, .slice a n cap], .int .i64 N, .int .i64 M] w fun e w' => e = .returned (.bool true) ∧ Below w.heap.size w w' := by
  have HA := Lib.hid alive_true
  go_enter Try.func12, Try.ntmps12
  go_wp2_with fail
  refine (HA.out _).mono ?_
  rintro e w1 ⟨rfl, hb⟩
  have k0 : Blk w1 w.heap.size #[.int .i64 s, .int .i64 p, .int .i64 g, .int .i64 l, .int .i64 c, .int .i64 nx, .slice a n cap] 36 := Blk.later hb (Blk.new rfl)
  have hB : Below w.heap.size w w1 := belowThru (belowAlloc (Below.refl _ _)) hb
  clear hb
  obtain ⟨a0, b0⟩ := k0.read; have y0 := k0.lt
  go_wp2_with fail
  go_ret
  exact ⟨rfl, by (repeat' (first | (with_reducible exact Below.refl _ _) | (with_reducible assumption) | (with_reducible refine belowThru ?_ (by assumption)) | (with_reducible refine belowAlloc ?_) | (with_reducible refine Below.setCell ?_ (by first | omega | (simp; done) | (simp; omega)) _) | (with_reducible refine Below.drew ?_) | (with_reducible refine below_drewN ?_ _)))⟩
set_option maxRecDepth 100000 in
set_option maxHeartbeats 16000000 in
theorem cut_g2 (s p g l c nx N M : Int) (a : Option Addr) (n cap : Nat) (w : World) (d0 : decide ((50 : Int) < n) = false) (d1 : decide (N < 1) = false) (d2 : decide (M < 1) = true) :
    Calls Try.prog 12 #[.agg #[.int .i64 s, .int .i64 p, .int .i64 g, .int .i64 l, .int .i64 c, .int .i64 nx, .slice a n cap], .int .i64 N, .int .i64 M] w fun e w' => e = .returned (.bool true) ∧ Below w.heap.size w w' := by
  have HA := Lib.hid alive_true
  go_enter Try.func12, Try.ntmps12
  go_wp2_with fail
  refine (HA.out _).mono ?_
  rintro e w1 ⟨rfl, hb⟩
  have k0 : Blk w1 w.heap.size #[.int .i64 s, .int .i64 p, .int .i64 g, .int .i64 l, .int .i64 c, .int .i64 nx, .slice a n cap] 36 := Blk.later hb (Blk.new rfl)
  have hB : Below w.heap.size w w1 := belowThru (belowAlloc (Below.refl _ _)) hb
  clear hb
  obtain ⟨a0, b0⟩ := k0.read; have y0 := k0.lt
  go_wp2_with fail
  go_ret
  exact ⟨rfl, by (repeat' (first | (with_reducible exact Below.refl _ _) | (with_reducible assumption) | (with_reducible refine belowThru ?_ (by assumption)) | (with_reducible refine belowAlloc ?_) | (with_reducible refine Below.setCell ?_ (by first | omega | (simp; done) | (simp; omega)) _) | (with_reducible refine Below.drew ?_) | (with_reducible refine below_drewN ?_ _)))⟩
set_option maxRecDepth 100000 in
set_option maxHeartbeats 16000000 in
theorem cut_g3 (s p g l c nx N M : Int) (a : Option Addr) (n cap : Nat) (w : World) (d0 : decide ((50 : Int) < n) = false) (d1 : decide (N < 1) = false) (d2 : decide (M < 1) = false) (d3 : decide (500 < N) = true) :
    Calls Try.prog 12 #[.agg #[.int .i64 s, .int .i64 p, .int .i64 g, .int .i64 l, .int .i64 c, .int .i64 nx, .slice a n cap], .int .i64 N, .int .i64 M] w fun e w' => e = .returned (.bool true) ∧ Below w.heap.size w w' := by
  have HA := Lib.hid alive_true
  go_enter Try.func12, Try.ntmps12
  go_wp2_with fail
  refine (HA.out _).mono ?_
  rintro e w1 ⟨rfl, hb⟩
  have k0 : Blk w1 w.heap.size #[.int .i64 s, .int .i64 p, .int .i64 g, .int .i64 l, .int .i64 c, .int .i64 nx, .slice a n cap] 36 := Blk.later hb (Blk.new rfl)
  have hB : Below w.heap.size w w1 := belowThru (belowAlloc (Below.refl _ _)) hb
  clear hb
  obtain ⟨a0, b0⟩ := k0.read; have y0 := k0.lt
  go_wp2_with fail
  go_ret
  exact ⟨rfl, by (repeat' (first | (with_reducible exact Below.refl _ _) | (with_reducible assumption) | (with_reducible refine belowThru ?_ (by assumption)) | (with_reducible refine belowAlloc ?_) | (with_reducible refine Below.setCell ?_ (by first | omega | (simp; done) | (simp; omega)) _) | (with_reducible refine Below.drew ?_) | (with_reducible refine below_drewN ?_ _)))⟩
set_option maxRecDepth 100000 in
set_option maxHeartbeats 16000000 in
theorem cut_g4 (s p g l c nx N M : Int) (a : Option Addr) (n cap : Nat) (w : World) (d0 : decide ((50 : Int) < n) = false) (d1 : decide (N < 1) = false) (d2 : decide (M < 1) = false) (d3 : decide (500 < N) = false) (d4 : decide (500 < M) = true) :
    Calls Try.prog 12 #[.agg #[.int .i64 s, .int .i64 p, .int .i64 g, .int .i64 l, .int .i64 c, .int .i64 nx, .slice a n cap], .int .i64 N, .int .i64 M] w fun e w' => e = .returned (.bool true) ∧ Below w.heap.size w w' := by
  have HA := Lib.hid alive_true
  go_enter Try.func12, Try.ntmps12
  go_wp2_with fail
  refine (HA.out _).mono ?_
  rintro e w1 ⟨rfl, hb⟩
  have k0 : Blk w1 w.heap.size #[.int .i64 s, .int .i64 p, .int .i64 g, .int .i64 l, .int .i64 c, .int .i64 nx, .slice a n cap] 36 := Blk.later hb (Blk.new rfl)
  have hB : Below w.heap.size w w1 := belowThru (belowAlloc (Below.refl _ _)) hb
  clear hb
  obtain ⟨a0, b0⟩ := k0.read; have y0 := k0.lt
  go_wp2_with fail
  go_ret
  exact ⟨rfl, by (repeat' (first | (with_reducible exact Below.refl _ _) | (with_reducible assumption) | (with_reducible refine belowThru ?_ (by assumption)) | (with_reducible refine belowAlloc ?_) | (with_reducible refine Below.setCell ?_ (by first | omega | (simp; done) | (simp; omega)) _) | (with_reducible refine Below.drew ?_) | (with_reducible refine below_drewN ?_ _)))⟩
set_option maxRecDepth 100000 in
set_option maxHeartbeats 16000000 in
theorem cut_bad1 (s p g l c nx C1 N M S E E2 : Int) (a : Option Addr) (n cap : Nat) (xs Y1 : List Sn) (K1 : List Ft) (hE : (E != 0) = true) (hn : n ≤ 50) (hN : 1 ≤ N ∧ N ≤ 500) (hM : 1 ≤ M ∧ M ≤ 500) (hS : N + M = S) (w : World) (hR : RowK 4 sn1 w a n xs)
    (H1 : Hid (∀ (w : World), RowK 4 sn1 w a n xs → Calls Try.prog 24 #[.agg #[.int .i64 s, .int .i64 p, .int .i64 g, .int .i64 l, .int .i64 c, .int .i64 nx, .slice a n cap], .int .i64 S] w fun e w' => (e = .returned (.tuple #[.agg #[.int .i64 0, .int .i64 0, .int .i64 0, .int .i64 0, .int .i64 0, .int .i64 0, .slice none 0 0], .slice none 0 0, .int .i64 E])) ∧ Below w.heap.size w w'))
    (H2 : Hid (∀ (w : World), RowK 4 sn1 w a n xs → Calls Try.prog 24 #[.agg #[.int .i64 s, .int .i64 p, .int .i64 g, .int .i64 l, .int .i64 c, .int .i64 nx, .slice a n cap], .int .i64 N] w fun e w' => (e = .returned (.tuple #[.agg #[.int .i64 0, .int .i64 0, .int .i64 0, .int .i64 0, .int .i64 0, .int .i64 0, .slice none 0 0], .slice none 0 0, .int .i64 E2])) ∧ Below w.heap.size w w')) :
    Calls Try.prog 12 #[.agg #[.int .i64 s, .int .i64 p, .int .i64 g, .int .i64 l, .int .i64 c, .int .i64 nx, .slice a n cap], .int .i64 N, .int .i64 M] w fun e w' => e = .returned (.bool true) ∧ Below w.heap.size w w' := by
  have HA := Lib.hid alive_true
  have HR := Lib.hid hR
  obtain ⟨N1, N2⟩ := hN; obtain ⟨M1, M2⟩ := hM
  have d1 : decide ((50 : Int) < n) = false := decide_eq_false (by omega)
  have d2 : decide (N < 1) = false := decide_eq_false (by omega)
  have d3 : decide (M < 1) = false := decide_eq_false (by omega)
  have d4 : decide (500 < N) = false := decide_eq_false (by omega)
  have d5 : decide (500 < M) = false := decide_eq_false (by omega)
  have e1 : IntKind.i64.wrap (N + M) = S := by rw [hS]; exact IntWalk.i64_in _ (by omega)
  clear hS hR
  go_enter Try.func12, Try.ntmps12
  go_wp2_with fail
  refine (HA.out _).mono ?_
  rintro e w1 ⟨rfl, hb⟩
  have k0 : Blk w1 w.heap.size #[.int .i64 s, .int .i64 p, .int .i64 g, .int .i64 l, .int .i64 c, .int .i64 nx, .slice a n cap] 36 := Blk.later hb (Blk.new rfl)
  have hB : Below w.heap.size w w1 := belowThru (belowAlloc (Below.refl _ _)) hb
  clear hb
  obtain ⟨a0, b0⟩ := k0.read; have y0 := k0.lt
  go_wp2_with fail
  refine (H1.out _ (HR.out.later hB)).mono ?_
  rintro e w2 ⟨rfl, hb⟩
  clear a0 b0 y0
  replace k0 := Blk.later hb k0; replace hB := belowThru hB hb
  clear hb
  obtain ⟨a0, b0⟩ := k0.read; have y0 := k0.lt
  go_wp2_with fail
  refine (H2.out _ (HR.out.later (by (repeat' (first | (with_reducible exact Below.refl _ _) | (with_reducible assumption) | (with_reducible refine belowThru ?_ (by assumption)) | (with_reducible refine belowAlloc ?_) | (with_reducible refine Below.setCell ?_ (by first | omega | (simp; done) | (simp; omega)) _) | (with_reducible refine Below.drew ?_) | (with_reducible refine below_drewN ?_ _)))))).mono ?_
  rintro e w3 ⟨rfl, hb⟩
  have hB3 := belowThru (belowAlloc hB) hb
  clear hb hB k0 a0 b0 y0
  go_wp2_with fail
  go_ret
  exact ⟨rfl, by (repeat' (first | (with_reducible exact Below.refl _ _) | (with_reducible assumption) | (with_reducible refine belowThru ?_ (by assumption)) | (with_reducible refine belowAlloc ?_) | (with_reducible refine Below.setCell ?_ (by first | omega | (simp; done) | (simp; omega)) _) | (with_reducible refine Below.drew ?_) | (with_reducible refine below_drewN ?_ _)))⟩
set_option maxRecDepth 100000 in
set_option maxHeartbeats 16000000 in
theorem cut_bad2 (s p g l c nx C1 N M S E E2 : Int) (a : Option Addr) (n cap : Nat) (xs Y1 : List Sn) (K1 : List Ft) (hE : (E != 0) = true) (hn : n ≤ 50) (hN : 1 ≤ N ∧ N ≤ 500) (hM : 1 ≤ M ∧ M ≤ 500) (hS : N + M = S) (w : World) (hR : RowK 4 sn1 w a n xs)
    (H1 : Hid (∀ (w : World), RowK 4 sn1 w a n xs → Calls Try.prog 24 #[.agg #[.int .i64 s, .int .i64 p, .int .i64 g, .int .i64 l, .int .i64 c, .int .i64 nx, .slice a n cap], .int .i64 S] w fun e w' => (e = .returned (.tuple #[.agg #[.int .i64 0, .int .i64 0, .int .i64 0, .int .i64 0, .int .i64 0, .int .i64 0, .slice none 0 0], .slice none 0 0, .int .i64 E])) ∧ Below w.heap.size w w'))
    (H2 : Hid (∀ (a : Option Addr) (n cap : Nat) (w : World), RowK 4 sn1 w a n xs → Calls Try.prog 24 #[.agg #[.int .i64 s, .int .i64 p, .int .i64 g, .int .i64 l, .int .i64 c, .int .i64 nx, .slice a n cap], .int .i64 N] w fun e w' => (∃ v uf, e = .returned (.tuple #[.agg #[.int .i64 s, .int .i64 p, .int .i64 g, .int .i64 l, .int .i64 C1, .int .i64 nx, v], uf, .int .i64 0]) ∧ OwnK 68 4 sn1 w.heap.size w' v Y1 ∧ OwnK 46 3 ft1 w.heap.size w' uf K1) ∧ Below w.heap.size w w')) :
    Calls Try.prog 12 #[.agg #[.int .i64 s, .int .i64 p, .int .i64 g, .int .i64 l, .int .i64 c, .int .i64 nx, .slice a n cap], .int .i64 N, .int .i64 M] w fun e w' => e = .returned (.bool true) ∧ Below w.heap.size w w' := by
  have HA := Lib.hid alive_true
  have HR := Lib.hid hR
  obtain ⟨N1, N2⟩ := hN; obtain ⟨M1, M2⟩ := hM
  have d1 : decide ((50 : Int) < n) = false := decide_eq_false (by omega)
  have d2 : decide (N < 1) = false := decide_eq_false (by omega)
  have d3 : decide (M < 1) = false := decide_eq_false (by omega)
  have d4 : decide (500 < N) = false := decide_eq_false (by omega)
  have d5 : decide (500 < M) = false := decide_eq_false (by omega)
  have e1 : IntKind.i64.wrap (N + M) = S := by rw [hS]; exact IntWalk.i64_in _ (by omega)
  clear hS hR
  go_enter Try.func12, Try.ntmps12
  go_wp2_with fail
  refine (HA.out _).mono ?_
  rintro e w1 ⟨rfl, hb⟩
  have k0 : Blk w1 w.heap.size #[.int .i64 s, .int .i64 p, .int .i64 g, .int .i64 l, .int .i64 c, .int .i64 nx, .slice a n cap] 36 := Blk.later hb (Blk.new rfl)
  have hB : Below w.heap.size w w1 := belowThru (belowAlloc (Below.refl _ _)) hb
  clear hb
  obtain ⟨a0, b0⟩ := k0.read; have y0 := k0.lt
  go_wp2_with fail
  refine (H1.out _ (HR.out.later hB)).mono ?_
  rintro e w2 ⟨rfl, hb⟩
  clear a0 b0 y0
  replace k0 := Blk.later hb k0; replace hB := belowThru hB hb
  clear hb
  obtain ⟨a0, b0⟩ := k0.read; have y0 := k0.lt
  go_wp2_with fail
  refine (H2.out _ _ _ _ (HR.out.later (by (repeat' (first | (with_reducible exact Below.refl _ _) | (with_reducible assumption) | (with_reducible refine belowThru ?_ (by assumption)) | (with_reducible refine belowAlloc ?_) | (with_reducible refine Below.setCell ?_ (by first | omega | (simp; done) | (simp; omega)) _) | (with_reducible refine Below.drew ?_) | (with_reducible refine below_drewN ?_ _)))))).mono ?_
  rintro e w3 ⟨⟨v1, u1, rfl, hV1, hK1⟩, hb⟩
  obtain ⟨a1, c1, e1', -⟩ := hV1.row elem_sn
  subst e1'
  obtain ⟨f1, g1, e1', -⟩ := hK1.row elem_ft
  subst e1'
  clear hV1 hK1
  have hB3 := belowThru (belowAlloc hB) hb
  clear hb hB k0 a0 b0 y0
  go_wp2_with fail
  go_ret
  exact ⟨rfl, by (repeat' (first | (with_reducible exact Below.refl _ _) | (with_reducible assumption) | (with_reducible refine belowThru ?_ (by assumption)) | (with_reducible refine belowAlloc ?_) | (with_reducible refine Below.setCell ?_ (by first | omega | (simp; done) | (simp; omega)) _) | (with_reducible refine Below.drew ?_) | (with_reducible refine below_drewN ?_ _)))⟩
theorem cut_true (s p g l c nx N M : Int) (a : Option Addr) (n cap : Nat) (xs : List Sn) (hn : n ≤ maxLen) (w : World) (hR : RowK 4 sn1 w a n xs) :
    Calls Try.prog 12 #[.agg #[.int .i64 s, .int .i64 p, .int .i64 g, .int .i64 l, .int .i64 c, .int .i64 nx, .slice a n cap], .int .i64 N, .int .i64 M] w fun e w' => e = .returned (.bool true) ∧ Below w.heap.size w w' := by
  by_cases g0 : (50 : Int) < n
  · exact cut_g0 s p g l c nx N M a n cap w (decide_eq_true g0)
  by_cases g1 : N < 1
  · exact cut_g1 s p g l c nx N M a n cap w (decide_eq_false g0) (decide_eq_true g1)
  by_cases g2 : M < 1
  · exact cut_g2 s p g l c nx N M a n cap w (decide_eq_false g0) (decide_eq_false g1) (decide_eq_true g2)
  by_cases g3 : 500 < N
  · exact cut_g3 s p g l c nx N M a n cap w (decide_eq_false g0) (decide_eq_false g1) (decide_eq_false g2) (decide_eq_true g3)
  by_cases g4 : 500 < M
  · exact cut_g4 s p g l c nx N M a n cap w (decide_eq_false g0) (decide_eq_false g1) (decide_eq_false g2) (decide_eq_false g3) (decide_eq_true g4)
  obtain ⟨A, rfl⟩ : ∃ A : Nat, N = A := ⟨N.toNat, by omega⟩
  obtain ⟨C, rfl⟩ : ∃ C : Nat, M = C := ⟨M.toNat, by omega⟩
  have eS : (A : Int) + (C : Int) = ((A + C : Nat) : Int) := by omega
  by_cases ho : okT s p g l c nx xs
  · have hx : xs.length ≤ 32 := ho.2.2.2.1
    have hc0 : 0 ≤ c := ho.2.1.1
    have HC : ∀ (a : Option Addr) (n cap : Nat) (w : World), RowK 4 sn1 w a n xs → Calls Try.prog 27 #[.agg #[.int .i64 s, .int .i64 p, .int .i64 g, .int .i64 l, .int .i64 c, .int .i64 nx, .slice a n cap]] w fun e w' => e = .returned (.int .i64 0) ∧ Below w.heap.size w w' := fun a n cap w hR => (HCt s p g l c nx a n cap xs (by have := hR.1; unfold maxLen; omega) 0 (ckT_yes ho)) w hR
    have HW : ∀ k : Nat, 1 ≤ k → k ≤ 1000 → Hid (∀ w, Calls Try.prog 55 #[.int .i64 (k : Int), .int .i64 1, .int .i64 1000] w fun e w' => e = .returned (.bool true) ∧ w = w') := fun k h1 h2 w => vwithin_yes _ _ _ (by omega) (by omega) w
    by_cases hf : c + ((A + C : Nat) : Int) ≤ 1099511627776
    · have o1 := okPs_adB (f := fiB s p g) (z := laB s p l g) A ho.2.2.2.2
      have l1 := adB_length (fiB s p g) (laB s p l g) A c xs
      have hok1 : okT s p g l (c + (A : Int)) nx (adB (fiB s p g) (laB s p l g) A c xs).1 := ⟨ho.1, by omega, ho.2.2.1, by omega, o1⟩
      have l2 := adB_length (fiB s p g) (laB s p l g) (A + C) c xs
      have l3 := adB_length (fiB s p g) (laB s p l g) C (c + A) (adB (fiB s p g) (laB s p l g) A c xs).1
      have ea := adB_add (fiB s p g) (laB s p l g) A C c xs
      refine cut_walk s p g l c nx (c + (A : Int)) (c + ((A + C : Nat) : Int)) A C ((A + C : Nat) : Int) a n cap xs (adB (fiB s p g) (laB s p l g) A c xs).1 (adB (fiB s p g) (laB s p l g) C (c + A) (adB (fiB s p g) (laB s p l g) A c xs).1).1 (adB (fiB s p g) (laB s p l g) A c xs).2 (adB (fiB s p g) (laB s p l g) C (c + A) (adB (fiB s p g) (laB s p l g) A c xs).1).2 (by omega) ⟨by omega, by omega⟩ ⟨by omega, by omega⟩ eS (by omega) (by omega) (by omega) w hR ?_ ?_ ?_
      · intro a n cap w hR
        have q := adv_ok (A + C) (cap := cap) ho ⟨by omega, by omega⟩ hf w hR
        rw [ea] at q
        exact q
      · intro a n cap w hR
        exact adv_ok A (cap := cap) ho ⟨by omega, by omega⟩ (by omega) w hR
      · intro a n cap w hR
        have q := adv_ok C (cap := cap) hok1 ⟨by omega, by omega⟩ (by omega) w hR
        rw [show c + (A : Int) + (C : Int) = c + ((A + C : Nat) : Int) by omega] at q
        exact q
    · by_cases hf2 : c + (A : Int) ≤ 1099511627776
      · exact cut_bad2 s p g l c nx (c + (A : Int)) A C ((A + C : Nat) : Int) 9 0 a n cap xs _ _ rfl (by omega) ⟨by omega, by omega⟩ ⟨by omega, by omega⟩ eS w hR
          (fun w hR => adv_full s p g l c nx _ a n cap xs ho.2.1 ⟨by omega, by omega⟩ (by omega) w hR (HC a n cap) (HW (A + C) (by omega) (by omega)))
          (fun a n cap w hR => adv_ok A (cap := cap) ho ⟨by omega, by omega⟩ hf2 w hR)
      · exact cut_bad1 s p g l c nx 0 A C ((A + C : Nat) : Int) 9 9 a n cap xs [] [] rfl (by omega) ⟨by omega, by omega⟩ ⟨by omega, by omega⟩ eS w hR
          (fun w hR => adv_full s p g l c nx _ a n cap xs ho.2.1 ⟨by omega, by omega⟩ (by omega) w hR (HC a n cap) (HW (A + C) (by omega) (by omega)))
          (fun w hR => adv_full s p g l c nx _ a n cap xs ho.2.1 ⟨by omega, by omega⟩ (by omega) w hR (HC a n cap) (HW A (by omega) (by omega)))
  · have hE : (ckT s p g l c nx xs != 0) = true := by
      rw [bne_iff_ne]
      exact fun h => ho (okT_ck h)
    have HC := HCt s p g l c nx a n cap xs hn _ rfl
    exact cut_bad1 s p g l c nx 0 A C ((A + C : Nat) : Int) _ _ a n cap xs [] [] hE (by omega) ⟨by omega, by omega⟩ ⟨by omega, by omega⟩ eS w hR
      (fun w hR => adv_bad s p g l c nx _ a n cap xs _ hE w hR HC) (fun w hR => adv_bad s p g l c nx _ a n cap xs _ hE w hR HC)
end Go.Proofs.Ytbcnoklaaigclaa
