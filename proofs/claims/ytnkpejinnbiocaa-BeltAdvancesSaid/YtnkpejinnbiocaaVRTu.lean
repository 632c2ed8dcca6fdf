/-
  Layer 9: a part at the sensor, by the document's own, from a valid track with room.
-/
import Derived.Test.YtnkpejinnbiocaaVRTs
namespace Go.Proofs.Ytnkpejinnbiocaa
open Go.RowKit Go.Shelf
set_option linter.unusedVariables false
set_option linter.unusedSimpArgs false

set_option maxRecDepth 100000 in
set_option maxHeartbeats 16000000 in
theorem rsense_yesa (s p g l c nx : Int) (a : Option Addr) (cap : Nat) (q : Nat) (xs : List Sn) (hq : q < 32) (hl : ∀ x, xs[q]? = some x → (x.2.1 == c) = false) (hf0 : q ≠ 31) (hv : 0 ≤ nx ∧ nx < 1099511627776) (w : World) (hR : RowK 4 sn1 w a (q + 1) xs) (HC : Hid (∀ w, RowK 4 sn1 w a (q + 1) xs → Calls Try.prog 15 #[.agg #[.int .i64 s, .int .i64 p, .int .i64 g, .int .i64 l, .int .i64 c, .int .i64 nx, .slice a (q + 1) cap]] w fun e w' => e = .returned (.int .i64 0) ∧ Below w.heap.size w w')) (HT : Hid (∀ w, RowK 4 sn1 w a (q + 1) xs → Calls Try.prog 7 #[.agg #[.int .i64 s, .int .i64 p, .int .i64 g, .int .i64 l, .int .i64 c, .int .i64 nx, .slice a (q + 1) cap]] w fun e w' => (∃ v, e = .returned (.agg #[.int .i64 s, .int .i64 p, .int .i64 g, .int .i64 l, .int .i64 c, .int .i64 nx, v]) ∧ OwnK 43 4 sn1 w.heap.size w' v xs) ∧ Below w.heap.size w w')) :
    Calls Try.prog 11 #[.agg #[.int .i64 s, .int .i64 p, .int .i64 g, .int .i64 l, .int .i64 c, .int .i64 nx, .slice a (q + 1) cap]] w fun e w' => (∃ v, e = .returned (.tuple #[.agg #[.int .i64 s, .int .i64 p, .int .i64 g, .int .i64 l, .int .i64 c, .int .i64 (nx + 1), v], .int .i64 nx, .int .i64 0]) ∧ OwnK 43 4 sn1 w.heap.size w' v (xs ++ [(nx, c, 0, false)])) ∧ Below w.heap.size w w' := by
  have v1 : IntKind.i64.wrap (nx + 1) = nx + 1 := IntWalk.i64_in _ (by omega)
  have v2 : IntKind.i64.wrap (nx + 1 - 1) = nx := by rw [show nx + 1 - 1 = nx by omega]; exact IntWalk.i64_in _ (by omega)
  have v3 : nx + 1 - 1 = nx := by omega
  have v7 : IntKind.i64.wrap nx = nx := IntWalk.i64_in _ (by omega)
  have v5 : (nx == 1099511627776) = false := by simp; omega
  clear hv
  have z1 : ((q : Int) + 1 == 32) = false := by simp; omega
  have z2 : (((q + 1 : Nat) : Int) == 32) = false := by simp; omega
  have HR := Lib.hid hR
  obtain ⟨bb, oo, q1, q2, q3, q4, rfl, hbb, hxk, d0, d1, d2, d3⟩ := hR.seen (show q < q + 1 by omega)
  have hd0 := hl _ hxk
  clear hR hxk d0 d2 d3 hbb hl
  have vq : IntKind.i64.wrap (((q + 1 : Nat) : Int) - 1) = (q : Int) := (IntWalk.i64_in _ (by omega)).trans (by omega)
  have vq2 : IntKind.i64.wrap ((q : Int) + 1 - 1) = (q : Int) := (IntWalk.i64_in _ (by omega)).trans (by omega)
  have vq3 : ((q : Int) + 1 - 1) = (q : Int) := by omega
  have p0 : (0 : Int) ≤ (q : Int) := by omega
  have p1 : (q : Int) < ((q + 1 : Nat) : Int) := by omega
  have p2 : (q : Int) < (q : Int) + 1 := by omega
  have p3 : decide ((0 : Int) < (q : Int) + 1) = true := decide_eq_true (by omega)
  have p4 : decide ((0 : Int) < ((q + 1 : Nat) : Int)) = true := decide_eq_true (by omega)
  have hlen := Lib.hid HR.out.1
  go_enter Try.func11, Try.ntmps11
  go_wp2_with fail
  refine (HC.out _ (HR.out.later (by (repeat' (first | (with_reducible exact Below.refl _ _) | (with_reducible assumption) | (with_reducible refine belowThru ?_ (by assumption)) | (with_reducible refine belowAlloc ?_) | (with_reducible refine Below.setCell ?_ (by first | omega | (simp; done) | (simp; omega)) _) | (with_reducible refine Below.drew ?_) | (with_reducible refine below_drewN ?_ _)))))).mono ?_
  rintro e w1 ⟨rfl, hb⟩
  have kT : Blk w1 w.heap.size #[.int .i64 s, .int .i64 p, .int .i64 g, .int .i64 l, .int .i64 c, .int .i64 nx, .slice (some ⟨bb, oo, none⟩) (q + 1) cap] 26 := Blk.later hb (Blk.alloc (Blk.new rfl))
  have kR : Blk w1 (w.heap.size + 1) #[.int .i64 0, .int .i64 0, .int .i64 0, .int .i64 0, .int .i64 0, .int .i64 0, .slice none 0 0] 26 := Blk.later hb (Blk.new (by simp))
  have hB : Below w.heap.size w w1 := belowThru (belowAlloc (belowAlloc (Below.refl _ _))) hb
  clear hb
  have d1 := cell_later hB d1
  obtain ⟨aT, bT⟩ := kT.read; obtain ⟨aR, bR⟩ := kR.read; have yT := kT.lt; have yR := kR.lt
  go_wp2_with fail
  go_quiet (fail)
  obtain ⟨W1, hW1⟩ : ∃ W, w1.drewN nq = W := ⟨_, rfl⟩
  have kT1 : Blk W1 w.heap.size #[.int .i64 s, .int .i64 p, .int .i64 g, .int .i64 l, .int .i64 c, .int .i64 nx, .slice (some ⟨bb, oo, none⟩) (q + 1) cap] 26 := by rw [← hW1]; exact kT.drewN
  have kR1 : Blk W1 (w.heap.size + 1) #[.int .i64 0, .int .i64 0, .int .i64 0, .int .i64 0, .int .i64 0, .int .i64 0, .slice none 0 0] 26 := by rw [← hW1]; exact kR.drewN
  have hB1 : Below w.heap.size w W1 := by rw [← hW1]; exact below_drewN hB _
  rw [hW1]
  clear hW1 kT kR aT bT aR bR hB yT yR
  obtain ⟨aT, bT⟩ := kT1.read; obtain ⟨aR, bR⟩ := kR1.read; have yT := kT1.lt; have yR := kR1.lt
  go_wp2_with fail
  refine (HT.out _ (HR.out.later hB1)).mono ?_
  rintro e w2 ⟨⟨v2', rfl, hO⟩, hb⟩
  have yw := hb.size
  have yS := hB1.size
  clear aT bT aR bR
  have kT2 := Blk.later hb kT1; have kR2 := Blk.later hb kR1; have hB2 := belowThru hB1 hb
  clear kT1 kR1 yT yR hB1 hb
  obtain ⟨a2, c2, ev, -⟩ := hO.row elem_sn
  rw [hlen.out] at ev
  subst ev
  obtain ⟨aT, bT⟩ := kT2.read; obtain ⟨aR, bR⟩ := kR2.read; have yT := kT2.lt; have yR := kR2.lt
  go_upto_region 10 with fail
  obtain ⟨W3, hW3⟩ : ∃ W, ((((((w2.setCell ⟨w.heap.size, 0, none⟩ (.int .i64 s)).setCell ⟨w.heap.size, 1, none⟩ (.int .i64 p)).setCell ⟨w.heap.size, 2, none⟩ (.int .i64 g)).setCell ⟨w.heap.size, 3, none⟩ (.int .i64 l)).setCell ⟨w.heap.size, 4, none⟩ (.int .i64 c)).setCell ⟨w.heap.size, 5, none⟩ (.int .i64 nx)).setCell ⟨w.heap.size, 6, none⟩ (.slice a2 (q + 1) c2) = W := ⟨_, rfl⟩
  have kT3 : Blk W3 w.heap.size #[.int .i64 s, .int .i64 p, .int .i64 g, .int .i64 l, .int .i64 c, .int .i64 nx, .slice a2 (q + 1) c2] 26 := by rw [← hW3]; exact kT2.set7 (.int .i64 s) (.int .i64 p) (.int .i64 g) (.int .i64 l) (.int .i64 c) (.int .i64 nx) (.slice a2 (q + 1) c2)
  have kR3 : Blk W3 (w.heap.size + 1) #[.int .i64 0, .int .i64 0, .int .i64 0, .int .i64 0, .int .i64 0, .int .i64 0, .slice none 0 0] 26 := by rw [← hW3]; exact (((((((kR2.other (by simp)).other (by simp)).other (by simp)).other (by simp)).other (by simp)).other (by simp)).other (by simp))
  have hO3 : OwnK 43 4 sn1 W1.heap.size W3 (.slice a2 (q + 1) c2) xs := by rw [← hW3]; exact hO.other7 (.int .i64 s) (.int .i64 p) (.int .i64 g) (.int .i64 l) (.int .i64 c) (.int .i64 nx) (.slice a2 (q + 1) c2) (hO.ne kT2 (by decide))
  have hB3 : Below w.heap.size w W3 := by rw [← hW3]; exact ((((((hB2.setCell (Nat.le_refl _) _).setCell (Nat.le_refl _) _).setCell (Nat.le_refl _) _).setCell (Nat.le_refl _) _).setCell (Nat.le_refl _) _).setCell (Nat.le_refl _) _).setCell (Nat.le_refl _) _
  have yW : W1.heap.size ≤ W3.heap.size := by rw [← hW3]; simpa using yw
  rw [hW3]
  clear hW3 kT2 kR2 hB2 aT bT aR bR yT yR yw hO
  have HP : Hid (∀ ty, ∃ r w', (Builtin.append_ #[24, 24] ty #[.slice a2 (q + 1) c2, .slice (some ⟨W3.heap.size, 0, none⟩) 1 1]).run Try.prog (W3.alloc (.cells #[.int .i64 nx, .int .i64 c, .int .u8 0, .bool false] 43)) = .ok r w' ∧ (∃ a3 c3, r = .slice a3 ((q + 1) + 1) c3 ∧ OwnK 43 4 sn1 W1.heap.size w' r (xs ++ [(nx, c, 0, false)]) ∧ (W3.alloc (.cells #[.int .i64 nx, .int .i64 c, .int .u8 0, .bool false] 43)).grownBy w' (Value.slice a2 (q + 1) c2).ownBlock ∧ Below W1.heap.size W3 w')) := fun ty => by
    obtain ⟨v', w', h1, h2, h4, h3, -⟩ := run_append_1s ty nx c 0 false hO3 (by have := hlen.out; omega) yW
    obtain ⟨a3, c3, ev, -⟩ := h2.row elem_sn
    rw [List.length_append, hlen.out] at ev
    exact ⟨v', w', h1, a3, c3, ev, h2, h4, h3⟩
  have kT4 : Blk (W3.alloc (.cells #[.int .i64 nx, .int .i64 c, .int .u8 0, .bool false] 43)) w.heap.size #[.int .i64 s, .int .i64 p, .int .i64 g, .int .i64 l, .int .i64 c, .int .i64 nx, .slice a2 (q + 1) c2] 26 := kT3.alloc
  have kR4 : Blk (W3.alloc (.cells #[.int .i64 nx, .int .i64 c, .int .u8 0, .bool false] 43)) (w.heap.size + 1) #[.int .i64 0, .int .i64 0, .int .i64 0, .int .i64 0, .int .i64 0, .int .i64 0, .slice none 0 0] 26 := kR3.alloc
  have nT := Lib.hid (hO3.ne kT3 (by decide)); have nR := Lib.hid (hO3.ne kR3 (by decide))
  have hsz := Lib.hid yS
  clear hO3 kR3 yS yW
  obtain ⟨aT, bT⟩ := kT3.read; have yT := kT3.lt
  go_upto_region 11 with (at_builtin; (refine wpList_append_w (by first | rfl | decide | (simp [Region.wanted, yielded]; done) | (go_simp; done)) _ _ _ _ rfl _ _ rfl rfl (HP.out _) ?_); ((rintro r w6 ⟨a3, c3, rfl, hO6, hg6, hb6⟩); have kT6 := kT4.but hg6 (fun e => nT.out e.symm); obtain ⟨a6, b6⟩ := kT6.read; have y6 := kT6.lt; clear kT6))
  obtain ⟨W5, hW5⟩ : ∃ W, w6.setCell ⟨w.heap.size, 6, none⟩ (.slice a3 ((q + 1) + 1) c3) = W := ⟨_, rfl⟩
  have kT6 := kT4.but hg6 (fun e => nT.out e.symm)
  have kR6 := kR4.but hg6 (fun e => nR.out e.symm)
  have hB6 : Below w.heap.size w w6 := hB3.trans (hb6.mono hsz.out)
  have kT5 : Blk W5 w.heap.size #[.int .i64 s, .int .i64 p, .int .i64 g, .int .i64 l, .int .i64 c, .int .i64 nx, .slice a3 ((q + 1) + 1) c3] 26 := by rw [← hW5]; exact Blk.set (i := 6) (v := .slice a3 ((q + 1) + 1) c3) kT6
  have kR5 : Blk W5 (w.heap.size + 1) #[.int .i64 0, .int .i64 0, .int .i64 0, .int .i64 0, .int .i64 0, .int .i64 0, .slice none 0 0] 26 := by rw [← hW5]; exact kR6.other (by simp)
  have hO5 : OwnK 43 4 sn1 W1.heap.size W5 (.slice a3 ((q + 1) + 1) c3) (xs ++ [(nx, c, 0, false)]) := by rw [← hW5]; exact hO6.other (hO6.ne kT6 (by decide))
  have hB5 : Below w.heap.size w W5 := by rw [← hW5]; exact hB6.setCell (Nat.le_refl _) _
  rw [hW5]
  clear hW5 kT6 kR6 hB6 hO6 hg6 hb6 kT4 kR4 hB3 kT3 aT bT yT HP nT nR
  obtain ⟨aT, bT⟩ := kT5.read; have yT := kT5.lt
  go_upto_region 12 with fail
  obtain ⟨W7, hW7⟩ : ∃ W, W5.setCell ⟨w.heap.size, 5, none⟩ (.int .i64 (nx + 1)) = W := ⟨_, rfl⟩
  have kT7 : Blk W7 w.heap.size #[.int .i64 s, .int .i64 p, .int .i64 g, .int .i64 l, .int .i64 c, .int .i64 (nx + 1), .slice a3 ((q + 1) + 1) c3] 26 := by rw [← hW7]; exact Blk.set (i := 5) (v := .int .i64 (nx + 1)) kT5
  have kR7 : Blk W7 (w.heap.size + 1) #[.int .i64 0, .int .i64 0, .int .i64 0, .int .i64 0, .int .i64 0, .int .i64 0, .slice none 0 0] 26 := by rw [← hW7]; exact kR5.other (by simp)
  have hO7 : OwnK 43 4 sn1 W1.heap.size W7 (.slice a3 ((q + 1) + 1) c3) (xs ++ [(nx, c, 0, false)]) := by rw [← hW7]; exact hO5.other (hO5.ne kT5 (by decide))
  have hB7 : Below w.heap.size w W7 := by rw [← hW7]; exact hB5.setCell (Nat.le_refl _) _
  rw [hW7]
  have hO8 := Lib.hid ((hO7.mono hsz.out).other7 (b := w.heap.size + 1) (.int .i64 s) (.int .i64 p) (.int .i64 g) (.int .i64 l) (.int .i64 c) (.int .i64 (nx + 1)) (.slice a3 ((q + 1) + 1) c3) (hO7.ne kR7 (by decide)))
  have kR8 := kR7.set7 (.int .i64 s) (.int .i64 p) (.int .i64 g) (.int .i64 l) (.int .i64 c) (.int .i64 (nx + 1)) (.slice a3 ((q + 1) + 1) c3)
  clear hW7 kT5 kR5 hB5 hO5 hO7 aT bT yT hsz
  obtain ⟨aT, bT⟩ := kT7.read; have yT := kT7.lt
  obtain ⟨aR, bR⟩ := kR7.read; have yR := kR7.lt
  go_region
  all_goals go_wp2_with fail
  all_goals have q2 := kR8.drew.cells
  all_goals exact bodyPost_ret (v := .tuple #[.agg #[.int .i64 s, .int .i64 p, .int .i64 g, .int .i64 l, .int .i64 c, .int .i64 (nx + 1), .slice a3 ((q + 1) + 1) c3], .int .i64 nx, .int .i64 0]) (by simp only [results, Try.results11]; go_simp) rfl ⟨⟨_, rfl, hO8.out.drew⟩, by (repeat' (first | (with_reducible exact Below.refl _ _) | (with_reducible assumption) | (with_reducible refine belowThru ?_ (by assumption)) | (with_reducible refine belowAlloc ?_) | (with_reducible refine Below.setCell ?_ (by first | omega | (simp; done) | (simp; omega)) _) | (with_reducible refine Below.drew ?_) | (with_reducible refine below_drewN ?_ _)))⟩
set_option maxRecDepth 100000 in
set_option maxHeartbeats 16000000 in
theorem rsense_yesz (s p g l c nx : Int) (a : Option Addr) (cap : Nat) (xs : List Sn)  (hv : 0 ≤ nx ∧ nx < 1099511627776) (w : World) (hR : RowK 4 sn1 w a 0 xs) (HC : Hid (∀ w, RowK 4 sn1 w a 0 xs → Calls Try.prog 15 #[.agg #[.int .i64 s, .int .i64 p, .int .i64 g, .int .i64 l, .int .i64 c, .int .i64 nx, .slice a 0 cap]] w fun e w' => e = .returned (.int .i64 0) ∧ Below w.heap.size w w')) (HT : Hid (∀ w, RowK 4 sn1 w a 0 xs → Calls Try.prog 7 #[.agg #[.int .i64 s, .int .i64 p, .int .i64 g, .int .i64 l, .int .i64 c, .int .i64 nx, .slice a 0 cap]] w fun e w' => (∃ v, e = .returned (.agg #[.int .i64 s, .int .i64 p, .int .i64 g, .int .i64 l, .int .i64 c, .int .i64 nx, v]) ∧ OwnK 43 4 sn1 w.heap.size w' v xs) ∧ Below w.heap.size w w')) :
    Calls Try.prog 11 #[.agg #[.int .i64 s, .int .i64 p, .int .i64 g, .int .i64 l, .int .i64 c, .int .i64 nx, .slice a 0 cap]] w fun e w' => (∃ v, e = .returned (.tuple #[.agg #[.int .i64 s, .int .i64 p, .int .i64 g, .int .i64 l, .int .i64 c, .int .i64 (nx + 1), v], .int .i64 nx, .int .i64 0]) ∧ OwnK 43 4 sn1 w.heap.size w' v (xs ++ [(nx, c, 0, false)])) ∧ Below w.heap.size w w' := by
  have v1 : IntKind.i64.wrap (nx + 1) = nx + 1 := IntWalk.i64_in _ (by omega)
  have v2 : IntKind.i64.wrap (nx + 1 - 1) = nx := by rw [show nx + 1 - 1 = nx by omega]; exact IntWalk.i64_in _ (by omega)
  have v3 : nx + 1 - 1 = nx := by omega
  have v7 : IntKind.i64.wrap nx = nx := IntWalk.i64_in _ (by omega)
  have v5 : (nx == 1099511627776) = false := by simp; omega
  clear hv
  have z1 : ((0 : Int) == 32) = false := by decide
  have z2 : (((0 : Nat) : Int) == 32) = false := by decide
  have HR := Lib.hid hR
  clear hR
  have p3 : decide ((0 : Int) < ((0 : Nat) : Int)) = false := by decide
  have p4 : decide ((0 : Int) < 0) = false := by decide
  have hlen := Lib.hid HR.out.1
  go_enter Try.func11, Try.ntmps11
  go_wp2_with fail
  refine (HC.out _ (HR.out.later (by (repeat' (first | (with_reducible exact Below.refl _ _) | (with_reducible assumption) | (with_reducible refine belowThru ?_ (by assumption)) | (with_reducible refine belowAlloc ?_) | (with_reducible refine Below.setCell ?_ (by first | omega | (simp; done) | (simp; omega)) _) | (with_reducible refine Below.drew ?_) | (with_reducible refine below_drewN ?_ _)))))).mono ?_
  rintro e w1 ⟨rfl, hb⟩
  have kT : Blk w1 w.heap.size #[.int .i64 s, .int .i64 p, .int .i64 g, .int .i64 l, .int .i64 c, .int .i64 nx, .slice a 0 cap] 26 := Blk.later hb (Blk.alloc (Blk.new rfl))
  have kR : Blk w1 (w.heap.size + 1) #[.int .i64 0, .int .i64 0, .int .i64 0, .int .i64 0, .int .i64 0, .int .i64 0, .slice none 0 0] 26 := Blk.later hb (Blk.new (by simp))
  have hB : Below w.heap.size w w1 := belowThru (belowAlloc (belowAlloc (Below.refl _ _))) hb
  clear hb
  obtain ⟨aT, bT⟩ := kT.read; obtain ⟨aR, bR⟩ := kR.read; have yT := kT.lt; have yR := kR.lt
  go_wp2_with fail
  go_quiet (fail)
  obtain ⟨W1, hW1⟩ : ∃ W, w1.drewN nq = W := ⟨_, rfl⟩
  have kT1 : Blk W1 w.heap.size #[.int .i64 s, .int .i64 p, .int .i64 g, .int .i64 l, .int .i64 c, .int .i64 nx, .slice a 0 cap] 26 := by rw [← hW1]; exact kT.drewN
  have kR1 : Blk W1 (w.heap.size + 1) #[.int .i64 0, .int .i64 0, .int .i64 0, .int .i64 0, .int .i64 0, .int .i64 0, .slice none 0 0] 26 := by rw [← hW1]; exact kR.drewN
  have hB1 : Below w.heap.size w W1 := by rw [← hW1]; exact below_drewN hB _
  rw [hW1]
  clear hW1 kT kR aT bT aR bR hB yT yR
  obtain ⟨aT, bT⟩ := kT1.read; obtain ⟨aR, bR⟩ := kR1.read; have yT := kT1.lt; have yR := kR1.lt
  go_wp2_with fail
  refine (HT.out _ (HR.out.later hB1)).mono ?_
  rintro e w2 ⟨⟨v2', rfl, hO⟩, hb⟩
  have yw := hb.size
  have yS := hB1.size
  clear aT bT aR bR
  have kT2 := Blk.later hb kT1; have kR2 := Blk.later hb kR1; have hB2 := belowThru hB1 hb
  clear kT1 kR1 yT yR hB1 hb
  obtain ⟨a2, c2, ev, -⟩ := hO.row elem_sn
  rw [hlen.out] at ev
  subst ev
  obtain ⟨aT, bT⟩ := kT2.read; obtain ⟨aR, bR⟩ := kR2.read; have yT := kT2.lt; have yR := kR2.lt
  go_upto_region 10 with fail
  obtain ⟨W3, hW3⟩ : ∃ W, ((((((w2.setCell ⟨w.heap.size, 0, none⟩ (.int .i64 s)).setCell ⟨w.heap.size, 1, none⟩ (.int .i64 p)).setCell ⟨w.heap.size, 2, none⟩ (.int .i64 g)).setCell ⟨w.heap.size, 3, none⟩ (.int .i64 l)).setCell ⟨w.heap.size, 4, none⟩ (.int .i64 c)).setCell ⟨w.heap.size, 5, none⟩ (.int .i64 nx)).setCell ⟨w.heap.size, 6, none⟩ (.slice a2 0 c2) = W := ⟨_, rfl⟩
  have kT3 : Blk W3 w.heap.size #[.int .i64 s, .int .i64 p, .int .i64 g, .int .i64 l, .int .i64 c, .int .i64 nx, .slice a2 0 c2] 26 := by rw [← hW3]; exact kT2.set7 (.int .i64 s) (.int .i64 p) (.int .i64 g) (.int .i64 l) (.int .i64 c) (.int .i64 nx) (.slice a2 0 c2)
  have kR3 : Blk W3 (w.heap.size + 1) #[.int .i64 0, .int .i64 0, .int .i64 0, .int .i64 0, .int .i64 0, .int .i64 0, .slice none 0 0] 26 := by rw [← hW3]; exact (((((((kR2.other (by simp)).other (by simp)).other (by simp)).other (by simp)).other (by simp)).other (by simp)).other (by simp))
  have hO3 : OwnK 43 4 sn1 W1.heap.size W3 (.slice a2 0 c2) xs := by rw [← hW3]; exact hO.other7 (.int .i64 s) (.int .i64 p) (.int .i64 g) (.int .i64 l) (.int .i64 c) (.int .i64 nx) (.slice a2 0 c2) (hO.ne kT2 (by decide))
  have hB3 : Below w.heap.size w W3 := by rw [← hW3]; exact ((((((hB2.setCell (Nat.le_refl _) _).setCell (Nat.le_refl _) _).setCell (Nat.le_refl _) _).setCell (Nat.le_refl _) _).setCell (Nat.le_refl _) _).setCell (Nat.le_refl _) _).setCell (Nat.le_refl _) _
  have yW : W1.heap.size ≤ W3.heap.size := by rw [← hW3]; simpa using yw
  rw [hW3]
  clear hW3 kT2 kR2 hB2 aT bT aR bR yT yR yw hO
  have HP : Hid (∀ ty, ∃ r w', (Builtin.append_ #[24, 24] ty #[.slice a2 0 c2, .slice (some ⟨W3.heap.size, 0, none⟩) 1 1]).run Try.prog (W3.alloc (.cells #[.int .i64 nx, .int .i64 c, .int .u8 0, .bool false] 43)) = .ok r w' ∧ (∃ a3 c3, r = .slice a3 (0 + 1) c3 ∧ OwnK 43 4 sn1 W1.heap.size w' r (xs ++ [(nx, c, 0, false)]) ∧ (W3.alloc (.cells #[.int .i64 nx, .int .i64 c, .int .u8 0, .bool false] 43)).grownBy w' (Value.slice a2 0 c2).ownBlock ∧ Below W1.heap.size W3 w')) := fun ty => by
    obtain ⟨v', w', h1, h2, h4, h3, -⟩ := run_append_1s ty nx c 0 false hO3 (by have := hlen.out; omega) yW
    obtain ⟨a3, c3, ev, -⟩ := h2.row elem_sn
    rw [List.length_append, hlen.out] at ev
    exact ⟨v', w', h1, a3, c3, ev, h2, h4, h3⟩
  have kT4 : Blk (W3.alloc (.cells #[.int .i64 nx, .int .i64 c, .int .u8 0, .bool false] 43)) w.heap.size #[.int .i64 s, .int .i64 p, .int .i64 g, .int .i64 l, .int .i64 c, .int .i64 nx, .slice a2 0 c2] 26 := kT3.alloc
  have kR4 : Blk (W3.alloc (.cells #[.int .i64 nx, .int .i64 c, .int .u8 0, .bool false] 43)) (w.heap.size + 1) #[.int .i64 0, .int .i64 0, .int .i64 0, .int .i64 0, .int .i64 0, .int .i64 0, .slice none 0 0] 26 := kR3.alloc
  have nT := Lib.hid (hO3.ne kT3 (by decide)); have nR := Lib.hid (hO3.ne kR3 (by decide))
  have hsz := Lib.hid yS
  clear hO3 kR3 yS yW
  obtain ⟨aT, bT⟩ := kT3.read; have yT := kT3.lt
  go_upto_region 11 with (at_builtin; (refine wpList_append_w (by first | rfl | decide | (simp [Region.wanted, yielded]; done) | (go_simp; done)) _ _ _ _ rfl _ _ rfl rfl (HP.out _) ?_); ((rintro r w6 ⟨a3, c3, rfl, hO6, hg6, hb6⟩); have kT6 := kT4.but hg6 (fun e => nT.out e.symm); obtain ⟨a6, b6⟩ := kT6.read; have y6 := kT6.lt; clear kT6))
  obtain ⟨W5, hW5⟩ : ∃ W, w6.setCell ⟨w.heap.size, 6, none⟩ (.slice a3 (0 + 1) c3) = W := ⟨_, rfl⟩
  have kT6 := kT4.but hg6 (fun e => nT.out e.symm)
  have kR6 := kR4.but hg6 (fun e => nR.out e.symm)
  have hB6 : Below w.heap.size w w6 := hB3.trans (hb6.mono hsz.out)
  have kT5 : Blk W5 w.heap.size #[.int .i64 s, .int .i64 p, .int .i64 g, .int .i64 l, .int .i64 c, .int .i64 nx, .slice a3 (0 + 1) c3] 26 := by rw [← hW5]; exact Blk.set (i := 6) (v := .slice a3 (0 + 1) c3) kT6
  have kR5 : Blk W5 (w.heap.size + 1) #[.int .i64 0, .int .i64 0, .int .i64 0, .int .i64 0, .int .i64 0, .int .i64 0, .slice none 0 0] 26 := by rw [← hW5]; exact kR6.other (by simp)
  have hO5 : OwnK 43 4 sn1 W1.heap.size W5 (.slice a3 (0 + 1) c3) (xs ++ [(nx, c, 0, false)]) := by rw [← hW5]; exact hO6.other (hO6.ne kT6 (by decide))
  have hB5 : Below w.heap.size w W5 := by rw [← hW5]; exact hB6.setCell (Nat.le_refl _) _
  rw [hW5]
  clear hW5 kT6 kR6 hB6 hO6 hg6 hb6 kT4 kR4 hB3 kT3 aT bT yT HP nT nR
  obtain ⟨aT, bT⟩ := kT5.read; have yT := kT5.lt
  go_upto_region 12 with fail
  obtain ⟨W7, hW7⟩ : ∃ W, W5.setCell ⟨w.heap.size, 5, none⟩ (.int .i64 (nx + 1)) = W := ⟨_, rfl⟩
  have kT7 : Blk W7 w.heap.size #[.int .i64 s, .int .i64 p, .int .i64 g, .int .i64 l, .int .i64 c, .int .i64 (nx + 1), .slice a3 (0 + 1) c3] 26 := by rw [← hW7]; exact Blk.set (i := 5) (v := .int .i64 (nx + 1)) kT5
  have kR7 : Blk W7 (w.heap.size + 1) #[.int .i64 0, .int .i64 0, .int .i64 0, .int .i64 0, .int .i64 0, .int .i64 0, .slice none 0 0] 26 := by rw [← hW7]; exact kR5.other (by simp)
  have hO7 : OwnK 43 4 sn1 W1.heap.size W7 (.slice a3 (0 + 1) c3) (xs ++ [(nx, c, 0, false)]) := by rw [← hW7]; exact hO5.other (hO5.ne kT5 (by decide))
  have hB7 : Below w.heap.size w W7 := by rw [← hW7]; exact hB5.setCell (Nat.le_refl _) _
  rw [hW7]
  have hO8 := Lib.hid ((hO7.mono hsz.out).other7 (b := w.heap.size + 1) (.int .i64 s) (.int .i64 p) (.int .i64 g) (.int .i64 l) (.int .i64 c) (.int .i64 (nx + 1)) (.slice a3 (0 + 1) c3) (hO7.ne kR7 (by decide)))
  have kR8 := kR7.set7 (.int .i64 s) (.int .i64 p) (.int .i64 g) (.int .i64 l) (.int .i64 c) (.int .i64 (nx + 1)) (.slice a3 (0 + 1) c3)
  clear hW7 kT5 kR5 hB5 hO5 hO7 aT bT yT hsz
  obtain ⟨aT, bT⟩ := kT7.read; have yT := kT7.lt
  obtain ⟨aR, bR⟩ := kR7.read; have yR := kR7.lt
  go_region
  all_goals go_wp2_with fail
  all_goals have q2 := kR8.drew.cells
  all_goals exact bodyPost_ret (v := .tuple #[.agg #[.int .i64 s, .int .i64 p, .int .i64 g, .int .i64 l, .int .i64 c, .int .i64 (nx + 1), .slice a3 (0 + 1) c3], .int .i64 nx, .int .i64 0]) (by simp only [results, Try.results11]; go_simp) rfl ⟨⟨_, rfl, hO8.out.drew⟩, by (repeat' (first | (with_reducible exact Below.refl _ _) | (with_reducible assumption) | (with_reducible refine belowThru ?_ (by assumption)) | (with_reducible refine belowAlloc ?_) | (with_reducible refine Below.setCell ?_ (by first | omega | (simp; done) | (simp; omega)) _) | (with_reducible refine Below.drew ?_) | (with_reducible refine below_drewN ?_ _)))⟩
end Go.Proofs.Ytnkpejinnbiocaa
