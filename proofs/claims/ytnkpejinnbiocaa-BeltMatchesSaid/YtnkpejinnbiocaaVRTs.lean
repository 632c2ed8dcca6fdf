/-
  Layer 9: copies, new tracks, a part at the sensor, by the document's own.
-/
import Derived.Test.YtnkpejinnbiocaaVRTr
import Derived.Test.YtnkpejinnbiocaaVKeA
namespace Go.Proofs.Ytnkpejinnbiocaa
open Go.RowKit Go.Shelf
set_option linter.unusedVariables false
set_option linter.unusedSimpArgs false

/-- A number, or zero with an error; a list, or none with an error. -/
def tk (E x : Int) : Int := if E = 0 then x else 0
def tl {α : Type} (E : Int) (xs : List α) : List α := if E = 0 then xs else []
theorem tk_ok (x : Int) : tk 0 x = x := rfl
theorem tl_ok {α : Type} (xs : List α) : tl 0 xs = xs := rfl
theorem tk_no {E : Int} (h : (E != 0) = true) (x : Int) : tk E x = 0 := if_neg (by simpa using h)
theorem tl_no {α : Type} {E : Int} (h : (E != 0) = true) (xs : List α) : tl E xs = [] := if_neg (by simpa using h)
theorem wpList_append_w {P : Program} {ops : Array Oper} {rest : List Oper} {o : Oper} {act : Act} {Q : Exit → Act → World → Prop} {w : World} (hw : Region.wanted o (yielded ops act.tmps) = true) (s x : Operand) (t : TypeId) (R : Value → World → Prop)
    (ho : o.op = .call { callee := .builtin .append, args := #[s, x], argTypes := #[t, t] }) (v u : Value) (hs : act.eval s = v) (hx : act.eval x = u)
    (hr : ∃ r w', (Builtin.append_ #[t, t] o.type #[v, u]).run P w = .ok r w' ∧ R r w')
    (h : ∀ r w', R r w' → wpList P ops Q rest (act.put o.dst r) w') : wpList P ops Q (o :: rest) act w :=
  BigFrame.wpList_want hw fun _ hK => wp_append_row s x t R ho v u hs hx hr fun r w' hR => hK _ _ (h r w' hR)
theorem run_append_1s (ty : TypeId) {B : Nat} {w : World} {u : Value} {ys : List Sn} (x1 x2 x3 : Int) (x4 : Bool) (hO : OwnK 43 4 sn1 B w u ys) (hl : ys.length ≤ 1000000) (hB : B ≤ w.heap.size) :
    ∃ r w', (Builtin.append_ #[24, 24] ty #[u, .slice (some ⟨w.heap.size, 0, none⟩) 1 1]).run Try.prog (w.alloc (.cells #[.int .i64 x1, .int .i64 x2, .int .u8 x3, .bool x4] 43)) = .ok r w' ∧ (OwnK 43 4 sn1 B w' r (ys ++ [(x1, x2, x3, x4)]) ∧ (w.alloc (.cells #[.int .i64 x1, .int .i64 x2, .int .u8 x3, .bool x4] 43)).grownBy w' u.ownBlock ∧ Below B w w' ∧ (r.ownBlock = u.ownBlock ∨ r.ownBlock = some (w.heap.size + 1))) := run_append_1 elem_sn ty (x1, x2, x3, x4) hO hl hB
set_option maxRecDepth 100000 in
set_option maxHeartbeats 16000000 in
theorem rtwin_any (s p g l c nx : Int) (a : Option Addr) (n cap : Nat) (xs : List Sn) (hn : n ≤ 1000000) (w : World) (hR : RowK 4 sn1 w a n xs) :
    Calls Try.prog 7 #[.agg #[.int .i64 s, .int .i64 p, .int .i64 g, .int .i64 l, .int .i64 c, .int .i64 nx, .slice a n cap]] w fun e w' => (∃ v, e = .returned (.agg #[.int .i64 s, .int .i64 p, .int .i64 g, .int .i64 l, .int .i64 c, .int .i64 nx, v]) ∧ OwnK 43 4 sn1 w.heap.size w' v xs) ∧ Below w.heap.size w w' := by
  have HR := Lib.hid hR
  have HN := Lib.hid hn
  clear hR hn
  go_enter Try.func7, Try.ntmps7
  go_upto_region 1 with fail
  obtain ⟨W0, hW0⟩ : ∃ W, (w.alloc (.cells #[.int .i64 s, .int .i64 p, .int .i64 g, .int .i64 l, .int .i64 c, .int .i64 nx, .slice a n cap] 26)).alloc (.cells #[.int .i64 0, .int .i64 0, .int .i64 0, .int .i64 0, .int .i64 0, .int .i64 0, .slice none 0 0] 26) = W := ⟨_, rfl⟩
  have kT : Blk W0 w.heap.size #[.int .i64 s, .int .i64 p, .int .i64 g, .int .i64 l, .int .i64 c, .int .i64 nx, .slice a n cap] 26 := by rw [← hW0]; exact Blk.alloc (Blk.new rfl)
  have kR : Blk W0 (w.heap.size + 1) #[.int .i64 0, .int .i64 0, .int .i64 0, .int .i64 0, .int .i64 0, .int .i64 0, .slice none 0 0] 26 := by rw [← hW0]; exact Blk.new (by simp)
  have hB : Below w.heap.size w W0 := by rw [← hW0]; exact belowAlloc (belowAlloc (Below.refl _ _))
  rw [hW0]
  clear hW0
  have HP : Hid (∀ ty, ∃ r w', (Builtin.append_ #[24, 24] ty #[.slice (some ⟨W0.heap.size, 0, none⟩) 0 0, .slice a n cap]).run Try.prog (W0.alloc (.cells #[] 43)) = .ok r w' ∧ (∃ a2 c2, r = .slice a2 n c2 ∧ OwnK 43 4 sn1 W0.heap.size w' r xs ∧ Below W0.heap.size W0 w')) := fun ty => by
    obtain ⟨v', w', h1, h2, -, h3, -⟩ := run_append_k (P := Try.prog) elem_sn ty (OwnK.none0 (B := W0.heap.size) elem_sn (w := W0.alloc (.cells #[] 43)) (Blk.new rfl) (Nat.le_refl _)) (HR.out.later (belowAlloc hB)) (by have := HN.out; simp; omega) (by simp)
    rw [List.nil_append] at h2
    obtain ⟨a2, c2, ev, -⟩ := h2.row elem_sn
    rw [HR.out.1] at ev
    exact ⟨v', w', h1, a2, c2, ev, h2, Below.trans (belowAlloc (Below.refl _ _)) h3⟩
  obtain ⟨aT, bT⟩ := kT.read; have yT := kT.lt
  go_upto_region 2 with (at_builtin; (refine wpList_append_w (by first | rfl | decide | (simp [Region.wanted, yielded]; done) | (go_simp; done)) _ _ _ _ rfl _ _ rfl rfl (HP.out _) ?_); ((rintro r w6 ⟨a2, c2, rfl, hO6, hb6⟩); have kT6 := Blk.later hb6 kT; obtain ⟨a6, b6⟩ := kT6.read; have y6 := kT6.lt; clear kT6))
  clear aT bT
  obtain ⟨W2, hW2⟩ : ∃ W, w6.setCell ⟨w.heap.size, 6, none⟩ (.slice a2 n c2) = W := ⟨_, rfl⟩
  have kT2 : Blk W2 w.heap.size #[.int .i64 s, .int .i64 p, .int .i64 g, .int .i64 l, .int .i64 c, .int .i64 nx, .slice a2 n c2] 26 := by rw [← hW2]; exact Blk.set (i := 6) (v := .slice a2 n c2) (Blk.later hb6 kT)
  have kR2 : Blk W2 (w.heap.size + 1) #[.int .i64 0, .int .i64 0, .int .i64 0, .int .i64 0, .int .i64 0, .int .i64 0, .slice none 0 0] 26 := by rw [← hW2]; exact Blk.other (Blk.later hb6 kR) (by simp)
  have hO2 : OwnK 43 4 sn1 W0.heap.size W2 (.slice a2 n c2) xs := by rw [← hW2]; exact hO6.other (hO6.ne (Blk.later hb6 kT) (by decide))
  have hB2 : Below w.heap.size w W2 := by rw [← hW2]; exact (belowThru hB hb6).setCell (Nat.le_refl _) _
  rw [hW2]
  have hnR := hO2.ne kR2 (by decide)
  have hO4 := Lib.hid ((hO2.mono hB.size).other7 (b := w.heap.size + 1) (.int .i64 s) (.int .i64 p) (.int .i64 g) (.int .i64 l) (.int .i64 c) (.int .i64 nx) (.slice a2 n c2) hnR)
  have kR4 := kR2.set7 (.int .i64 s) (.int .i64 p) (.int .i64 g) (.int .i64 l) (.int .i64 c) (.int .i64 nx) (.slice a2 n c2)
  clear hW2 hO6 hb6 kT kR hB hO2 hnR HP yT
  obtain ⟨aT, bT⟩ := kT2.read; have yT := kT2.lt
  obtain ⟨aR, bR⟩ := kR2.read; have yR := kR2.lt
  go_wp2_with fail
  have q2 := kR4.cells
  exact bodyPost_ret (v := .agg #[.int .i64 s, .int .i64 p, .int .i64 g, .int .i64 l, .int .i64 c, .int .i64 nx, .slice a2 n c2]) (by simp only [results, Try.results7]; go_simp) rfl ⟨⟨_, rfl, hO4.out⟩, by (repeat' (first | (with_reducible exact Below.refl _ _) | (with_reducible assumption) | (with_reducible refine belowThru ?_ (by assumption)) | (with_reducible refine belowAlloc ?_) | (with_reducible refine Below.setCell ?_ (by first | omega | (simp; done) | (simp; omega)) _) | (with_reducible refine Below.drew ?_) | (with_reducible refine below_drewN ?_ _)))⟩
theorem new_u (s p g l : Int) (w : World) :
    Calls Try.prog 8 #[.agg #[.int .i64 s, .int .i64 p, .int .i64 g, .int .i64 l]] w fun e w' => e = .returned (.tuple #[.agg #[.int .i64 (tk (ckB s p g l) s), .int .i64 (tk (ckB s p g l) p), .int .i64 (tk (ckB s p g l) g), .int .i64 (tk (ckB s p g l) l), .int .i64 0, .int .i64 0, .slice none 0 0], .int .i64 (ckB s p g l)]) ∧ Below w.heap.size w w' := by
  by_cases h : okB s p g l
  · rw [show ckB s p g l = 0 from if_pos h]
    simp only [tk_ok]
    exact new_yes s p g l w (HCk s p g l 0 (if_pos h))
  · rw [show ckB s p g l = 90 from if_neg h]
    simp only [tk_no (show ((90 : Int) != 0) = true from rfl)]
    exact new_bad s p g l 90 rfl w (HCk s p g l 90 (if_neg h))
set_option maxRecDepth 100000 in
set_option maxHeartbeats 16000000 in
theorem rnew_u (s p g l : Int) (w : World) :
    Calls Try.prog 9 #[.agg #[.int .i64 s, .int .i64 p, .int .i64 g, .int .i64 l]] w fun e w' => e = .returned (.tuple #[.agg #[.int .i64 (tk (ckB s p g l) s), .int .i64 (tk (ckB s p g l) p), .int .i64 (tk (ckB s p g l) g), .int .i64 (tk (ckB s p g l) l), .int .i64 0, .int .i64 0, .slice none 0 0], .int .i64 (ckB s p g l)]) ∧ Below w.heap.size w w' := by
  by_cases h : okB s p g l
  · have HV := HRv s p g l true (decide_eq_true h)
    rw [show ckB s p g l = 0 from if_pos h]
    simp only [tk_ok]
    clear h
    go_enter Try.func9, Try.ntmps9
    go_wp2_with fail
    refine (HV.out _).mono ?_
    rintro e w1 ⟨rfl, hb⟩
    have kB : Blk w1 w.heap.size #[.int .i64 s, .int .i64 p, .int .i64 g, .int .i64 l] 23 := Blk.later hb (Blk.alloc (Blk.new rfl))
    have kR : Blk w1 (w.heap.size + 1) #[.int .i64 0, .int .i64 0, .int .i64 0, .int .i64 0, .int .i64 0, .int .i64 0, .slice none 0 0] 26 := Blk.later hb (Blk.new (by simp))
    have hB : Below w.heap.size w w1 := belowThru (belowAlloc (belowAlloc (Below.refl _ _))) hb
    clear hb
    obtain ⟨aB, bB⟩ := kB.read; obtain ⟨aR, bR⟩ := kR.read; have yB := kB.lt; have yR := kR.lt
    go_wp2_with fail
    have q2 := (kR.set7 (.int .i64 s) (.int .i64 p) (.int .i64 g) (.int .i64 l) (.int .i64 0) (.int .i64 0) (.slice none 0 0)).cells
    exact bodyPost_ret (v := .tuple #[.agg #[.int .i64 s, .int .i64 p, .int .i64 g, .int .i64 l, .int .i64 0, .int .i64 0, .slice none 0 0], .int .i64 0]) (by simp only [results, Try.results9]; go_simp) rfl ⟨rfl, by (repeat' (first | (with_reducible exact Below.refl _ _) | (with_reducible assumption) | (with_reducible refine belowThru ?_ (by assumption)) | (with_reducible refine belowAlloc ?_) | (with_reducible refine Below.setCell ?_ (by first | omega | (simp; done) | (simp; omega)) _) | (with_reducible refine Below.drew ?_) | (with_reducible refine below_drewN ?_ _)))⟩
  · have HV := HRv s p g l false (decide_eq_false h)
    rw [show ckB s p g l = 90 from if_neg h]
    rw [tk_no rfl, tk_no rfl, tk_no rfl, tk_no rfl]
    clear h
    go_enter Try.func9, Try.ntmps9
    go_wp2_with fail
    refine (HV.out _).mono ?_
    rintro e w1 ⟨rfl, hb⟩
    have kR : Blk w1 (w.heap.size + 1) #[.int .i64 0, .int .i64 0, .int .i64 0, .int .i64 0, .int .i64 0, .int .i64 0, .slice none 0 0] 26 := Blk.later hb (Blk.new (by simp))
    have hB : Below w.heap.size w w1 := belowThru (belowAlloc (belowAlloc (Below.refl _ _))) hb
    clear hb
    obtain ⟨aR, bR⟩ := kR.read; have yR := kR.lt
    go_wp2_with fail
    have q2 := (kR.set7 (.int .i64 0) (.int .i64 0) (.int .i64 0) (.int .i64 0) (.int .i64 0) (.int .i64 0) (.slice none 0 0)).cells
    exact bodyPost_ret (v := .tuple #[.agg #[.int .i64 0, .int .i64 0, .int .i64 0, .int .i64 0, .int .i64 0, .int .i64 0, .slice none 0 0], .int .i64 90]) (by simp only [results, Try.results9]; go_simp) rfl ⟨rfl, by (repeat' (first | (with_reducible exact Below.refl _ _) | (with_reducible assumption) | (with_reducible refine belowThru ?_ (by assumption)) | (with_reducible refine belowAlloc ?_) | (with_reducible refine Below.setCell ?_ (by first | omega | (simp; done) | (simp; omega)) _) | (with_reducible refine Below.drew ?_) | (with_reducible refine below_drewN ?_ _)))⟩
theorem sense_u (s p g l c nx : Int) (a : Option Addr) (n cap : Nat) (xs : List Sn) (hcap : n ≤ cap) (hn : n ≤ maxLen) (w : World) (hR : RowK 4 sn1 w a n xs) :
    Calls Try.prog 10 #[.agg #[.int .i64 s, .int .i64 p, .int .i64 g, .int .i64 l, .int .i64 c, .int .i64 nx, .slice a n cap]] w fun e w' => (∃ v, e = .returned (.tuple #[.agg #[.int .i64 (tk (senE s p g l c nx xs) s), .int .i64 (tk (senE s p g l c nx xs) p), .int .i64 (tk (senE s p g l c nx xs) g), .int .i64 (tk (senE s p g l c nx xs) l), .int .i64 (tk (senE s p g l c nx xs) c), .int .i64 (tk (senE s p g l c nx xs) (nx + 1)), v], .int .i64 (tk (senE s p g l c nx xs) nx), .int .i64 (senE s p g l c nx xs)]) ∧ OwnK 43 4 sn1 w.heap.size w' v (tl (senE s p g l c nx xs) (xs ++ [(nx, c, 0, false)]))) ∧ Below w.heap.size w w' := by
  refine (sense_any s p g l c nx a n cap xs hcap hn w hR).mono fun e w' ⟨h, hb⟩ => ⟨?_, hb⟩
  rcases h with ⟨E, hE, hz, rfl⟩ | ⟨hE, -, -, v, rfl, hO⟩
  · rw [hE]
    simp only [tk_no hz, tl_no hz]
    exact ⟨_, rfl, OwnK.nil _ _⟩
  · rw [hE]
    exact ⟨v, rfl, hO⟩
set_option maxRecDepth 100000 in
set_option maxHeartbeats 16000000 in
theorem rsense_bad (s p g l c nx : Int) (a : Option Addr) (n cap : Nat) (xs : List Sn) (E : Int) (hE : (E != 0) = true) (w : World) (hR : RowK 4 sn1 w a n xs) (HC : Hid (∀ w, RowK 4 sn1 w a n xs → Calls Try.prog 15 #[.agg #[.int .i64 s, .int .i64 p, .int .i64 g, .int .i64 l, .int .i64 c, .int .i64 nx, .slice a n cap]] w fun e w' => e = .returned (.int .i64 E) ∧ Below w.heap.size w w')) :
    Calls Try.prog 11 #[.agg #[.int .i64 s, .int .i64 p, .int .i64 g, .int .i64 l, .int .i64 c, .int .i64 nx, .slice a n cap]] w fun e w' => (∃ v, e = .returned (.tuple #[.agg #[.int .i64 0, .int .i64 0, .int .i64 0, .int .i64 0, .int .i64 0, .int .i64 0, v], .int .i64 0, .int .i64 E]) ∧ OwnK 43 4 sn1 w.heap.size w' v []) ∧ Below w.heap.size w w' := by
  have HR := Lib.hid hR
  clear hR
  go_enter Try.func11, Try.ntmps11
  go_wp2_with fail
  refine (HC.out _ (HR.out.later (by (repeat' (first | (with_reducible exact Below.refl _ _) | (with_reducible assumption) | (with_reducible refine belowThru ?_ (by assumption)) | (with_reducible refine belowAlloc ?_) | (with_reducible refine Below.setCell ?_ (by first | omega | (simp; done) | (simp; omega)) _) | (with_reducible refine Below.drew ?_) | (with_reducible refine below_drewN ?_ _)))))).mono ?_
  rintro e w1 ⟨rfl, hb⟩
  have kT : Blk w1 w.heap.size #[.int .i64 s, .int .i64 p, .int .i64 g, .int .i64 l, .int .i64 c, .int .i64 nx, .slice a n cap] 26 := Blk.later hb (Blk.alloc (Blk.new rfl))
  have kR : Blk w1 (w.heap.size + 1) #[.int .i64 0, .int .i64 0, .int .i64 0, .int .i64 0, .int .i64 0, .int .i64 0, .slice none 0 0] 26 := Blk.later hb (Blk.new (by simp))
  have hB : Below w.heap.size w w1 := belowThru (belowAlloc (belowAlloc (Below.refl _ _))) hb
  clear hb
  obtain ⟨aT, bT⟩ := kT.read; obtain ⟨aR, bR⟩ := kR.read; have yT := kT.lt; have yR := kR.lt
  go_wp2_with fail
  have q2 := (kR.set7 (.int .i64 0) (.int .i64 0) (.int .i64 0) (.int .i64 0) (.int .i64 0) (.int .i64 0) (.slice none 0 0)).cells
  exact bodyPost_ret (v := .tuple #[.agg #[.int .i64 0, .int .i64 0, .int .i64 0, .int .i64 0, .int .i64 0, .int .i64 0, .slice none 0 0], .int .i64 0, .int .i64 E]) (by simp only [results, Try.results11]; go_simp) rfl ⟨⟨_, rfl, OwnK.nil _ _⟩, by (repeat' (first | (with_reducible exact Below.refl _ _) | (with_reducible assumption) | (with_reducible refine belowThru ?_ (by assumption)) | (with_reducible refine belowAlloc ?_) | (with_reducible refine Below.setCell ?_ (by first | omega | (simp; done) | (simp; omega)) _) | (with_reducible refine Below.drew ?_) | (with_reducible refine below_drewN ?_ _)))⟩
set_option maxRecDepth 100000 in
set_option maxHeartbeats 16000000 in
theorem rsense_order (s p g l c nx : Int) (a : Option Addr) (cap : Nat) (q : Nat) (xs : List Sn) (hq : q < 32) (hl : ∀ x, xs[q]? = some x → (x.2.1 == c) = true) (w : World) (hR : RowK 4 sn1 w a (q + 1) xs) (HC : Hid (∀ w, RowK 4 sn1 w a (q + 1) xs → Calls Try.prog 15 #[.agg #[.int .i64 s, .int .i64 p, .int .i64 g, .int .i64 l, .int .i64 c, .int .i64 nx, .slice a (q + 1) cap]] w fun e w' => e = .returned (.int .i64 0) ∧ Below w.heap.size w w')) :
    Calls Try.prog 11 #[.agg #[.int .i64 s, .int .i64 p, .int .i64 g, .int .i64 l, .int .i64 c, .int .i64 nx, .slice a (q + 1) cap]] w fun e w' => (∃ v, e = .returned (.tuple #[.agg #[.int .i64 0, .int .i64 0, .int .i64 0, .int .i64 0, .int .i64 0, .int .i64 0, v], .int .i64 0, .int .i64 91]) ∧ OwnK 43 4 sn1 w.heap.size w' v []) ∧ Below w.heap.size w w' := by
  have HR := Lib.hid hR
  obtain ⟨bb, oo, q1, q2, q3, q4, rfl, hbb, hxk, d0, d1, d2, d3⟩ := hR.seen (show q < q + 1 by omega)
  have hd0 := hl _ hxk
  clear hR hxk d0 d2 d3 hbb hl
  have vq : IntKind.i64.wrap (((q + 1 : Nat) : Int) - 1) = (q : Int) := (IntWalk.i64_in _ (by omega)).trans (by omega)
  have vq2 : IntKind.i64.wrap ((q : Int) + 1 - 1) = (q : Int) := (IntWalk.i64_in _ (by omega)).trans (by omega)
  have vq3 : ((q : Int) + 1 - 1) = (q : Int) := by omega
  have p0 : (0 : Int) ≤ (q : Int) := by omega
  have p1 : (q : Int) < ((q + 1 : Nat) : Int) := by omega
  have p2 : (q : Int) < (q : Int) + 1 := by omega
  have p3 : decide ((0 : Int) < (q : Int) + 1) = true := decide_eq_true (by omega)
  have p4 : decide ((0 : Int) < ((q + 1 : Nat) : Int)) = true := decide_eq_true (by omega)
  go_enter Try.func11, Try.ntmps11
  go_wp2_with fail
  refine (HC.out _ (HR.out.later (by (repeat' (first | (with_reducible exact Below.refl _ _) | (with_reducible assumption) | (with_reducible refine belowThru ?_ (by assumption)) | (with_reducible refine belowAlloc ?_) | (with_reducible refine Below.setCell ?_ (by first | omega | (simp; done) | (simp; omega)) _) | (with_reducible refine Below.drew ?_) | (with_reducible refine below_drewN ?_ _)))))).mono ?_
  rintro e w1 ⟨rfl, hb⟩
  have kT : Blk w1 w.heap.size #[.int .i64 s, .int .i64 p, .int .i64 g, .int .i64 l, .int .i64 c, .int .i64 nx, .slice (some ⟨bb, oo, none⟩) (q + 1) cap] 26 := Blk.later hb (Blk.alloc (Blk.new rfl))
  have kR : Blk w1 (w.heap.size + 1) #[.int .i64 0, .int .i64 0, .int .i64 0, .int .i64 0, .int .i64 0, .int .i64 0, .slice none 0 0] 26 := Blk.later hb (Blk.new (by simp))
  have hB : Below w.heap.size w w1 := belowThru (belowAlloc (belowAlloc (Below.refl _ _))) hb
  clear hb
  have d1 := cell_later hB d1
  obtain ⟨aT, bT⟩ := kT.read; obtain ⟨aR, bR⟩ := kR.read; have yT := kT.lt; have yR := kR.lt
  go_wp2_with fail
  go_quiet (fail)
  obtain ⟨W1, hW1⟩ : ∃ W, w1.drewN nq = W := ⟨_, rfl⟩
  have kT1 : Blk W1 w.heap.size #[.int .i64 s, .int .i64 p, .int .i64 g, .int .i64 l, .int .i64 c, .int .i64 nx, .slice (some ⟨bb, oo, none⟩) (q + 1) cap] 26 := by rw [← hW1]; exact kT.drewN
  have kR1 : Blk W1 (w.heap.size + 1) #[.int .i64 0, .int .i64 0, .int .i64 0, .int .i64 0, .int .i64 0, .int .i64 0, .slice none 0 0] 26 := by rw [← hW1]; exact kR.drewN
  have hB1 : Below w.heap.size w W1 := by rw [← hW1]; exact below_drewN hB _
  rw [hW1]
  clear hW1 kT kR aT bT aR bR hB yT yR
  obtain ⟨aT, bT⟩ := kT1.read; obtain ⟨aR, bR⟩ := kR1.read; have yT := kT1.lt; have yR := kR1.lt
  go_wp2_with fail
  have q2 := (kR1.set7 (.int .i64 0) (.int .i64 0) (.int .i64 0) (.int .i64 0) (.int .i64 0) (.int .i64 0) (.slice none 0 0)).cells
  exact bodyPost_ret (v := .tuple #[.agg #[.int .i64 0, .int .i64 0, .int .i64 0, .int .i64 0, .int .i64 0, .int .i64 0, .slice none 0 0], .int .i64 0, .int .i64 91]) (by simp only [results, Try.results11]; go_simp) rfl ⟨⟨_, rfl, OwnK.nil _ _⟩, by (repeat' (first | (with_reducible exact Below.refl _ _) | (with_reducible assumption) | (with_reducible refine belowThru ?_ (by assumption)) | (with_reducible refine belowAlloc ?_) | (with_reducible refine Below.setCell ?_ (by first | omega | (simp; done) | (simp; omega)) _) | (with_reducible refine Below.drew ?_) | (with_reducible refine below_drewN ?_ _)))⟩
set_option maxRecDepth 100000 in
set_option maxHeartbeats 16000000 in
theorem rsense_fulla1 (s p g l c nx : Int) (a : Option Addr) (cap : Nat) (q : Nat) (xs : List Sn) (hq : q < 32) (hl : ∀ x, xs[q]? = some x → (x.2.1 == c) = false) (hf : q = 31) (w : World) (hR : RowK 4 sn1 w a (q + 1) xs) (HC : Hid (∀ w, RowK 4 sn1 w a (q + 1) xs → Calls Try.prog 15 #[.agg #[.int .i64 s, .int .i64 p, .int .i64 g, .int .i64 l, .int .i64 c, .int .i64 nx, .slice a (q + 1) cap]] w fun e w' => e = .returned (.int .i64 0) ∧ Below w.heap.size w w')) :
    Calls Try.prog 11 #[.agg #[.int .i64 s, .int .i64 p, .int .i64 g, .int .i64 l, .int .i64 c, .int .i64 nx, .slice a (q + 1) cap]] w fun e w' => (∃ v, e = .returned (.tuple #[.agg #[.int .i64 0, .int .i64 0, .int .i64 0, .int .i64 0, .int .i64 0, .int .i64 0, v], .int .i64 0, .int .i64 9]) ∧ OwnK 43 4 sn1 w.heap.size w' v []) ∧ Below w.heap.size w w' := by
  subst hf
  have HR := Lib.hid hR
  obtain ⟨bb, oo, q1, q2, q3, q4, rfl, hbb, hxk, d0, d1, d2, d3⟩ := hR.seen (show 31 < 31 + 1 by omega)
  have hd0 := hl _ hxk
  clear hR hxk d0 d2 d3 hbb hl
  have z1 : (((31 : Nat) : Int) + 1 == 32) = true := by decide
  have z2 : (((31 + 1 : Nat) : Int) == 32) = true := by decide
  have vq : IntKind.i64.wrap (((31 + 1 : Nat) : Int) - 1) = ((31 : Nat) : Int) := (IntWalk.i64_in _ (by omega)).trans (by omega)
  have vq2 : IntKind.i64.wrap (((31 : Nat) : Int) + 1 - 1) = ((31 : Nat) : Int) := (IntWalk.i64_in _ (by omega)).trans (by omega)
  have vq3 : (((31 : Nat) : Int) + 1 - 1) = ((31 : Nat) : Int) := by omega
  have p0 : (0 : Int) ≤ ((31 : Nat) : Int) := by omega
  have p1 : ((31 : Nat) : Int) < ((31 + 1 : Nat) : Int) := by omega
  have p2 : ((31 : Nat) : Int) < ((31 : Nat) : Int) + 1 := by omega
  have p3 : decide ((0 : Int) < ((31 : Nat) : Int) + 1) = true := decide_eq_true (by omega)
  have p4 : decide ((0 : Int) < ((31 + 1 : Nat) : Int)) = true := decide_eq_true (by omega)
  go_enter Try.func11, Try.ntmps11
  go_wp2_with fail
  refine (HC.out _ (HR.out.later (by (repeat' (first | (with_reducible exact Below.refl _ _) | (with_reducible assumption) | (with_reducible refine belowThru ?_ (by assumption)) | (with_reducible refine belowAlloc ?_) | (with_reducible refine Below.setCell ?_ (by first | omega | (simp; done) | (simp; omega)) _) | (with_reducible refine Below.drew ?_) | (with_reducible refine below_drewN ?_ _)))))).mono ?_
  rintro e w1 ⟨rfl, hb⟩
  have kT : Blk w1 w.heap.size #[.int .i64 s, .int .i64 p, .int .i64 g, .int .i64 l, .int .i64 c, .int .i64 nx, .slice (some ⟨bb, oo, none⟩) (31 + 1) cap] 26 := Blk.later hb (Blk.alloc (Blk.new rfl))
  have kR : Blk w1 (w.heap.size + 1) #[.int .i64 0, .int .i64 0, .int .i64 0, .int .i64 0, .int .i64 0, .int .i64 0, .slice none 0 0] 26 := Blk.later hb (Blk.new (by simp))
  have hB : Below w.heap.size w w1 := belowThru (belowAlloc (belowAlloc (Below.refl _ _))) hb
  clear hb
  have d1 := cell_later hB d1
  obtain ⟨aT, bT⟩ := kT.read; obtain ⟨aR, bR⟩ := kR.read; have yT := kT.lt; have yR := kR.lt
  go_wp2_with fail
  go_quiet (fail)
  obtain ⟨W1, hW1⟩ : ∃ W, w1.drewN nq = W := ⟨_, rfl⟩
  have kT1 : Blk W1 w.heap.size #[.int .i64 s, .int .i64 p, .int .i64 g, .int .i64 l, .int .i64 c, .int .i64 nx, .slice (some ⟨bb, oo, none⟩) (31 + 1) cap] 26 := by rw [← hW1]; exact kT.drewN
  have kR1 : Blk W1 (w.heap.size + 1) #[.int .i64 0, .int .i64 0, .int .i64 0, .int .i64 0, .int .i64 0, .int .i64 0, .slice none 0 0] 26 := by rw [← hW1]; exact kR.drewN
  have hB1 : Below w.heap.size w W1 := by rw [← hW1]; exact below_drewN hB _
  rw [hW1]
  clear hW1 kT kR aT bT aR bR hB yT yR
  obtain ⟨aT, bT⟩ := kT1.read; obtain ⟨aR, bR⟩ := kR1.read; have yT := kT1.lt; have yR := kR1.lt
  go_wp2_with fail
  have q2 := (kR1.set7 (.int .i64 0) (.int .i64 0) (.int .i64 0) (.int .i64 0) (.int .i64 0) (.int .i64 0) (.slice none 0 0)).cells
  exact bodyPost_ret (v := .tuple #[.agg #[.int .i64 0, .int .i64 0, .int .i64 0, .int .i64 0, .int .i64 0, .int .i64 0, .slice none 0 0], .int .i64 0, .int .i64 9]) (by simp only [results, Try.results11]; go_simp) rfl ⟨⟨_, rfl, OwnK.nil _ _⟩, by (repeat' (first | (with_reducible exact Below.refl _ _) | (with_reducible assumption) | (with_reducible refine belowThru ?_ (by assumption)) | (with_reducible refine belowAlloc ?_) | (with_reducible refine Below.setCell ?_ (by first | omega | (simp; done) | (simp; omega)) _) | (with_reducible refine Below.drew ?_) | (with_reducible refine below_drewN ?_ _)))⟩
set_option maxRecDepth 100000 in
set_option maxHeartbeats 16000000 in
theorem rsense_fulla2 (s p g l c nx : Int) (a : Option Addr) (cap : Nat) (q : Nat) (xs : List Sn) (hq : q < 32) (hl : ∀ x, xs[q]? = some x → (x.2.1 == c) = false) (hf0 : q ≠ 31) (hf : (nx == 1099511627776) = true) (w : World) (hR : RowK 4 sn1 w a (q + 1) xs) (HC : Hid (∀ w, RowK 4 sn1 w a (q + 1) xs → Calls Try.prog 15 #[.agg #[.int .i64 s, .int .i64 p, .int .i64 g, .int .i64 l, .int .i64 c, .int .i64 nx, .slice a (q + 1) cap]] w fun e w' => e = .returned (.int .i64 0) ∧ Below w.heap.size w w')) :
    Calls Try.prog 11 #[.agg #[.int .i64 s, .int .i64 p, .int .i64 g, .int .i64 l, .int .i64 c, .int .i64 nx, .slice a (q + 1) cap]] w fun e w' => (∃ v, e = .returned (.tuple #[.agg #[.int .i64 0, .int .i64 0, .int .i64 0, .int .i64 0, .int .i64 0, .int .i64 0, v], .int .i64 0, .int .i64 9]) ∧ OwnK 43 4 sn1 w.heap.size w' v []) ∧ Below w.heap.size w w' := by
  have z1 : ((q : Int) + 1 == 32) = false := by simp; omega
  have z2 : (((q + 1 : Nat) : Int) == 32) = false := by simp; omega
  have HR := Lib.hid hR
  obtain ⟨bb, oo, q1, q2, q3, q4, rfl, hbb, hxk, d0, d1, d2, d3⟩ := hR.seen (show q < q + 1 by omega)
  have hd0 := hl _ hxk
  clear hR hxk d0 d2 d3 hbb hl
  have vq : IntKind.i64.wrap (((q + 1 : Nat) : Int) - 1) = (q : Int) := (IntWalk.i64_in _ (by omega)).trans (by omega)
  have vq2 : IntKind.i64.wrap ((q : Int) + 1 - 1) = (q : Int) := (IntWalk.i64_in _ (by omega)).trans (by omega)
  have vq3 : ((q : Int) + 1 - 1) = (q : Int) := by omega
  have p0 : (0 : Int) ≤ (q : Int) := by omega
  have p1 : (q : Int) < ((q + 1 : Nat) : Int) := by omega
  have p2 : (q : Int) < (q : Int) + 1 := by omega
  have p3 : decide ((0 : Int) < (q : Int) + 1) = true := decide_eq_true (by omega)
  have p4 : decide ((0 : Int) < ((q + 1 : Nat) : Int)) = true := decide_eq_true (by omega)
  go_enter Try.func11, Try.ntmps11
  go_wp2_with fail
  refine (HC.out _ (HR.out.later (by (repeat' (first | (with_reducible exact Below.refl _ _) | (with_reducible assumption) | (with_reducible refine belowThru ?_ (by assumption)) | (with_reducible refine belowAlloc ?_) | (with_reducible refine Below.setCell ?_ (by first | omega | (simp; done) | (simp; omega)) _) | (with_reducible refine Below.drew ?_) | (with_reducible refine below_drewN ?_ _)))))).mono ?_
  rintro e w1 ⟨rfl, hb⟩
  have kT : Blk w1 w.heap.size #[.int .i64 s, .int .i64 p, .int .i64 g, .int .i64 l, .int .i64 c, .int .i64 nx, .slice (some ⟨bb, oo, none⟩) (q + 1) cap] 26 := Blk.later hb (Blk.alloc (Blk.new rfl))
  have kR : Blk w1 (w.heap.size + 1) #[.int .i64 0, .int .i64 0, .int .i64 0, .int .i64 0, .int .i64 0, .int .i64 0, .slice none 0 0] 26 := Blk.later hb (Blk.new (by simp))
  have hB : Below w.heap.size w w1 := belowThru (belowAlloc (belowAlloc (Below.refl _ _))) hb
  clear hb
  have d1 := cell_later hB d1
  obtain ⟨aT, bT⟩ := kT.read; obtain ⟨aR, bR⟩ := kR.read; have yT := kT.lt; have yR := kR.lt
  go_wp2_with fail
  go_quiet (fail)
  obtain ⟨W1, hW1⟩ : ∃ W, w1.drewN nq = W := ⟨_, rfl⟩
  have kT1 : Blk W1 w.heap.size #[.int .i64 s, .int .i64 p, .int .i64 g, .int .i64 l, .int .i64 c, .int .i64 nx, .slice (some ⟨bb, oo, none⟩) (q + 1) cap] 26 := by rw [← hW1]; exact kT.drewN
  have kR1 : Blk W1 (w.heap.size + 1) #[.int .i64 0, .int .i64 0, .int .i64 0, .int .i64 0, .int .i64 0, .int .i64 0, .slice none 0 0] 26 := by rw [← hW1]; exact kR.drewN
  have hB1 : Below w.heap.size w W1 := by rw [← hW1]; exact below_drewN hB _
  rw [hW1]
  clear hW1 kT kR aT bT aR bR hB yT yR
  obtain ⟨aT, bT⟩ := kT1.read; obtain ⟨aR, bR⟩ := kR1.read; have yT := kT1.lt; have yR := kR1.lt
  go_wp2_with fail
  have q2 := (kR1.set7 (.int .i64 0) (.int .i64 0) (.int .i64 0) (.int .i64 0) (.int .i64 0) (.int .i64 0) (.slice none 0 0)).cells
  exact bodyPost_ret (v := .tuple #[.agg #[.int .i64 0, .int .i64 0, .int .i64 0, .int .i64 0, .int .i64 0, .int .i64 0, .slice none 0 0], .int .i64 0, .int .i64 9]) (by simp only [results, Try.results11]; go_simp) rfl ⟨⟨_, rfl, OwnK.nil _ _⟩, by (repeat' (first | (with_reducible exact Below.refl _ _) | (with_reducible assumption) | (with_reducible refine belowThru ?_ (by assumption)) | (with_reducible refine belowAlloc ?_) | (with_reducible refine Below.setCell ?_ (by first | omega | (simp; done) | (simp; omega)) _) | (with_reducible refine Below.drew ?_) | (with_reducible refine below_drewN ?_ _)))⟩
set_option maxRecDepth 100000 in
set_option maxHeartbeats 16000000 in
theorem rsense_fullz2 (s p g l c nx : Int) (a : Option Addr) (cap : Nat) (xs : List Sn) (hf : (nx == 1099511627776) = true) (w : World) (hR : RowK 4 sn1 w a 0 xs) (HC : Hid (∀ w, RowK 4 sn1 w a 0 xs → Calls Try.prog 15 #[.agg #[.int .i64 s, .int .i64 p, .int .i64 g, .int .i64 l, .int .i64 c, .int .i64 nx, .slice a 0 cap]] w fun e w' => e = .returned (.int .i64 0) ∧ Below w.heap.size w w')) :
    Calls Try.prog 11 #[.agg #[.int .i64 s, .int .i64 p, .int .i64 g, .int .i64 l, .int .i64 c, .int .i64 nx, .slice a 0 cap]] w fun e w' => (∃ v, e = .returned (.tuple #[.agg #[.int .i64 0, .int .i64 0, .int .i64 0, .int .i64 0, .int .i64 0, .int .i64 0, v], .int .i64 0, .int .i64 9]) ∧ OwnK 43 4 sn1 w.heap.size w' v []) ∧ Below w.heap.size w w' := by
  have z1 : ((0 : Int) == 32) = false := by decide
  have z2 : (((0 : Nat) : Int) == 32) = false := by decide
  have HR := Lib.hid hR
  clear hR
  have p3 : decide ((0 : Int) < ((0 : Nat) : Int)) = false := by decide
  have p4 : decide ((0 : Int) < 0) = false := by decide
  go_enter Try.func11, Try.ntmps11
  go_wp2_with fail
  refine (HC.out _ (HR.out.later (by (repeat' (first | (with_reducible exact Below.refl _ _) | (with_reducible assumption) | (with_reducible refine belowThru ?_ (by assumption)) | (with_reducible refine belowAlloc ?_) | (with_reducible refine Below.setCell ?_ (by first | omega | (simp; done) | (simp; omega)) _) | (with_reducible refine Below.drew ?_) | (with_reducible refine below_drewN ?_ _)))))).mono ?_
  rintro e w1 ⟨rfl, hb⟩
  have kT : Blk w1 w.heap.size #[.int .i64 s, .int .i64 p, .int .i64 g, .int .i64 l, .int .i64 c, .int .i64 nx, .slice a 0 cap] 26 := Blk.later hb (Blk.alloc (Blk.new rfl))
  have kR : Blk w1 (w.heap.size + 1) #[.int .i64 0, .int .i64 0, .int .i64 0, .int .i64 0, .int .i64 0, .int .i64 0, .slice none 0 0] 26 := Blk.later hb (Blk.new (by simp))
  have hB : Below w.heap.size w w1 := belowThru (belowAlloc (belowAlloc (Below.refl _ _))) hb
  clear hb
  obtain ⟨aT, bT⟩ := kT.read; obtain ⟨aR, bR⟩ := kR.read; have yT := kT.lt; have yR := kR.lt
  go_wp2_with fail
  go_quiet (fail)
  obtain ⟨W1, hW1⟩ : ∃ W, w1.drewN nq = W := ⟨_, rfl⟩
  have kT1 : Blk W1 w.heap.size #[.int .i64 s, .int .i64 p, .int .i64 g, .int .i64 l, .int .i64 c, .int .i64 nx, .slice a 0 cap] 26 := by rw [← hW1]; exact kT.drewN
  have kR1 : Blk W1 (w.heap.size + 1) #[.int .i64 0, .int .i64 0, .int .i64 0, .int .i64 0, .int .i64 0, .int .i64 0, .slice none 0 0] 26 := by rw [← hW1]; exact kR.drewN
  have hB1 : Below w.heap.size w W1 := by rw [← hW1]; exact below_drewN hB _
  rw [hW1]
  clear hW1 kT kR aT bT aR bR hB yT yR
  obtain ⟨aT, bT⟩ := kT1.read; obtain ⟨aR, bR⟩ := kR1.read; have yT := kT1.lt; have yR := kR1.lt
  go_wp2_with fail
  have q2 := (kR1.set7 (.int .i64 0) (.int .i64 0) (.int .i64 0) (.int .i64 0) (.int .i64 0) (.int .i64 0) (.slice none 0 0)).cells
  exact bodyPost_ret (v := .tuple #[.agg #[.int .i64 0, .int .i64 0, .int .i64 0, .int .i64 0, .int .i64 0, .int .i64 0, .slice none 0 0], .int .i64 0, .int .i64 9]) (by simp only [results, Try.results11]; go_simp) rfl ⟨⟨_, rfl, OwnK.nil _ _⟩, by (repeat' (first | (with_reducible exact Below.refl _ _) | (with_reducible assumption) | (with_reducible refine belowThru ?_ (by assumption)) | (with_reducible refine belowAlloc ?_) | (with_reducible refine Below.setCell ?_ (by first | omega | (simp; done) | (simp; omega)) _) | (with_reducible refine Below.drew ?_) | (with_reducible refine below_drewN ?_ _)))⟩
end Go.Proofs.Ytnkpejinnbiocaa
