/-
  The law BeltTracks.
-/
import Derived.Test.YtnkpejinnbiocaaVRTw
import Derived.Test.YtnkpejinnbiocaaVSme
namespace Go.Proofs.Ytnkpejinnbiocaa
open Go.RowKit Go.Shelf
set_option linter.unusedVariables false
set_option linter.unusedSimpArgs false

theorem holdV8 {w : World} {b0 b1 b2 b3 b4 b5 b6 b7 : Nat} {c0 c1 c2 c3 c4 c5 c6 c7 : Array Value} {t0 t1 t2 t3 t4 t5 t6 t7 : TypeId} {D0 D1 D2 D3 D4 D5 D6 D7 E G : Prop} (h : (Blk w b0 c0 t0 ∧ D0) ∧ (Blk w b1 c1 t1 ∧ D1) ∧ (Blk w b2 c2 t2 ∧ D2) ∧ (Blk w b3 c3 t3 ∧ D3) ∧ (Blk w b4 c4 t4 ∧ D4) ∧ (Blk w b5 c5 t5 ∧ D5) ∧ (Blk w b6 c6 t6 ∧ D6) ∧ (Blk w b7 c7 t7 ∧ D7) ∧ E) (g : Blk w b0 c0 t0 → Blk w b1 c1 t1 → Blk w b2 c2 t2 → Blk w b3 c3 t3 → Blk w b4 c4 t4 → Blk w b5 c5 t5 → Blk w b6 c6 t6 → Blk w b7 c7 t7 → E → G) : G :=
  g h.1.1 h.2.1.1 h.2.2.1.1 h.2.2.2.1.1 h.2.2.2.2.1.1 h.2.2.2.2.2.1.1 h.2.2.2.2.2.2.1.1 h.2.2.2.2.2.2.2.1.1 h.2.2.2.2.2.2.2.2
theorem rowOfS {w : World} {B n : Nat} {a : Option Addr} {cap : Nat} {xs : List Sn} (h : OwnK 43 4 sn1 B w (.slice a n cap) xs) : RowK 4 sn1 w a n xs := by
  obtain ⟨a', c, e, hr, hc, -⟩ := h.row elem_sn
  have e : Value.slice a n cap = Value.slice a' xs.length c := e
  cases e
  exact hr
/-- Two slices of one's own, the second made behind the first. -/
theorem OwnK.two {α : Type} {t : TypeId} {k : Nat} {en : α → List Value} {B B' : Nat} {w w' : World} {v u : Value} {xs ys : List α} (h : OwnK t k en B w v xs) (h' : OwnK t k en B' w' u ys) (hB : w.heap.size ≤ B') : ∀ g, v.ownBlock = some g → u.ownBlock ≠ some g := fun g hg e => by
  have h1 := (h.lt g hg).2
  have h2 := (h'.lt g e).1
  omega
/-- A slice of one's own of some length. -/
def OwnN (B : Nat) (w : World) (a : Option Addr) (n cap : Nat) : Prop := ∃ zs : List Sn, zs.length = n ∧ OwnK 43 4 sn1 B w (.slice a n cap) zs
theorem OwnN.other {B : Nat} {w : World} {a : Option Addr} {n cap : Nat} (h : OwnN B w a n cap) {p : Addr} {u : Value} (hp : (Value.slice a n cap).ownBlock ≠ some p.block) : OwnN B (w.setCell p u) a n cap := by
  obtain ⟨zs, hz, hO⟩ := h
  exact ⟨zs, hz, hO.other hp⟩
theorem OwnN.set {B : Nat} {w : World} {g n cap j i : Nat} {u : Value} (h : OwnN B w (some ⟨g, 0, none⟩) n cap) (hj : j < n) (hi : i < 4) (hu : ∀ x : Sn, ∃ y : Sn, (sn1 x).set i u = sn1 y) : OwnN B (w.setCell ⟨g, j * 4 + i, none⟩ u) (some ⟨g, 0, none⟩) n cap := by
  obtain ⟨zs, hz, hO⟩ := h
  obtain ⟨x, hx⟩ : ∃ x, zs[j]? = some x := ⟨zs[j]'(by omega), List.getElem?_eq_getElem _⟩
  obtain ⟨y, hy⟩ := hu x
  exact ⟨zs.set j y, by rw [List.length_set, hz], hO.set elem_sn hz hx hi hy⟩
set_option maxRecDepth 100000 in
set_option maxHeartbeats 16000000 in
theorem tracks_long (s p g l c nx : Int) (a : Option Addr) (n cap : Nat) (id vd : Int) (w : World) (d0 : decide ((50 : Int) < n) = true) :
    Calls Try.prog 3 #[.agg #[.int .i64 s, .int .i64 p, .int .i64 g, .int .i64 l, .int .i64 c, .int .i64 nx, .slice a n cap], .int .i64 id, .int .u8 vd] w fun e w' => e = .returned (.bool true) ∧ Below w.heap.size w w' := by
  go_enter Try.func3, Try.ntmps3
  go_wp2_with fail
  go_ret
  exact ⟨rfl, by (repeat' (first | (with_reducible exact Below.refl _ _) | (with_reducible assumption) | (with_reducible refine belowThru ?_ (by assumption)) | (with_reducible refine belowAlloc ?_) | (with_reducible refine Below.setCell ?_ (by first | omega | (simp; done) | (simp; omega)) _) | (with_reducible refine Below.drew ?_) | (with_reducible refine below_drewN ?_ _)))⟩
set_option maxRecDepth 100000 in
set_option maxHeartbeats 16000000 in
theorem tracks_walk (s p g l c nx : Int) (a : Option Addr) (n cap : Nat) (id vd : Int) (s0 p0 g0 l0 s1 p1 g1 l1 c1 n1 i1 s2 p2 g2 l2 c2 n2 E0 E1 E2 E3 : Int) (xs X U : List Sn) (hcap : n ≤ cap) (hn : n ≤ 50) (hX : X.length ≤ 51) (hU : U.length ≤ 51) (w : World) (hR : RowK 4 sn1 w a n xs)
    (HT : Hid (∀ (a : Option Addr) (cap : Nat) (w : World), RowK 4 sn1 w a n xs → Calls Try.prog 7 #[.agg #[.int .i64 s, .int .i64 p, .int .i64 g, .int .i64 l, .int .i64 c, .int .i64 nx, .slice a n cap]] w fun e w' => (∃ v, e = .returned (.agg #[.int .i64 s, .int .i64 p, .int .i64 g, .int .i64 l, .int .i64 c, .int .i64 nx, v]) ∧ OwnK 43 4 sn1 w.heap.size w' v xs) ∧ Below w.heap.size w w'))
    (N1 : Hid (∀ w, Calls Try.prog 8 #[.agg #[.int .i64 s, .int .i64 p, .int .i64 g, .int .i64 l]] w fun e w' => e = .returned (.tuple #[.agg #[.int .i64 s0, .int .i64 p0, .int .i64 g0, .int .i64 l0, .int .i64 0, .int .i64 0, .slice none 0 0], .int .i64 E0]) ∧ Below w.heap.size w w'))
    (N2 : Hid (∀ w, Calls Try.prog 9 #[.agg #[.int .i64 s, .int .i64 p, .int .i64 g, .int .i64 l]] w fun e w' => e = .returned (.tuple #[.agg #[.int .i64 s0, .int .i64 p0, .int .i64 g0, .int .i64 l0, .int .i64 0, .int .i64 0, .slice none 0 0], .int .i64 E0]) ∧ Below w.heap.size w w'))
    (S1 : Hid (∀ (a : Option Addr) (cap : Nat) (w : World), n ≤ cap → RowK 4 sn1 w a n xs → Calls Try.prog 10 #[.agg #[.int .i64 s, .int .i64 p, .int .i64 g, .int .i64 l, .int .i64 c, .int .i64 nx, .slice a n cap]] w fun e w' => (∃ v, e = .returned (.tuple #[.agg #[.int .i64 s1, .int .i64 p1, .int .i64 g1, .int .i64 l1, .int .i64 c1, .int .i64 n1, v], .int .i64 i1, .int .i64 E1]) ∧ OwnK 43 4 sn1 w.heap.size w' v X) ∧ Below w.heap.size w w'))
    (S2 : Hid (∀ (a : Option Addr) (cap : Nat) (w : World), n ≤ cap → RowK 4 sn1 w a n xs → Calls Try.prog 11 #[.agg #[.int .i64 s, .int .i64 p, .int .i64 g, .int .i64 l, .int .i64 c, .int .i64 nx, .slice a n cap]] w fun e w' => (∃ v, e = .returned (.tuple #[.agg #[.int .i64 s1, .int .i64 p1, .int .i64 g1, .int .i64 l1, .int .i64 c1, .int .i64 n1, v], .int .i64 i1, .int .i64 E1]) ∧ OwnK 43 4 sn1 w.heap.size w' v X) ∧ Below w.heap.size w w'))
    (T1 : Hid (∀ (a : Option Addr) (cap : Nat) (w : World), n ≤ cap → RowK 4 sn1 w a n xs → Calls Try.prog 12 #[.agg #[.int .i64 s, .int .i64 p, .int .i64 g, .int .i64 l, .int .i64 c, .int .i64 nx, .slice a n cap], .int .i64 id, .int .u8 vd] w fun e w' => (∃ v, e = .returned (.tuple #[.agg #[.int .i64 s2, .int .i64 p2, .int .i64 g2, .int .i64 l2, .int .i64 c2, .int .i64 n2, v], .int .i64 E2]) ∧ OwnK 43 4 sn1 w.heap.size w' v U) ∧ Below w.heap.size w w'))
    (T2 : Hid (∀ (a : Option Addr) (cap : Nat) (w : World), n ≤ cap → RowK 4 sn1 w a n xs → Calls Try.prog 13 #[.agg #[.int .i64 s, .int .i64 p, .int .i64 g, .int .i64 l, .int .i64 c, .int .i64 nx, .slice a n cap], .int .i64 id, .int .u8 vd] w fun e w' => (∃ v, e = .returned (.tuple #[.agg #[.int .i64 s2, .int .i64 p2, .int .i64 g2, .int .i64 l2, .int .i64 c2, .int .i64 n2, v], .int .i64 E2]) ∧ OwnK 43 4 sn1 w.heap.size w' v U) ∧ Below w.heap.size w w'))
    (C1 : Hid (∀ (a : Option Addr) (cap : Nat) (w : World), n ≤ cap → RowK 4 sn1 w a n xs → Calls Try.prog 14 #[.agg #[.int .i64 s, .int .i64 p, .int .i64 g, .int .i64 l, .int .i64 c, .int .i64 nx, .slice a n cap]] w fun e w' => e = .returned (.int .i64 E3) ∧ Below w.heap.size w w'))
    (C2 : Hid (∀ (a : Option Addr) (cap : Nat) (w : World), n ≤ cap → RowK 4 sn1 w a n xs → Calls Try.prog 15 #[.agg #[.int .i64 s, .int .i64 p, .int .i64 g, .int .i64 l, .int .i64 c, .int .i64 nx, .slice a n cap]] w fun e w' => e = .returned (.int .i64 E3) ∧ Below w.heap.size w w')) :
    Calls Try.prog 3 #[.agg #[.int .i64 s, .int .i64 p, .int .i64 g, .int .i64 l, .int .i64 c, .int .i64 nx, .slice a n cap], .int .i64 id, .int .u8 vd] w fun e w' => e = .returned (.bool true) ∧ Below w.heap.size w w' := by
  have HR := Lib.hid hR
  have HN := Lib.hid hn; have HCap := Lib.hid hcap; have HX := Lib.hid hX; have HU := Lib.hid hU
  have d0 : decide ((50 : Int) < n) = false := decide_eq_false (by omega)
  have z0 : (E0 == E0) = true := by simp
  have z1 : (E1 == E1) = true := by simp
  have z2 : (E2 == E2) = true := by simp
  have z3 : (E3 == E3) = true := by simp
  have z4 : (i1 == i1) = true := by simp
  clear hR hn hcap hX hU
  go_enter Try.func3, Try.ntmps3
  go_wp2_with fail
  have k3 : Blk (w.alloc (.cells #[.int .i64 s, .int .i64 p, .int .i64 g, .int .i64 l, .int .i64 c, .int .i64 nx, .slice a n cap] 26)) w.heap.size #[.int .i64 s, .int .i64 p, .int .i64 g, .int .i64 l, .int .i64 c, .int .i64 nx, .slice a n cap] 26 := Blk.new rfl
  have hB : Below w.heap.size w (w.alloc (.cells #[.int .i64 s, .int .i64 p, .int .i64 g, .int .i64 l, .int .i64 c, .int .i64 nx, .slice a n cap] 26)) := belowAlloc (Below.refl _ _)
  refine (HT.out _ _ _ (HR.out.later hB)).mono ?_
  rintro e w1 ⟨⟨vO, rfl, hO⟩, hb⟩
  replace k3 := Blk.later hb k3; replace hB := belowThru hB hb
  clear hb HT
  obtain ⟨aO, cO, ev, -, hcO, -⟩ := hO.row elem_sn
  rw [HR.out.1] at ev hcO
  subst ev
  go_upto_region 4 with fail
  obtain ⟨Wo, hWo⟩ : ∃ W, w1.alloc (.cells #[.int .i64 s, .int .i64 p, .int .i64 g, .int .i64 l, .int .i64 c, .int .i64 nx, .slice aO n cO] 26) = W := ⟨_, rfl⟩
  have k7 : Blk Wo w1.heap.size #[.int .i64 s, .int .i64 p, .int .i64 g, .int .i64 l, .int .i64 c, .int .i64 nx, .slice aO n cO] 26 := by rw [← hWo]; exact Blk.new rfl
  replace k3 : Blk Wo w.heap.size #[.int .i64 s, .int .i64 p, .int .i64 g, .int .i64 l, .int .i64 c, .int .i64 nx, .slice a n cap] 26 := by rw [← hWo]; exact k3.alloc
  replace hB : Below w.heap.size w Wo := by rw [← hWo]; exact belowAlloc hB
  have HRt : Hid (RowK 4 sn1 Wo a n xs) := HR.out.later hB
  have HRo : Hid (RowK 4 sn1 Wo aO n xs) := by rw [← hWo]; exact rowOfS hO.alloc
  obtain ⟨bO, hbO⟩ : ∃ b, w1.heap.size = b := ⟨_, rfl⟩
  obtain ⟨bT, hbT⟩ : ∃ b, w.heap.size = b := ⟨_, rfl⟩
  have HcO := Lib.hid hcO
  rw [hWo]
  rw [hbO] at k7 ⊢
  have HBT : Hid (Below w.heap.size w Wo) := hB
  have hBs := Lib.hid hB.size
  rw [hbT] at k3 ⊢
  have K3 := Lib.hid k3; have K7 := Lib.hid k7
  clear hWo hbO hB hO HR hcO
  have HB : Below Wo.heap.size Wo Wo := Below.refl _ _
  obtain ⟨a3, b3⟩ := k3.read; have y3 := k3.lt
  go_wp2_with fail
  refine (N1.out _).mono ?_
  rintro e wa1 ⟨rfl, hb⟩
  try clear a3 b3 y3
  try clear a7 b7 y7
  replace HB := belowThru HB hb
  clear hb
  go_upto_region 5 with fail
  obtain ⟨Wb1, hW⟩ : ∃ W, wa1.alloc (.cells #[.int .i64 s0, .int .i64 p0, .int .i64 g0, .int .i64 l0, .int .i64 0, .int .i64 0, .slice none 0 0] 26) = W := ⟨_, rfl⟩
  obtain ⟨bA, hbx⟩ : ∃ b, wa1.heap.size = b := ⟨_, rfl⟩
  have kbA : Blk Wb1 bA #[.int .i64 s0, .int .i64 p0, .int .i64 g0, .int .i64 l0, .int .i64 0, .int .i64 0, .slice none 0 0] 26 := by rw [← hW, ← hbx]; exact Blk.new rfl
  replace HB : Below Wo.heap.size Wo Wb1 := by rw [← hW]; exact belowAlloc HB
  rw [hW]
  rw [hbx]
  clear hW hbx
  have hS1 := Lib.hid HB.size
  obtain ⟨a3, b3⟩ := (Blk.later HB K3.out).read; have y3 := (Blk.later HB K3.out).lt
  go_wp2_with fail
  refine (N2.out _).mono ?_
  rintro e wa2 ⟨rfl, hb⟩
  try clear a3 b3 y3
  try clear a7 b7 y7
  replace kbA := Blk.later hb kbA
  replace HB := belowThru HB hb
  clear hb
  go_upto_region 6 with fail
  obtain ⟨Wb2, hW⟩ : ∃ W, wa2.alloc (.cells #[.int .i64 s0, .int .i64 p0, .int .i64 g0, .int .i64 l0, .int .i64 0, .int .i64 0, .slice none 0 0] 26) = W := ⟨_, rfl⟩
  obtain ⟨bB, hbx⟩ : ∃ b, wa2.heap.size = b := ⟨_, rfl⟩
  replace kbA : Blk Wb2 bA #[.int .i64 s0, .int .i64 p0, .int .i64 g0, .int .i64 l0, .int .i64 0, .int .i64 0, .slice none 0 0] 26 := by rw [← hW]; exact kbA.alloc
  have kbB : Blk Wb2 bB #[.int .i64 s0, .int .i64 p0, .int .i64 g0, .int .i64 l0, .int .i64 0, .int .i64 0, .slice none 0 0] 26 := by rw [← hW, ← hbx]; exact Blk.new rfl
  replace HB : Below Wo.heap.size Wo Wb2 := by rw [← hW]; exact belowAlloc HB
  rw [hW]
  rw [hbx]
  clear hW hbx
  have hS2 := Lib.hid HB.size
  obtain ⟨a7, b7⟩ := (Blk.later HB K7.out).read; have y7 := (Blk.later HB K7.out).lt
  go_wp2_with fail
  refine (S1.out _ _ _ HcO.out (HRo.out.later HB)).mono ?_
  rintro e wa3 ⟨⟨vX, rfl, hX⟩, hb⟩
  try clear a3 b3 y3
  try clear a7 b7 y7
  replace kbA := Blk.later hb kbA
  replace kbB := Blk.later hb kbB
  replace HB := belowThru HB hb
  have hz3 := hb.size
  obtain ⟨aX, qX, ev, -⟩ := hX.row elem_sn
  obtain ⟨mX, hmX⟩ : ∃ k, X.length = k := ⟨_, rfl⟩
  rw [hmX] at ev
  subst ev
  clear hb
  go_upto_region 7 with fail
  obtain ⟨Wb3, hW⟩ : ∃ W, wa3.alloc (.cells #[.int .i64 s1, .int .i64 p1, .int .i64 g1, .int .i64 l1, .int .i64 c1, .int .i64 n1, .slice aX mX qX] 26) = W := ⟨_, rfl⟩
  obtain ⟨bX, hbx⟩ : ∃ b, wa3.heap.size = b := ⟨_, rfl⟩
  replace kbA : Blk Wb3 bA #[.int .i64 s0, .int .i64 p0, .int .i64 g0, .int .i64 l0, .int .i64 0, .int .i64 0, .slice none 0 0] 26 := by rw [← hW]; exact kbA.alloc
  replace kbB : Blk Wb3 bB #[.int .i64 s0, .int .i64 p0, .int .i64 g0, .int .i64 l0, .int .i64 0, .int .i64 0, .slice none 0 0] 26 := by rw [← hW]; exact kbB.alloc
  have kbX : Blk Wb3 bX #[.int .i64 s1, .int .i64 p1, .int .i64 g1, .int .i64 l1, .int .i64 c1, .int .i64 n1, .slice aX mX qX] 26 := by rw [← hW, ← hbx]; exact Blk.new rfl
  have hmXB : Wo.heap.size ≤ Wb2.heap.size := hS2.out
  replace hX := Lib.hid (show OwnK 43 4 sn1 Wo.heap.size Wb3 (.slice aX mX qX) X by rw [← hW]; exact (hX.mono hmXB).alloc)
  replace HB : Below Wo.heap.size Wo Wb3 := by rw [← hW]; exact belowAlloc HB
  rw [hW]
  rw [hbx]
  clear hW hbx hmXB hz3
  have hS3 := Lib.hid HB.size
  obtain ⟨a3, b3⟩ := (Blk.later HB K3.out).read; have y3 := (Blk.later HB K3.out).lt
  go_wp2_with fail
  refine (S2.out _ _ _ HCap.out (HRt.out.later HB)).mono ?_
  rintro e wa4 ⟨⟨vY, rfl, hY⟩, hb⟩
  try clear a3 b3 y3
  try clear a7 b7 y7
  replace kbA := Blk.later hb kbA
  replace kbB := Blk.later hb kbB
  replace kbX := Blk.later hb kbX
  replace hX := Lib.hid (hX.out.later hb)
  replace HB := belowThru HB hb
  have hz4 := hb.size
  obtain ⟨aY, qY, ev, -⟩ := hY.row elem_sn
  obtain ⟨mY, hmY⟩ : ∃ k, X.length = k := ⟨_, rfl⟩
  rw [hmY] at ev
  subst ev
  clear hb
  go_upto_region 8 with fail
  obtain ⟨Wb4, hW⟩ : ∃ W, wa4.alloc (.cells #[.int .i64 s1, .int .i64 p1, .int .i64 g1, .int .i64 l1, .int .i64 c1, .int .i64 n1, .slice aY mY qY] 26) = W := ⟨_, rfl⟩
  obtain ⟨bY, hbx⟩ : ∃ b, wa4.heap.size = b := ⟨_, rfl⟩
  replace kbA : Blk Wb4 bA #[.int .i64 s0, .int .i64 p0, .int .i64 g0, .int .i64 l0, .int .i64 0, .int .i64 0, .slice none 0 0] 26 := by rw [← hW]; exact kbA.alloc
  replace kbB : Blk Wb4 bB #[.int .i64 s0, .int .i64 p0, .int .i64 g0, .int .i64 l0, .int .i64 0, .int .i64 0, .slice none 0 0] 26 := by rw [← hW]; exact kbB.alloc
  replace kbX : Blk Wb4 bX #[.int .i64 s1, .int .i64 p1, .int .i64 g1, .int .i64 l1, .int .i64 c1, .int .i64 n1, .slice aX mX qX] 26 := by rw [← hW]; exact kbX.alloc
  replace hX := Lib.hid (show OwnK 43 4 sn1 Wo.heap.size Wb4 (.slice aX mX qX) X by rw [← hW]; exact hX.out.alloc)
  have kbY : Blk Wb4 bY #[.int .i64 s1, .int .i64 p1, .int .i64 g1, .int .i64 l1, .int .i64 c1, .int .i64 n1, .slice aY mY qY] 26 := by rw [← hW, ← hbx]; exact Blk.new rfl
  have hmYB : Wo.heap.size ≤ Wb3.heap.size := hS3.out
  replace hY := Lib.hid (show OwnK 43 4 sn1 Wo.heap.size Wb4 (.slice aY mY qY) X by rw [← hW]; exact (hY.mono hmYB).alloc)
  replace HB : Below Wo.heap.size Wo Wb4 := by rw [← hW]; exact belowAlloc HB
  rw [hW]
  rw [hbx]
  clear hW hbx hmYB hz4
  have hS4 := Lib.hid HB.size
  obtain ⟨a7, b7⟩ := (Blk.later HB K7.out).read; have y7 := (Blk.later HB K7.out).lt
  go_wp2_with fail
  have hXu := Lib.hid hX.out
  refine (T1.out _ _ _ HcO.out (HRo.out.later HB)).mono ?_
  rintro e wa5 ⟨⟨vU, rfl, hU⟩, hb⟩
  try clear a3 b3 y3
  try clear a7 b7 y7
  replace kbA := Blk.later hb kbA
  replace kbB := Blk.later hb kbB
  replace kbX := Blk.later hb kbX
  replace kbY := Blk.later hb kbY
  replace hX := Lib.hid (hX.out.later hb)
  replace hY := Lib.hid (hY.out.later hb)
  replace HB := belowThru HB hb
  have hz5 := hb.size
  have hXU := Lib.hid (hXu.out.two hU (Nat.le_refl _))
  clear hXu
  obtain ⟨aU, qU, ev, -⟩ := hU.row elem_sn
  obtain ⟨mU, hmU⟩ : ∃ k, U.length = k := ⟨_, rfl⟩
  rw [hmU] at ev
  subst ev
  clear hb
  go_upto_region 9 with fail
  obtain ⟨Wb5, hW⟩ : ∃ W, wa5.alloc (.cells #[.int .i64 s2, .int .i64 p2, .int .i64 g2, .int .i64 l2, .int .i64 c2, .int .i64 n2, .slice aU mU qU] 26) = W := ⟨_, rfl⟩
  obtain ⟨bU, hbx⟩ : ∃ b, wa5.heap.size = b := ⟨_, rfl⟩
  replace kbA : Blk Wb5 bA #[.int .i64 s0, .int .i64 p0, .int .i64 g0, .int .i64 l0, .int .i64 0, .int .i64 0, .slice none 0 0] 26 := by rw [← hW]; exact kbA.alloc
  replace kbB : Blk Wb5 bB #[.int .i64 s0, .int .i64 p0, .int .i64 g0, .int .i64 l0, .int .i64 0, .int .i64 0, .slice none 0 0] 26 := by rw [← hW]; exact kbB.alloc
  replace kbX : Blk Wb5 bX #[.int .i64 s1, .int .i64 p1, .int .i64 g1, .int .i64 l1, .int .i64 c1, .int .i64 n1, .slice aX mX qX] 26 := by rw [← hW]; exact kbX.alloc
  replace kbY : Blk Wb5 bY #[.int .i64 s1, .int .i64 p1, .int .i64 g1, .int .i64 l1, .int .i64 c1, .int .i64 n1, .slice aY mY qY] 26 := by rw [← hW]; exact kbY.alloc
  replace hX := Lib.hid (show OwnK 43 4 sn1 Wo.heap.size Wb5 (.slice aX mX qX) X by rw [← hW]; exact hX.out.alloc)
  replace hY := Lib.hid (show OwnK 43 4 sn1 Wo.heap.size Wb5 (.slice aY mY qY) X by rw [← hW]; exact hY.out.alloc)
  have kbU : Blk Wb5 bU #[.int .i64 s2, .int .i64 p2, .int .i64 g2, .int .i64 l2, .int .i64 c2, .int .i64 n2, .slice aU mU qU] 26 := by rw [← hW, ← hbx]; exact Blk.new rfl
  have hmUB : Wo.heap.size ≤ Wb4.heap.size := hS4.out
  replace hU := Lib.hid (show OwnK 43 4 sn1 Wo.heap.size Wb5 (.slice aU mU qU) U by rw [← hW]; exact (hU.mono hmUB).alloc)
  replace HB : Below Wo.heap.size Wo Wb5 := by rw [← hW]; exact belowAlloc HB
  rw [hW]
  rw [hbx]
  clear hW hbx hmUB hz5
  have hS5 := Lib.hid HB.size
  obtain ⟨a3, b3⟩ := (Blk.later HB K3.out).read; have y3 := (Blk.later HB K3.out).lt
  go_wp2_with fail
  refine (T2.out _ _ _ HCap.out (HRt.out.later HB)).mono ?_
  rintro e wa6 ⟨⟨vV, rfl, hV⟩, hb⟩
  try clear a3 b3 y3
  try clear a7 b7 y7
  replace kbA := Blk.later hb kbA
  replace kbB := Blk.later hb kbB
  replace kbX := Blk.later hb kbX
  replace kbY := Blk.later hb kbY
  replace kbU := Blk.later hb kbU
  replace hX := Lib.hid (hX.out.later hb)
  replace hY := Lib.hid (hY.out.later hb)
  replace hU := Lib.hid (hU.out.later hb)
  replace HB := belowThru HB hb
  have hz6 := hb.size
  obtain ⟨aV, qV, ev, -⟩ := hV.row elem_sn
  obtain ⟨mV, hmV⟩ : ∃ k, U.length = k := ⟨_, rfl⟩
  rw [hmV] at ev
  subst ev
  clear hb
  go_upto_region 10 with fail
  obtain ⟨Wb6, hW⟩ : ∃ W, wa6.alloc (.cells #[.int .i64 s2, .int .i64 p2, .int .i64 g2, .int .i64 l2, .int .i64 c2, .int .i64 n2, .slice aV mV qV] 26) = W := ⟨_, rfl⟩
  obtain ⟨bV, hbx⟩ : ∃ b, wa6.heap.size = b := ⟨_, rfl⟩
  replace kbA : Blk Wb6 bA #[.int .i64 s0, .int .i64 p0, .int .i64 g0, .int .i64 l0, .int .i64 0, .int .i64 0, .slice none 0 0] 26 := by rw [← hW]; exact kbA.alloc
  replace kbB : Blk Wb6 bB #[.int .i64 s0, .int .i64 p0, .int .i64 g0, .int .i64 l0, .int .i64 0, .int .i64 0, .slice none 0 0] 26 := by rw [← hW]; exact kbB.alloc
  replace kbX : Blk Wb6 bX #[.int .i64 s1, .int .i64 p1, .int .i64 g1, .int .i64 l1, .int .i64 c1, .int .i64 n1, .slice aX mX qX] 26 := by rw [← hW]; exact kbX.alloc
  replace kbY : Blk Wb6 bY #[.int .i64 s1, .int .i64 p1, .int .i64 g1, .int .i64 l1, .int .i64 c1, .int .i64 n1, .slice aY mY qY] 26 := by rw [← hW]; exact kbY.alloc
  replace kbU : Blk Wb6 bU #[.int .i64 s2, .int .i64 p2, .int .i64 g2, .int .i64 l2, .int .i64 c2, .int .i64 n2, .slice aU mU qU] 26 := by rw [← hW]; exact kbU.alloc
  replace hX := Lib.hid (show OwnK 43 4 sn1 Wo.heap.size Wb6 (.slice aX mX qX) X by rw [← hW]; exact hX.out.alloc)
  replace hY := Lib.hid (show OwnK 43 4 sn1 Wo.heap.size Wb6 (.slice aY mY qY) X by rw [← hW]; exact hY.out.alloc)
  replace hU := Lib.hid (show OwnK 43 4 sn1 Wo.heap.size Wb6 (.slice aU mU qU) U by rw [← hW]; exact hU.out.alloc)
  have kbV : Blk Wb6 bV #[.int .i64 s2, .int .i64 p2, .int .i64 g2, .int .i64 l2, .int .i64 c2, .int .i64 n2, .slice aV mV qV] 26 := by rw [← hW, ← hbx]; exact Blk.new rfl
  have hmVB : Wo.heap.size ≤ Wb5.heap.size := hS5.out
  replace hV := Lib.hid (show OwnK 43 4 sn1 Wo.heap.size Wb6 (.slice aV mV qV) U by rw [← hW]; exact (hV.mono hmVB).alloc)
  replace HB : Below Wo.heap.size Wo Wb6 := by rw [← hW]; exact belowAlloc HB
  rw [hW]
  rw [hbx]
  clear hW hbx hmVB hz6
  have hS6 := Lib.hid HB.size
  obtain rfl : mX = mY := hmX.symm.trans hmY
  obtain rfl : mU = mV := hmU.symm.trans hmV
  have hX2 : Hid (mX ≤ 51) := by have := HX.out; show mX ≤ 51; omega
  have hU2 : Hid (mU ≤ 51) := by have := HU.out; show mU ≤ 51; omega
  have hX3 := Lib.hid hmX; have hU3 := Lib.hid hmU
  clear hmX hmY hmU hmV
  have k3 : Blk Wb6 bT #[.int .i64 s, .int .i64 p, .int .i64 g, .int .i64 l, .int .i64 c, .int .i64 nx, .slice a n cap] 26 := Blk.later HB K3.out
  have k7 : Blk Wb6 bO #[.int .i64 s, .int .i64 p, .int .i64 g, .int .i64 l, .int .i64 c, .int .i64 nx, .slice aO n cO] 26 := Blk.later HB K7.out
  have HP := Lib.hid HB
  have y3_ := k3.lt
  have y7_ := k7.lt
  have ybA_ := kbA.lt
  have ybB_ := kbB.lt
  have ybX_ := kbX.lt
  have ybY_ := kbY.lt
  have ybU_ := kbU.lt
  have ybV_ := kbV.lt
  have hx1 := Lib.hid (rowOfS hX.out); have hy1 := Lib.hid (rowOfS hY.out); have hu1 := Lib.hid (rowOfS hU.out); have hv1 := Lib.hid (rowOfS hV.out)
  clear hY hV
  go_cut [22] (fun s22 wx => s22 = .bool true ∧ Blk wx bT #[.int .i64 s, .int .i64 p, .int .i64 g, .int .i64 l, .int .i64 c, .int .i64 nx, .slice a n cap] 26 ∧ Blk wx bO #[.int .i64 s, .int .i64 p, .int .i64 g, .int .i64 l, .int .i64 c, .int .i64 nx, .slice aO n cO] 26 ∧ Blk wx bX #[.int .i64 s1, .int .i64 p1, .int .i64 g1, .int .i64 l1, .int .i64 c1, .int .i64 n1, .slice aX mX qX] 26 ∧ Blk wx bU #[.int .i64 s2, .int .i64 p2, .int .i64 g2, .int .i64 l2, .int .i64 c2, .int .i64 n2, .slice aU mU qU] 26 ∧ Below Wb6.heap.size Wb6 wx)
  case first => as_aux_lemma =>
    go_region_held3 (fun w' => (Blk w' (bT) #[.int .i64 s, .int .i64 p, .int .i64 g, .int .i64 l, .int .i64 c, .int .i64 nx, .slice a n cap] 26 ∧ (∀ i : Nat, w'.cell? ⟨bT, i, none⟩ = (#[.int .i64 s, .int .i64 p, .int .i64 g, .int .i64 l, .int .i64 c, .int .i64 nx, .slice a n cap] : Array Value)[i]?)) ∧ (Blk w' (bO) #[.int .i64 s, .int .i64 p, .int .i64 g, .int .i64 l, .int .i64 c, .int .i64 nx, .slice aO n cO] 26 ∧ (∀ i : Nat, w'.cell? ⟨bO, i, none⟩ = (#[.int .i64 s, .int .i64 p, .int .i64 g, .int .i64 l, .int .i64 c, .int .i64 nx, .slice aO n cO] : Array Value)[i]?)) ∧ (Blk w' (bA) #[.int .i64 s0, .int .i64 p0, .int .i64 g0, .int .i64 l0, .int .i64 0, .int .i64 0, .slice none 0 0] 26 ∧ (∀ i : Nat, w'.cell? ⟨bA, i, none⟩ = (#[.int .i64 s0, .int .i64 p0, .int .i64 g0, .int .i64 l0, .int .i64 0, .int .i64 0, .slice none 0 0] : Array Value)[i]?)) ∧ (Blk w' (bB) #[.int .i64 s0, .int .i64 p0, .int .i64 g0, .int .i64 l0, .int .i64 0, .int .i64 0, .slice none 0 0] 26 ∧ (∀ i : Nat, w'.cell? ⟨bB, i, none⟩ = (#[.int .i64 s0, .int .i64 p0, .int .i64 g0, .int .i64 l0, .int .i64 0, .int .i64 0, .slice none 0 0] : Array Value)[i]?)) ∧ (Blk w' (bX) #[.int .i64 s1, .int .i64 p1, .int .i64 g1, .int .i64 l1, .int .i64 c1, .int .i64 n1, .slice aX mX qX] 26 ∧ (∀ i : Nat, w'.cell? ⟨bX, i, none⟩ = (#[.int .i64 s1, .int .i64 p1, .int .i64 g1, .int .i64 l1, .int .i64 c1, .int .i64 n1, .slice aX mX qX] : Array Value)[i]?)) ∧ (Blk w' (bY) #[.int .i64 s1, .int .i64 p1, .int .i64 g1, .int .i64 l1, .int .i64 c1, .int .i64 n1, .slice aY mX qY] 26 ∧ (∀ i : Nat, w'.cell? ⟨bY, i, none⟩ = (#[.int .i64 s1, .int .i64 p1, .int .i64 g1, .int .i64 l1, .int .i64 c1, .int .i64 n1, .slice aY mX qY] : Array Value)[i]?)) ∧ (Blk w' (bU) #[.int .i64 s2, .int .i64 p2, .int .i64 g2, .int .i64 l2, .int .i64 c2, .int .i64 n2, .slice aU mU qU] 26 ∧ (∀ i : Nat, w'.cell? ⟨bU, i, none⟩ = (#[.int .i64 s2, .int .i64 p2, .int .i64 g2, .int .i64 l2, .int .i64 c2, .int .i64 n2, .slice aU mU qU] : Array Value)[i]?)) ∧ (Blk w' (bV) #[.int .i64 s2, .int .i64 p2, .int .i64 g2, .int .i64 l2, .int .i64 c2, .int .i64 n2, .slice aV mU qV] 26 ∧ (∀ i : Nat, w'.cell? ⟨bV, i, none⟩ = (#[.int .i64 s2, .int .i64 p2, .int .i64 g2, .int .i64 l2, .int .i64 c2, .int .i64 n2, .slice aV mU qV] : Array Value)[i]?)) ∧ Below Wb6.heap.size Wb6 w')
      (((first | (apply holdV8; (focus assumption); intro p0 p1 p2 p3 p4 p5 p6 p7 pB) | skip); refine ⟨Blk.full ?_, Blk.full ?_, Blk.full ?_, Blk.full ?_, Blk.full ?_, Blk.full ?_, Blk.full ?_, Blk.full ?_, ?_⟩; all_goals (first | ((repeat' (first | (with_reducible assumption) | ((with_reducible refine Blk.new ?_); first | rfl | (simp; done)) | (with_reducible refine Blk.later (by assumption) ?_) | (with_reducible refine Blk.alloc ?_) | (with_reducible refine Blk.drewN ?_) | (with_reducible refine Blk.drew ?_) | (with_reducible refine Blk.other ?_ (by first | omega | (simp; done) | (simp; omega))))); done) | ((repeat' (first | (with_reducible exact Below.refl _ _) | (with_reducible assumption) | (with_reducible refine belowThru ?_ (by assumption)) | (with_reducible refine belowAlloc ?_) | (with_reducible refine Below.setCell ?_ (by first | omega | (simp; done) | (simp; omega)) _) | (with_reducible refine Below.drew ?_) | (with_reducible refine below_drewN ?_ _))); done) | exact Below.refl _ _)))
      (first
        | (go_at_call 14; (with_reducible refine (C1.out _ _ _ HcO.out ((HRo.out.later HP.out).later (by (repeat' (first | (with_reducible exact Below.refl _ _) | (with_reducible assumption) | (with_reducible refine belowThru ?_ (by assumption)) | (with_reducible refine belowAlloc ?_) | (with_reducible refine Below.setCell ?_ (by first | omega | (simp; done) | (simp; omega)) _) | (with_reducible refine Below.drew ?_) | (with_reducible refine below_drewN ?_ _)))))).mono ?_); rintro e w1 ⟨rfl, hb⟩)
        | (go_at_call 15; (with_reducible refine (C2.out _ _ _ HCap.out ((HRt.out.later HP.out).later (by (repeat' (first | (with_reducible exact Below.refl _ _) | (with_reducible assumption) | (with_reducible refine belowThru ?_ (by assumption)) | (with_reducible refine belowAlloc ?_) | (with_reducible refine Below.setCell ?_ (by first | omega | (simp; done) | (simp; omega)) _) | (with_reducible refine Below.drew ?_) | (with_reducible refine below_drewN ?_ _)))))).mono ?_); rintro e w1 ⟨rfl, hb⟩)
        | (go_at_call 16; (with_reducible refine (same_eq s0 p0 g0 l0 0 0 none none 0 0 0 [] (by decide) _ (RowK.nil _ _) (RowK.nil _ _)).mono ?_); rintro e w1 ⟨rfl, hb⟩)
        | (go_at_call 16; (with_reducible refine (same_eq s1 p1 g1 l1 c1 n1 aX aY mX qX qY X (Nat.le_trans hX2.out (by decide)) _ (hx1.out.later (by (repeat' (first | (with_reducible exact Below.refl _ _) | (with_reducible assumption) | (with_reducible refine belowThru ?_ (by assumption)) | (with_reducible refine belowAlloc ?_) | (with_reducible refine Below.setCell ?_ (by first | omega | (simp; done) | (simp; omega)) _) | (with_reducible refine Below.drew ?_) | (with_reducible refine below_drewN ?_ _))))) (hy1.out.later (by (repeat' (first | (with_reducible exact Below.refl _ _) | (with_reducible assumption) | (with_reducible refine belowThru ?_ (by assumption)) | (with_reducible refine belowAlloc ?_) | (with_reducible refine Below.setCell ?_ (by first | omega | (simp; done) | (simp; omega)) _) | (with_reducible refine Below.drew ?_) | (with_reducible refine below_drewN ?_ _)))))).mono ?_); rintro e w1 ⟨rfl, hb⟩)
        | (go_at_call 16; (with_reducible refine (same_eq s2 p2 g2 l2 c2 n2 aU aV mU qU qV U (Nat.le_trans hU2.out (by decide)) _ (hu1.out.later (by (repeat' (first | (with_reducible exact Below.refl _ _) | (with_reducible assumption) | (with_reducible refine belowThru ?_ (by assumption)) | (with_reducible refine belowAlloc ?_) | (with_reducible refine Below.setCell ?_ (by first | omega | (simp; done) | (simp; omega)) _) | (with_reducible refine Below.drew ?_) | (with_reducible refine below_drewN ?_ _))))) (hv1.out.later (by (repeat' (first | (with_reducible exact Below.refl _ _) | (with_reducible assumption) | (with_reducible refine belowThru ?_ (by assumption)) | (with_reducible refine belowAlloc ?_) | (with_reducible refine Below.setCell ?_ (by first | omega | (simp; done) | (simp; omega)) _) | (with_reducible refine Below.drew ?_) | (with_reducible refine below_drewN ?_ _)))))).mono ?_); rintro e w1 ⟨rfl, hb⟩))
    all_goals
      apply holdV8; (focus assumption); intro p0 p1 p2 p3 p4 p5 p6 p7 pB
      go_wp2_with fail
      go_meet
      case rel => exact ⟨rfl, p0, p1, p4, p6, pB⟩
  case rest =>
    clear k3 k7 kbA kbB kbX kbY kbU kbV y3_ y7_ ybA_ ybB_ ybX_ ybY_ ybU_ ybV_ hx1 hy1 hu1 hv1
    obtain ⟨rfl, k3, k7, kX, kU, hP⟩ := hcut
    obtain ⟨W2, rfl⟩ : ∃ z, z = wc := ⟨_, rfl⟩
    replace hX := Lib.hid (⟨X, hX3.out, hX.out.later hP⟩ : OwnN Wo.heap.size W2 aX mX qX)
    replace hU := Lib.hid (⟨U, hU3.out, hU.out.later hP⟩ : OwnN Wo.heap.size W2 aU mU qU)
    replace HB := belowThru HB hP
    clear hP k3 k7 HP
    obtain ⟨a1, b1⟩ := kX.read; have y1 := kX.lt
    go_wp2_with fail
    clear a1 b1 y1
    go_loopw [112] (fun v wr => ∃ k : Nat, k ≤ mX ∧ v = .int .i64 k ∧ Blk wr bX #[.int .i64 s1, .int .i64 p1, .int .i64 g1, .int .i64 l1, .int .i64 c1, .int .i64 n1, .slice aX mX qX] 26 ∧ Blk wr bU #[.int .i64 s2, .int .i64 p2, .int .i64 g2, .int .i64 l2, .int .i64 c2, .int .i64 n2, .slice aU mU qU] 26 ∧ Hid (OwnN Wo.heap.size wr aX mX qX) ∧ Hid (OwnN Wo.heap.size wr aU mU qU) ∧ Below Wo.heap.size Wo wr) (fun v _ => mX - (intOf v).toNat)
    case atStart => exact ⟨0, Nat.zero_le _, rfl, kX, kU, hX, hU, HB⟩
    case round =>
      clear kX kU hX hU HB
      obtain ⟨k, hk, rfl, kX, kU, hX, hU, HB⟩ := hrel
      by_cases hlt : k < mX
      · obtain ⟨zs, hz, hO⟩ := hX.out
        have h0 := hO.at0 elem_sn (by rw [hz]; omega)
        obtain ⟨gx, cx, ev, hg2, -, -, hg3, hg4⟩ := h0
        rw [hz] at ev
        cases ev
        obtain ⟨⟨q1, q2, q3, q4⟩, hxk⟩ : ∃ x, zs[k]? = some x := ⟨zs[k]'(by omega), List.getElem?_eq_getElem _⟩
        have d1 := hO.cellsAt elem_sn hxk (i := 1) rfl
        have hn1 := Lib.hid (fun (b : Nat) (c : Array Value) (h : Blk wr b c 26) => hO.ne h (by decide))
        have p0 : (0 : Int) ≤ (k : Int) := by omega
        have p1 : (k : Int) < (mX : Int) := by omega
        have p2 : (k : Int) ≤ 51 := by have := hX2.out; omega
        clear hO hxk hz
        obtain ⟨a1, b1⟩ := kX.read; have y1 := kX.lt
        go_wp2_with fail
        go_roundw
        case rel => exact ⟨k + 1, hlt, by go_num, kX.other (by intro e; exact hn1.out _ _ kX (by simp only [Value.ownBlock]; rw [e])), kU.other (by intro e; exact hn1.out _ _ kU (by simp only [Value.ownBlock]; rw [e])), Lib.hid (hX.out.set hlt (by decide) (fun x => ⟨(x.1, -7, x.2.2.1, x.2.2.2), rfl⟩)), Lib.hid (hU.out.other (hXU.out gx rfl)), HB.setCell hg2 _⟩
        case measure => simp [intOf]; omega
      · obtain rfl : k = mX := by omega
        obtain ⟨W9, rfl⟩ : ∃ z, z = wr := ⟨_, rfl⟩
        obtain ⟨a1, b1⟩ := kX.read; obtain ⟨a2, b2⟩ := kU.read; have y1 := kX.lt; have y2 := kU.lt
        go_wp2_with fail
        clear a1 b1 a2 b2 y1 y2 kX hX hlt hk
        go_loopw [124] (fun v wr => ∃ k : Nat, k ≤ mU ∧ v = .int .i64 k ∧ Blk wr bU #[.int .i64 s2, .int .i64 p2, .int .i64 g2, .int .i64 l2, .int .i64 c2, .int .i64 n2, .slice aU mU qU] 26 ∧ Hid (OwnN Wo.heap.size wr aU mU qU) ∧ Below Wo.heap.size Wo wr) (fun v _ => mU - (intOf v).toNat)
        case atStart => exact ⟨0, Nat.zero_le _, rfl, kU, hU, HB⟩
        case round =>
          clear kU hU HB
          obtain ⟨k, hk, rfl, kU, hU, HB⟩ := hrel
          by_cases hlt : k < mU
          · obtain ⟨zs, hz, hO⟩ := hU.out
            have h0 := hO.at0 elem_sn (by rw [hz]; omega)
            obtain ⟨gx, cx, ev, hg2, -, -, hg3, hg4⟩ := h0
            rw [hz] at ev
            cases ev
            obtain ⟨⟨q1, q2, q3, q4⟩, hxk⟩ : ∃ x, zs[k]? = some x := ⟨zs[k]'(by omega), List.getElem?_eq_getElem _⟩
            have d1 := hO.cellsAt elem_sn hxk (i := 1) rfl
            have hn1 := Lib.hid (fun (b : Nat) (c : Array Value) (h : Blk wr b c 26) => hO.ne h (by decide))
            have p0 : (0 : Int) ≤ (k : Int) := by omega
            have p1 : (k : Int) < (mU : Int) := by omega
            have p2 : (k : Int) ≤ 51 := by have := hU2.out; omega
            clear hO hxk hz
            obtain ⟨a1, b1⟩ := kU.read; have y1 := kU.lt
            go_wp2_with fail
            go_roundw
            case rel => exact ⟨k + 1, hlt, by go_num, kU.other (by intro e; exact hn1.out _ _ kU (by simp only [Value.ownBlock]; rw [e])), Lib.hid (hU.out.set hlt (by decide) (fun x => ⟨(x.1, -7, x.2.2.1, x.2.2.2), rfl⟩)), HB.setCell hg2 _⟩
            case measure => simp [intOf]; omega
          · obtain rfl : k = mU := by omega
            clear hlt hk hU
            have k3 : Blk wr bT #[.int .i64 s, .int .i64 p, .int .i64 g, .int .i64 l, .int .i64 c, .int .i64 nx, .slice a n cap] 26 := Blk.later HB K3.out
            have k7 : Blk wr bO #[.int .i64 s, .int .i64 p, .int .i64 g, .int .i64 l, .int .i64 c, .int .i64 nx, .slice aO n cO] 26 := Blk.later HB K7.out
            obtain ⟨a1, b1⟩ := k3.read; obtain ⟨a2, b2⟩ := k7.read; have y1 := k3.lt; have y2 := k7.lt
            obtain ⟨a4, b4⟩ := kU.read; have y4 := kU.lt
            go_wp2_with fail
            refine (same_eq s p g l c nx aO a n cO cap xs (Nat.le_trans HN.out (by decide)) _ (HRo.out.later HB) (HRt.out.later HB)).mono ?_
            rintro e w8 ⟨rfl, hb⟩
            go_wp2_with fail
            go_ret
            exact ⟨rfl, (HBT.out.trans ((belowThru HB hb).mono hBs.out))⟩
theorem tracks_true (s p g l c nx : Int) (a : Option Addr) (n cap : Nat) (id vd : Int) (xs : List Sn) (hcap : n ≤ cap) (hn : n ≤ maxLen) (w : World) (hR : RowK 4 sn1 w a n xs) :
    Calls Try.prog 3 #[.agg #[.int .i64 s, .int .i64 p, .int .i64 g, .int .i64 l, .int .i64 c, .int .i64 nx, .slice a n cap], .int .i64 id, .int .u8 vd] w fun e w' => e = .returned (.bool true) ∧ Below w.heap.size w w' := by
  by_cases h50 : n ≤ 50
  · have hl := hR.1
    have hX : (tl (senE s p g l c nx xs) (xs ++ [(nx, c, (0 : Int), false)])).length ≤ 51 := by unfold tl; split <;> simp <;> omega
    have hU : (tl (telE s p g l c nx xs id vd) (telY xs id vd)).length ≤ 51 := by
      have e : (telY xs id vd).length = xs.length := by
        unfold telY
        split
        · rfl
        · split
          · rfl
          · rw [List.length_set]
      unfold tl; split
      · omega
      · simp
    exact tracks_walk s p g l c nx a n cap id vd _ _ _ _ _ _ _ _ _ _ _ _ _ _ _ _ _ _ _ _ _ xs _ _ hcap h50 hX hU w hR
      (fun a cap w hR => rtwin_any s p g l c nx a n cap xs (by omega) w hR) (fun w => new_u s p g l w) (fun w => rnew_u s p g l w)
      (fun a cap w hc hR => sense_u s p g l c nx a n cap xs hc hn w hR) (fun a cap w hc hR => rsense_u s p g l c nx a n cap xs hc hn w hR)
      (fun a cap w hc hR => tell_u s p g l c nx a n cap id vd xs hn w hR) (fun a cap w hc hR => rtell_u s p g l c nx a n cap id vd xs hn w hR)
      (fun a cap w hc hR => HCt s p g l c nx a n cap xs hn _ rfl w hR) (fun a cap w hc hR => rckT_any s p g l c nx a n cap xs hn w hR)
  · exact tracks_long s p g l c nx a n cap id vd w (decide_eq_true (by omega))
end Go.Proofs.Ytnkpejinnbiocaa
