/-
  The law BeltAdvances.
-/
import Derived.Test.YtnkpejinnbiocaaVRAv
import Derived.Test.YtnkpejinnbiocaaVSme
namespace Go.Proofs.Ytnkpejinnbiocaa
open Go.RowKit Go.Shelf
set_option linter.unusedVariables false
set_option linter.unusedSimpArgs false

/-- A slice of one's own of some length. -/
def OwnN (B : Nat) (w : World) (a : Option Addr) (n cap : Nat) : Prop := ∃ zs : List Sn, zs.length = n ∧ OwnK 43 4 sn1 B w (.slice a n cap) zs
theorem OwnN.set {B : Nat} {w : World} {g n cap j i : Nat} {u : Value} (h : OwnN B w (some ⟨g, 0, none⟩) n cap) (hj : j < n) (hi : i < 4) (hu : ∀ x : Sn, ∃ y : Sn, (sn1 x).set i u = sn1 y) : OwnN B (w.setCell ⟨g, j * 4 + i, none⟩ u) (some ⟨g, 0, none⟩) n cap := by
  obtain ⟨zs, hz, hO⟩ := h
  obtain ⟨x, hx⟩ : ∃ x, zs[j]? = some x := ⟨zs[j]'(by omega), List.getElem?_eq_getElem _⟩
  obtain ⟨y, hy⟩ := hu x
  exact ⟨zs.set j y, by rw [List.length_set, hz], hO.set elem_sn hz hx hi hy⟩
set_option maxRecDepth 100000 in
set_option maxHeartbeats 16000000 in
theorem advances_long (s p g l c nx : Int) (a : Option Addr) (n cap : Nat) (m : Int) (w : World) (d0 : decide ((50 : Int) < n) = true) :
    Calls Try.prog 4 #[.agg #[.int .i64 s, .int .i64 p, .int .i64 g, .int .i64 l, .int .i64 c, .int .i64 nx, .slice a n cap], .int .i64 m] w fun e w' => e = .returned (.bool true) ∧ Below w.heap.size w w' := by
  go_enter Try.func4, Try.ntmps4
  go_wp2_with fail
  go_ret
  exact ⟨rfl, by (repeat' (first | (with_reducible exact Below.refl _ _) | (with_reducible assumption) | (with_reducible refine belowThru ?_ (by assumption)) | (with_reducible refine belowAlloc ?_) | (with_reducible refine Below.setCell ?_ (by first | omega | (simp; done) | (simp; omega)) _) | (with_reducible refine Below.drew ?_) | (with_reducible refine below_drewN ?_ _)))⟩
set_option maxRecDepth 100000 in
set_option maxHeartbeats 16000000 in
theorem advances_walk (s p g l c nx : Int) (a : Option Addr) (n cap : Nat) (m s1 p1 g1 l1 c1 n1 E0 E1 : Int) (O : Bool) (xs X : List Sn) (K : List Ft) (hcap : n ≤ cap) (hn : n ≤ 50) (hX : X.length ≤ 51) (hK : K.length ≤ 51) (w : World) (hR : RowK 4 sn1 w a n xs)
    (HT : Hid (∀ (a : Option Addr) (cap : Nat) (w : World), RowK 4 sn1 w a n xs → Calls Try.prog 7 #[.agg #[.int .i64 s, .int .i64 p, .int .i64 g, .int .i64 l, .int .i64 c, .int .i64 nx, .slice a n cap]] w fun e w' => (∃ v, e = .returned (.agg #[.int .i64 s, .int .i64 p, .int .i64 g, .int .i64 l, .int .i64 c, .int .i64 nx, v]) ∧ OwnK 43 4 sn1 w.heap.size w' v xs) ∧ Below w.heap.size w w'))
    (O1 : Hid (∀ (a : Option Addr) (cap : Nat) (w : World), RowK 4 sn1 w a n xs → Calls Try.prog 17 #[.agg #[.int .i64 s, .int .i64 p, .int .i64 g, .int .i64 l, .int .i64 c, .int .i64 nx, .slice a n cap]] w fun e w' => e = .returned (.tuple #[.bool O, .int .i64 E0]) ∧ Below w.heap.size w w'))
    (O2 : Hid (∀ (a : Option Addr) (cap : Nat) (w : World), RowK 4 sn1 w a n xs → Calls Try.prog 18 #[.agg #[.int .i64 s, .int .i64 p, .int .i64 g, .int .i64 l, .int .i64 c, .int .i64 nx, .slice a n cap]] w fun e w' => e = .returned (.tuple #[.bool O, .int .i64 E0]) ∧ Below w.heap.size w w'))
    (A1 : Hid (∀ (a : Option Addr) (cap : Nat) (w : World), RowK 4 sn1 w a n xs → Calls Try.prog 19 #[.agg #[.int .i64 s, .int .i64 p, .int .i64 g, .int .i64 l, .int .i64 c, .int .i64 nx, .slice a n cap], .int .i64 m] w fun e w' => (∃ v u, e = .returned (.tuple #[.agg #[.int .i64 s1, .int .i64 p1, .int .i64 g1, .int .i64 l1, .int .i64 c1, .int .i64 n1, v], u, .int .i64 E1]) ∧ OwnK 43 4 sn1 w.heap.size w' v X ∧ OwnK 74 3 ft1 w.heap.size w' u K) ∧ Below w.heap.size w w'))
    (A2 : Hid (∀ (a : Option Addr) (cap : Nat) (w : World), RowK 4 sn1 w a n xs → Calls Try.prog 20 #[.agg #[.int .i64 s, .int .i64 p, .int .i64 g, .int .i64 l, .int .i64 c, .int .i64 nx, .slice a n cap], .int .i64 m] w fun e w' => (∃ v u, e = .returned (.tuple #[.agg #[.int .i64 s1, .int .i64 p1, .int .i64 g1, .int .i64 l1, .int .i64 c1, .int .i64 n1, v], u, .int .i64 E1]) ∧ OwnK 43 4 sn1 w.heap.size w' v X ∧ OwnK 74 3 ft1 w.heap.size w' u K) ∧ Below w.heap.size w w')) :
    Calls Try.prog 4 #[.agg #[.int .i64 s, .int .i64 p, .int .i64 g, .int .i64 l, .int .i64 c, .int .i64 nx, .slice a n cap], .int .i64 m] w fun e w' => e = .returned (.bool true) ∧ Below w.heap.size w w' := by
  have HR := Lib.hid hR
  have HN := Lib.hid hn; have HX := Lib.hid hX; have HK := Lib.hid hK
  have d0 : decide ((50 : Int) < n) = false := decide_eq_false (by omega)
  have z0 : (E0 == E0) = true := by simp
  have z1 : (E1 == E1) = true := by simp
  have z2 : (O == O) = true := by simp
  clear hR hn hcap hX hK
  go_enter Try.func4, Try.ntmps4
  go_wp2_with fail
  have k3 : Blk (w.alloc (.cells #[.int .i64 s, .int .i64 p, .int .i64 g, .int .i64 l, .int .i64 c, .int .i64 nx, .slice a n cap] 26)) w.heap.size #[.int .i64 s, .int .i64 p, .int .i64 g, .int .i64 l, .int .i64 c, .int .i64 nx, .slice a n cap] 26 := Blk.new rfl
  have hB : Below w.heap.size w (w.alloc (.cells #[.int .i64 s, .int .i64 p, .int .i64 g, .int .i64 l, .int .i64 c, .int .i64 nx, .slice a n cap] 26)) := belowAlloc (Below.refl _ _)
  refine (HT.out _ _ _ (HR.out.later hB)).mono ?_
  rintro e w1 ⟨⟨vO, rfl, hO⟩, hb⟩
  replace k3 := Blk.later hb k3; replace hB := belowThru hB hb
  clear hb HT
  obtain ⟨aO, cO, ev, -, -, -⟩ := hO.row elem_sn
  rw [HR.out.1] at ev
  subst ev
  go_upto_region 4 with fail
  obtain ⟨Wo, hWo⟩ : ∃ W, w1.alloc (.cells #[.int .i64 s, .int .i64 p, .int .i64 g, .int .i64 l, .int .i64 c, .int .i64 nx, .slice aO n cO] 26) = W := ⟨_, rfl⟩
  have k7 : Blk Wo w1.heap.size #[.int .i64 s, .int .i64 p, .int .i64 g, .int .i64 l, .int .i64 c, .int .i64 nx, .slice aO n cO] 26 := by rw [← hWo]; exact Blk.new rfl
  replace k3 : Blk Wo w.heap.size #[.int .i64 s, .int .i64 p, .int .i64 g, .int .i64 l, .int .i64 c, .int .i64 nx, .slice a n cap] 26 := by rw [← hWo]; exact k3.alloc
  replace hB : Below w.heap.size w Wo := by rw [← hWo]; exact belowAlloc hB
  have HRt : Hid (RowK 4 sn1 Wo a n xs) := HR.out.later hB
  have HRo : Hid (RowK 4 sn1 Wo aO n xs) := by rw [← hWo]; exact rowOfS' hO.alloc
  obtain ⟨bO, hbO⟩ : ∃ b, w1.heap.size = b := ⟨_, rfl⟩
  obtain ⟨bT, hbT⟩ : ∃ b, w.heap.size = b := ⟨_, rfl⟩
  rw [hWo]
  rw [hbO] at k7 ⊢
  have HBT : Hid (Below w.heap.size w Wo) := hB
  have hBs := Lib.hid hB.size
  rw [hbT] at k3 ⊢
  have K3 := Lib.hid k3; have K7 := Lib.hid k7
  clear hWo hbO hB hO HR
  obtain ⟨a7, b7⟩ := k7.read; have y7 := k7.lt
  go_wp2_with fail
  refine (O1.out _ _ _ HRo.out).mono ?_
  rintro e w2 ⟨rfl, HB⟩
  clear a7 b7 y7 k3 k7
  obtain ⟨a3, b3⟩ := (Blk.later HB K3.out).read; have y3 := (Blk.later HB K3.out).lt
  go_wp2_with fail
  refine (O2.out _ _ _ (HRt.out.later HB)).mono ?_
  rintro e w3 ⟨rfl, hb⟩
  replace HB := belowThru HB hb
  clear a3 b3 y3 hb
  obtain ⟨a7, b7⟩ := (Blk.later HB K7.out).read; have y7 := (Blk.later HB K7.out).lt
  go_wp2_with fail
  refine (A1.out _ _ _ (HRo.out.later HB)).mono ?_
  rintro e w4 ⟨⟨vX, uX, rfl, hX, hL⟩, hb⟩
  have hm1 := HB.size
  replace hX := Lib.hid (hX.mono hm1); replace hL := Lib.hid (hL.mono hm1)
  replace HB := belowThru HB hb
  clear a7 b7 y7 hb hm1
  obtain ⟨aX, qX, ev, -⟩ := hX.out.row elem_sn
  obtain ⟨mX, hmX⟩ : ∃ k, X.length = k := ⟨_, rfl⟩
  rw [hmX] at ev
  subst ev
  obtain ⟨aL, qL, ev, -⟩ := hL.out.row elem_ft
  obtain ⟨mL, hmL⟩ : ∃ k, K.length = k := ⟨_, rfl⟩
  rw [hmL] at ev
  subst ev
  have hmX' := Lib.hid hmX; have hmL' := Lib.hid hmL
  clear hmX hmL
  go_upto_region 7 with fail
  obtain ⟨W5, hW⟩ : ∃ W, w4.alloc (.cells #[.int .i64 s1, .int .i64 p1, .int .i64 g1, .int .i64 l1, .int .i64 c1, .int .i64 n1, .slice aX mX qX] 26) = W := ⟨_, rfl⟩
  obtain ⟨bX, hbx⟩ : ∃ b, w4.heap.size = b := ⟨_, rfl⟩
  have kX : Blk W5 bX #[.int .i64 s1, .int .i64 p1, .int .i64 g1, .int .i64 l1, .int .i64 c1, .int .i64 n1, .slice aX mX qX] 26 := by rw [← hW, ← hbx]; exact Blk.new rfl
  replace hX := Lib.hid (show OwnK 43 4 sn1 Wo.heap.size W5 (.slice aX mX qX) X by rw [← hW]; exact hX.out.alloc)
  replace hL := Lib.hid (show OwnK 74 3 ft1 Wo.heap.size W5 (.slice aL mL qL) K by rw [← hW]; exact hL.out.alloc)
  replace HB : Below Wo.heap.size Wo W5 := by rw [← hW]; exact belowAlloc HB
  rw [hW, hbx]
  clear hW hbx
  obtain ⟨a3, b3⟩ := (Blk.later HB K3.out).read; have y3 := (Blk.later HB K3.out).lt
  go_wp2_with fail
  refine (A2.out _ _ _ (HRt.out.later HB)).mono ?_
  rintro e w6 ⟨⟨vY, uY, rfl, hY, hM⟩, hb⟩
  have hm1 := HB.size
  replace kX := Blk.later hb kX
  replace hX := Lib.hid (hX.out.later hb); replace hL := Lib.hid (hL.out.later hb)
  replace HB := belowThru HB hb
  clear a3 b3 y3 hb hm1
  obtain ⟨aY, qY, ev, -⟩ := hY.row elem_sn
  rw [hmX'.out] at ev
  subst ev
  obtain ⟨aM, qM, ev, -⟩ := hM.row elem_ft
  rw [hmL'.out] at ev
  subst ev
  go_upto_region 8 with fail
  obtain ⟨W7, hW⟩ : ∃ W, w6.alloc (.cells #[.int .i64 s1, .int .i64 p1, .int .i64 g1, .int .i64 l1, .int .i64 c1, .int .i64 n1, .slice aY mX qY] 26) = W := ⟨_, rfl⟩
  obtain ⟨bY, hbx⟩ : ∃ b, w6.heap.size = b := ⟨_, rfl⟩
  have kY : Blk W7 bY #[.int .i64 s1, .int .i64 p1, .int .i64 g1, .int .i64 l1, .int .i64 c1, .int .i64 n1, .slice aY mX qY] 26 := by rw [← hW, ← hbx]; exact Blk.new rfl
  replace kX : Blk W7 bX #[.int .i64 s1, .int .i64 p1, .int .i64 g1, .int .i64 l1, .int .i64 c1, .int .i64 n1, .slice aX mX qX] 26 := by rw [← hW]; exact kX.alloc
  replace hX := Lib.hid (show OwnK 43 4 sn1 Wo.heap.size W7 (.slice aX mX qX) X by rw [← hW]; exact hX.out.alloc)
  have rL := Lib.hid (show RowK 3 ft1 W7 aL mL K by rw [← hW]; exact rowOfF' hL.out.alloc)
  have rY := Lib.hid (show RowK 4 sn1 W7 aY mX X by rw [← hW]; exact rowOfS' hY.alloc)
  have rM := Lib.hid (show RowK 3 ft1 W7 aM mL K by rw [← hW]; exact rowOfF' hM.alloc)
  replace HB : Below Wo.heap.size Wo W7 := by rw [← hW]; exact belowAlloc HB
  rw [hW, hbx]
  clear hW hbx hL hY hM
  have hX2 : Hid (mX ≤ 51) := by have := HX.out; have := hmX'.out; show mX ≤ 51; omega
  have hL2 : Hid (mL ≤ 51) := by have := HK.out; have := hmL'.out; show mL ≤ 51; omega
  obtain ⟨a1, b1⟩ := kX.read; have y1 := kX.lt; obtain ⟨a2, b2⟩ := kY.read; have y2 := kY.lt
  go_wp2_with fail
  refine (same_eq s1 p1 g1 l1 c1 n1 aX aY mX qX qY X (Nat.le_trans hX2.out (by decide)) _ (rowOfS' hX.out) rY.out).mono ?_
  rintro e w8 ⟨rfl, hb⟩
  replace kX := Blk.later hb kX
  replace hX := Lib.hid (hX.out.later hb)
  replace rL := Lib.hid (rL.out.later hb); replace rM := Lib.hid (rM.out.later hb)
  replace HB := belowThru HB hb
  clear a1 b1 y1 a2 b2 y2 hb rY kY
  go_wp2_with fail
  refine (sameFates_eq aL aM mL qL qM K (Nat.le_trans hL2.out (by decide)) _ rL.out rM.out).mono ?_
  rintro e w9 ⟨rfl, hb⟩
  replace kX := Blk.later hb kX
  replace hX := Lib.hid (⟨X, hmX'.out, hX.out.later hb⟩ : OwnN Wo.heap.size w9 aX mX qX)
  replace HB := belowThru HB hb
  clear hb rL rM
  obtain ⟨a1, b1⟩ := kX.read; have y1 := kX.lt
  go_wp2_with fail
  clear a1 b1 y1
  go_loopw [74] (fun v wr => ∃ k : Nat, k ≤ mX ∧ v = .int .i64 k ∧ Blk wr bX #[.int .i64 s1, .int .i64 p1, .int .i64 g1, .int .i64 l1, .int .i64 c1, .int .i64 n1, .slice aX mX qX] 26 ∧ Hid (OwnN Wo.heap.size wr aX mX qX) ∧ Below Wo.heap.size Wo wr) (fun v _ => mX - (intOf v).toNat)
  case atStart => exact ⟨0, Nat.zero_le _, rfl, kX, hX, HB⟩
  case round =>
    clear kX hX HB
    obtain ⟨k, hk, rfl, kX, hX, HB⟩ := hrel
    by_cases hlt : k < mX
    · obtain ⟨zs, hz, hO⟩ := hX.out
      have h0 := hO.at0 elem_sn (by rw [hz]; omega)
      obtain ⟨gx, cx, ev, hg2, -, -, hg3, hg4⟩ := h0
      rw [hz] at ev
      cases ev
      obtain ⟨⟨q1, q2, q3, q4⟩, hxk⟩ : ∃ x, zs[k]? = some x := ⟨zs[k]'(by omega), List.getElem?_eq_getElem _⟩
      have d1 := hO.cellsAt elem_sn hxk (i := 1) rfl
      have hn1 := Lib.hid (fun (b : Nat) (c : Array Value) (h : Blk wr b c 26) => hO.ne h (by decide))
      have p0 : (0 : Int) ≤ (k : Int) := by omega
      have p1 : (k : Int) < (mX : Int) := by omega
      have p2 : (k : Int) ≤ 51 := by have := hX2.out; omega
      clear hO hxk hz
      obtain ⟨a1, b1⟩ := kX.read; have y1 := kX.lt
      go_wp2_with fail
      go_roundw
      case rel => exact ⟨k + 1, hlt, by go_num, kX.other (by intro e; exact hn1.out _ _ kX (by simp only [Value.ownBlock]; rw [e])), Lib.hid (hX.out.set hlt (by decide) (fun x => ⟨(x.1, -7, x.2.2.1, x.2.2.2), rfl⟩)), HB.setCell hg2 _⟩
      case measure => simp [intOf]; omega
    · obtain rfl : k = mX := by omega
      clear hlt hk hX
      have k3 : Blk wr bT #[.int .i64 s, .int .i64 p, .int .i64 g, .int .i64 l, .int .i64 c, .int .i64 nx, .slice a n cap] 26 := Blk.later HB K3.out
      have k7 : Blk wr bO #[.int .i64 s, .int .i64 p, .int .i64 g, .int .i64 l, .int .i64 c, .int .i64 nx, .slice aO n cO] 26 := Blk.later HB K7.out
      obtain ⟨a1, b1⟩ := k3.read; obtain ⟨a2, b2⟩ := k7.read; have y1 := k3.lt; have y2 := k7.lt
      obtain ⟨a4, b4⟩ := kX.read; have y4 := kX.lt
      go_wp2_with fail
      refine (same_eq s p g l c nx aO a n cO cap xs (Nat.le_trans HN.out (by decide)) _ (HRo.out.later HB) (HRt.out.later HB)).mono ?_
      rintro e wz ⟨rfl, hb⟩
      go_wp2_with fail
      go_ret
      exact ⟨rfl, (HBT.out.trans ((belowThru HB hb).mono hBs.out))⟩
theorem advances_true (s p g l c nx : Int) (a : Option Addr) (n cap : Nat) (m : Int) (xs : List Sn) (hcap : n ≤ cap) (hn : n ≤ maxLen) (w : World) (hR : RowK 4 sn1 w a n xs) :
    Calls Try.prog 4 #[.agg #[.int .i64 s, .int .i64 p, .int .i64 g, .int .i64 l, .int .i64 c, .int .i64 nx, .slice a n cap], .int .i64 m] w fun e w' => e = .returned (.bool true) ∧ Below w.heap.size w w' := by
  by_cases h50 : n ≤ 50
  · have hl := hR.1
    have hlen := adB_length (fiB s p g) (laB s p l g) m.toNat c xs
    have hX : (tl (advE s p g l c nx xs m) (adL s p g l c m xs)).length ≤ 51 := by
      unfold tl adL; split
      · omega
      · simp
    have hK : (tl (advE s p g l c nx xs m) (adF s p g l c m xs)).length ≤ 51 := by
      unfold tl adF; split
      · omega
      · simp
    exact advances_walk s p g l c nx a n cap m _ _ _ _ _ _ _ _ _ xs _ _ hcap h50 hX hK w hR
      (fun a cap w hR => rtwin_any s p g l c nx a n cap xs (by omega) w hR)
      (fun a cap w hR => open_u s p g l c nx a n cap xs hn w hR) (fun a cap w hR => ropen_u s p g l c nx a n cap xs hn w hR)
      (fun a cap w hR => adv_u s p g l c nx a n cap m xs hn w hR) (fun a cap w hR => radv_u s p g l c nx a n cap m xs hn w hR)
  · exact advances_long s p g l c nx a n cap m w (decide_eq_true (by omega))
end Go.Proofs.Ytnkpejinnbiocaa
