/-
  The law BeltCatches.
-/
import Derived.Test.YtbcnoklaaigclaaVCaB
import Derived.Test.YtbcnoklaaigclaaVCaG
namespace Go.Proofs.Ytbcnoklaaigclaa
open Go.RowKit Go.Shelf
set_option linter.unusedVariables false
set_option linter.unusedSimpArgs false


def ac1 (x : Int × Int × Int) : List Value := [.int .u8 x.1, .int .u8 x.2.1, .int .u8 x.2.2]
/-- An act at the true belt. -/
theorem act_any (s p g l c nx : Int) (am : Option Addr) (nm cm BW : Nat) (w0 : World) (us : List Int) (xs : List Sn) (ys : List Th) (ho : okT s p g l c nx xs) (hr : relL s p l c xs ys) (hc : c ≤ 90000) (hnx : nx ≤ 1000) (hnm : nm ≤ maxLen) (hu : ∀ u ∈ us, 0 ≤ u ∧ u ≤ 255) (hR : RowK 1 u81 w0 am nm us) (kd N vd : Int) (hkd : 0 ≤ kd ∧ kd ≤ 255) (hN : 0 ≤ N ∧ N ≤ 255) (hvd : 0 ≤ vd ∧ vd ≤ 255) (w : World) (hS : StW s p g l am nm cm BW w0 c nx xs ys w) :
    Calls Try.prog 48 #[.pointer (some ⟨BW, 0, none⟩), .agg #[.int .u8 kd, .int .u8 N, .int .u8 vd]] w fun e w' => e = .returned (.bool true) ∧ ∃ c' nx' xs' ys', (c' ≤ c + 20 ∧ nx' ≤ nx + 1) ∧ okT s p g l c' nx' xs' ∧ relL s p l c' xs' ys' ∧ StW s p g l am nm cm BW w0 c' nx' xs' ys' w' := by
  have hk3 : kd.tmod 3 = 0 ∨ kd.tmod 3 = 1 ∨ kd.tmod 3 = 2 := by
    rw [Int.tmod_eq_emod_of_nonneg hkd.1]; omega
  rcases hk3 with hk | hk | hk
  · exact act_zero s p g l c nx am nm cm BW w0 us xs ys ho hr hc hnx hnm hu hR kd N vd hkd hN hvd hk w hS
  · exact act_one s p g l c nx am nm cm BW w0 us xs ys ho hr hc hnx hnm hu hR kd N vd hkd hN hvd hk w hS
  · by_cases hy : ys = []
    · exact act_two_none s p g l c nx am nm cm BW w0 us xs ys ho hr hc hnx hnm hu hR kd N vd hkd hN hvd hk hy w hS
    · have hpos : 0 < ys.length := List.length_pos_iff.2 hy
      obtain ⟨k, hkN⟩ : ∃ k : Nat, N.tmod (ys.length : Int) = (k : Int) := ⟨(N.tmod (ys.length : Int)).toNat, by
        rw [Int.tmod_eq_emod_of_nonneg hN.1]
        have h1 := Int.emod_nonneg N (show (ys.length : Int) ≠ 0 by omega)
        omega⟩
      have hkn : k < ys.length := by
        rw [Int.tmod_eq_emod_of_nonneg hN.1] at hkN
        have h2 := Int.emod_lt_of_pos N (show 0 < (ys.length : Int) by omega)
        omega
      have ex : xs[k]? = some (xs[k]'(by rw [hr.1]; exact hkn)) := List.getElem?_eq_getElem _
      have hV0 : 0 ≤ vd.tmod 3 ∧ vd.tmod 3 ≤ 2 := by rw [Int.tmod_eq_emod_of_nonneg hvd.1]; omega
      have hT := telE_ok (vd := vd.tmod 3 + 1) ho (by omega) (find_at ho.2.2.2.2 ex)
      rcases hT with hT | hT
      · exact act_two_ok s p g l c nx am nm cm BW w0 us xs ys ho hr hc hnx hnm hu hR kd N vd hkd hN hvd hk hpos k hkN _ rfl _ ex hT w hS
      · exact act_two_late s p g l c nx am nm cm BW w0 us xs ys ho hr hc hnx hnm hu hR kd N vd hkd hN hvd hk hpos k hkN _ rfl _ ex hT w hS
set_option maxRecDepth 100000 in
set_option maxHeartbeats 16000000 in
theorem catches_long (s p g l : Int) (a am : Option Addr) (n cap nm cm : Nat) (w : World) (d0 : decide ((60 : Int) < n) = true) :
    Calls Try.prog 10 #[.agg #[.int .i64 s, .int .i64 p, .int .i64 g, .int .i64 l], .slice a n cap, .slice am nm cm] w fun e w' => e = .returned (.bool true) ∧ Below w.heap.size w w' := by
  have HA := Lib.hid alive_true
  go_enter Try.func10, Try.ntmps10
  go_wp2_with fail
  refine (HA.out _).mono ?_
  rintro e w1 ⟨rfl, hb⟩
  have k0 : Blk w1 w.heap.size #[.int .i64 s, .int .i64 p, .int .i64 g, .int .i64 l] 26 := Blk.later hb (Blk.new rfl)
  have hB : Below w.heap.size w w1 := belowThru (belowAlloc (Below.refl _ _)) hb
  clear hb
  obtain ⟨a0, b0⟩ := k0.read; have y0 := k0.lt
  go_wp2_with fail
  go_ret
  exact ⟨rfl, by (repeat' (first | (with_reducible exact Below.refl _ _) | (with_reducible assumption) | (with_reducible refine belowThru ?_ (by assumption)) | (with_reducible refine belowAlloc ?_) | (with_reducible refine Below.setCell ?_ (by first | omega | (simp; done) | (simp; omega)) _) | (with_reducible refine Below.drew ?_) | (with_reducible refine below_drewN ?_ _)))⟩
set_option maxRecDepth 100000 in
set_option maxHeartbeats 16000000 in
theorem catches_bad (s p g l E : Int) (a am : Option Addr) (n cap nm cm : Nat) (w : World) (d0 : decide ((60 : Int) < n) = false) (hE : (E != 0) = true)
    (HN : Hid (∀ w, Calls Try.prog 35 #[.agg #[.int .i64 s, .int .i64 p, .int .i64 g, .int .i64 l]] w fun e w' => e = .returned (.tuple #[.agg #[.int .i64 0, .int .i64 0, .int .i64 0, .int .i64 0, .int .i64 0, .int .i64 0, .slice none 0 0], .int .i64 E]) ∧ Below w.heap.size w w')) :
    Calls Try.prog 10 #[.agg #[.int .i64 s, .int .i64 p, .int .i64 g, .int .i64 l], .slice a n cap, .slice am nm cm] w fun e w' => e = .returned (.bool true) ∧ Below w.heap.size w w' := by
  have HA := Lib.hid alive_true
  go_enter Try.func10, Try.ntmps10
  go_wp2_with fail
  refine (HA.out _).mono ?_
  rintro e w1 ⟨rfl, hb⟩
  have k0 : Blk w1 w.heap.size #[.int .i64 s, .int .i64 p, .int .i64 g, .int .i64 l] 26 := Blk.later hb (Blk.new rfl)
  have hB : Below w.heap.size w w1 := belowThru (belowAlloc (Below.refl _ _)) hb
  clear hb
  obtain ⟨a0, b0⟩ := k0.read; have y0 := k0.lt
  go_wp2_with fail
  refine (HN.out _).mono ?_
  rintro e w2 ⟨rfl, hb⟩
  have hB2 := belowThru hB hb
  clear hb hB a0 b0 y0 k0
  go_wp2_with fail
  go_ret
  exact ⟨rfl, by (repeat' (first | (with_reducible exact Below.refl _ _) | (with_reducible assumption) | (with_reducible refine belowThru ?_ (by assumption)) | (with_reducible refine belowAlloc ?_) | (with_reducible refine Below.setCell ?_ (by first | omega | (simp; done) | (simp; omega)) _) | (with_reducible refine Below.drew ?_) | (with_reducible refine below_drewN ?_ _)))⟩
set_option maxRecDepth 100000 in
set_option maxHeartbeats 16000000 in
theorem catches_yes (s p g l : Int) (a am : Option Addr) (n cap nm cm : Nat) (acts : List (Int × Int × Int)) (us : List Int) (h : okB s p g l) (hn : n ≤ 60) (hnm : nm ≤ maxLen) (hu : ∀ u ∈ us, 0 ≤ u ∧ u ≤ 255) (ha : ∀ x ∈ acts, (0 ≤ x.1 ∧ x.1 ≤ 255) ∧ (0 ≤ x.2.1 ∧ x.2.1 ≤ 255) ∧ (0 ≤ x.2.2 ∧ x.2.2 ≤ 255)) (w : World) (hR : RowK 3 ac1 w a n acts) (hM : RowK 1 u81 w am nm us) :
    Calls Try.prog 10 #[.agg #[.int .i64 s, .int .i64 p, .int .i64 g, .int .i64 l], .slice a n cap, .slice am nm cm] w fun e w' => e = .returned (.bool true) ∧ Below w.heap.size w w' := by
  have HA := Lib.hid alive_true
  have HN : Hid (∀ w, Calls Try.prog 35 #[.agg #[.int .i64 s, .int .i64 p, .int .i64 g, .int .i64 l]] w fun e w' => e = .returned (.tuple #[.agg #[.int .i64 s, .int .i64 p, .int .i64 g, .int .i64 l, .int .i64 0, .int .i64 0, .slice none 0 0], .int .i64 0]) ∧ Below w.heap.size w w') := fun w => new_yes s p g l w (HCk s p g l 0 (if_pos h))
  have HV := HRv s p g l true (decide_eq_true h)
  have d0 : decide ((60 : Int) < n) = false := decide_eq_false (by omega)
  have HR := Lib.hid hR; have HAc := Lib.hid ha
  have HI : Hid (∀ (BW : Nat) (wr : World), Blk wr BW #[.int .i64 s, .int .i64 p, .int .i64 g, .int .i64 l, .int .i64 0, .int .i64 0, .slice none 0 0, .slice none 0 0, .slice am nm cm, .int .i64 0, .int .i64 l] 89 → Below w.heap.size w wr → w.heap.size ≤ BW → ∃ c nx xs ys, c ≤ 20 * ((0 : Nat) : Int) ∧ nx ≤ ((0 : Nat) : Int) ∧ okT s p g l c nx xs ∧ relL s p l c xs ys ∧ StW s p g l am nm cm BW w c nx xs ys wr) := fun BW wr k hb hle =>
    ⟨0, 0, [], [], by omega, by omega, ⟨h, by omega, by omega, by simp, trivial⟩, ⟨rfl, fun i x y hx _ => by cases hx⟩, none, 0, none, 0, k, OwnK.nil _ _, OwnK.nil _ _, hb, hle⟩
  have HAct := Lib.hid (fun c nx xs ys ho hr hc hnx kd N vd hkd hN hvd BW w' hS => act_any s p g l c nx am nm cm BW w us xs ys ho hr hc hnx hnm hu hM kd N vd hkd hN hvd w' hS)
  clear hR ha hu hM hnm h
  go_enter Try.func10, Try.ntmps10
  go_wp2_with fail
  refine (HA.out _).mono ?_
  rintro e w1 ⟨rfl, hb⟩
  have k0 : Blk w1 w.heap.size #[.int .i64 s, .int .i64 p, .int .i64 g, .int .i64 l] 26 := Blk.later hb (Blk.new rfl)
  have hB : Below w.heap.size w w1 := belowThru (belowAlloc (Below.refl _ _)) hb
  clear hb
  obtain ⟨a0, b0⟩ := k0.read; have y0 := k0.lt
  go_wp2_with fail
  refine (HN.out _).mono ?_
  rintro e w2 ⟨rfl, hb⟩
  clear a0 b0 y0
  replace k0 := Blk.later hb k0; replace hB := belowThru hB hb
  clear hb
  obtain ⟨a0, b0⟩ := k0.read; have y0 := k0.lt
  go_wp2_with fail
  obtain ⟨W2, hW⟩ : ∃ W, w2.alloc (.cells #[.int .i64 s, .int .i64 p, .int .i64 g, .int .i64 l, .int .i64 0, .int .i64 0, .slice none 0 0] 36) = W := ⟨_, rfl⟩
  obtain ⟨BT, hBT⟩ : ∃ b, w2.heap.size = b := ⟨_, rfl⟩
  have kT : Blk W2 BT #[.int .i64 s, .int .i64 p, .int .i64 g, .int .i64 l, .int .i64 0, .int .i64 0, .slice none 0 0] 36 := by rw [← hW, ← hBT]; exact Blk.new rfl
  replace k0 := (k0.alloc : Blk (w2.alloc (.cells #[.int .i64 s, .int .i64 p, .int .i64 g, .int .i64 l, .int .i64 0, .int .i64 0, .slice none 0 0] 36)) _ _ _); rw [hW] at k0
  replace hB := (belowAlloc hB : Below _ _ (w2.alloc (.cells #[.int .i64 s, .int .i64 p, .int .i64 g, .int .i64 l, .int .i64 0, .int .i64 0, .slice none 0 0] 36))); rw [hW] at hB
  rw [hW, hBT]
  clear hW hBT a0 b0 y0
  refine (HV.out _).mono ?_
  rintro e w3 ⟨rfl, hb⟩
  replace k0 := Blk.later hb k0; replace kT := Blk.later hb kT; replace hB := belowThru hB hb
  clear hb
  obtain ⟨a0, b0⟩ := k0.read; have y0 := k0.lt
  obtain ⟨aT, bT⟩ := kT.read; have yT := kT.lt
  go_wp2_with fail
  obtain ⟨W4, hW⟩ : ∃ W, w3.alloc (.cells #[.int .i64 s, .int .i64 p, .int .i64 g, .int .i64 l, .int .i64 0, .int .i64 0, .slice none 0 0, .slice none 0 0, .slice am nm cm, .int .i64 0, .int .i64 l] 89) = W := ⟨_, rfl⟩
  obtain ⟨BW, hBW⟩ : ∃ b, w3.heap.size = b := ⟨_, rfl⟩
  have kW : Blk W4 BW #[.int .i64 s, .int .i64 p, .int .i64 g, .int .i64 l, .int .i64 0, .int .i64 0, .slice none 0 0, .slice none 0 0, .slice am nm cm, .int .i64 0, .int .i64 l] 89 := by rw [← hW, ← hBW]; exact Blk.new rfl
  have hle : w.heap.size ≤ BW := by rw [← hBW]; exact hB.size
  replace hB := (belowAlloc hB : Below _ _ (w3.alloc (.cells #[.int .i64 s, .int .i64 p, .int .i64 g, .int .i64 l, .int .i64 0, .int .i64 0, .slice none 0 0, .slice none 0 0, .slice am nm cm, .int .i64 0, .int .i64 l] 89))); rw [hW] at hB
  rw [hW, hBW]
  clear hW hBW a0 b0 y0 aT bT yT k0 kT
  go_loopw [41] (fun v wr => ∃ i : Nat, i ≤ n ∧ v = .int .i64 i ∧ Hid (∃ c nx xs ys, c ≤ 20 * (i : Int) ∧ nx ≤ (i : Int) ∧ okT s p g l c nx xs ∧ relL s p l c xs ys ∧ StW s p g l am nm cm BW w c nx xs ys wr)) (fun v _ => n - (intOf v).toNat)
  case atStart => exact ⟨0, Nat.zero_le _, rfl, HI.out BW W4 kW hB hle⟩
  case round =>
    clear kW hB HI
    obtain ⟨i, hi, rfl, hH⟩ := hrel
    by_cases hlt : i < n
    · have hB : Below w.heap.size w wr := by
        obtain ⟨c, nx, xs, ys, -, -, -, -, ax, cx, ay, cy, -, -, -, hb, -⟩ := hH.out
        exact hb
      obtain ⟨bA, oA, ⟨kd, N, vd⟩, rfl, hbA, hx, hcc⟩ := HR.out.at hlt
      obtain ⟨q1, q2, q3⟩ := HAc.out _ (List.mem_of_getElem? hx)
      have f0 : wr.cell? ⟨bA, oA + i * 3, none⟩ = some (.int .u8 kd) := cell_later hB (hcc 0 _ rfl)
      have f1 : wr.cell? ⟨bA, oA + i * 3 + 1, none⟩ = some (.int .u8 N) := cell_later hB (hcc 1 _ rfl)
      have f2 : wr.cell? ⟨bA, oA + i * 3 + 2, none⟩ = some (.int .u8 vd) := cell_later hB (hcc 2 _ rfl)
      replace hbA := Nat.lt_of_lt_of_le hbA hB.size
      have p0 : (0 : Int) ≤ (i : Int) := by omega
      have p1 : (i : Int) < (n : Int) := by omega
      have HQ := Lib.hid (And.intro q1 (And.intro q2 q3))
      clear hx hcc q1 q2 q3 hB
      go_wp2_with fail
      obtain ⟨c, nx, xs, ys, h1, h2, h3, h4, h5⟩ := hH.out
      refine (HAct.out c nx xs ys h3 h4 (by omega) (by omega) kd N vd HQ.out.1 HQ.out.2.1 HQ.out.2.2 BW _ (h5.later (belowAlloc (Below.refl _ _)))).mono ?_
      rintro e w5 ⟨rfl, c', nx', xs', ys', ⟨h6, h7⟩, h8, h9, h10⟩
      have hH2 : Hid (∃ c nx xs ys, c ≤ 20 * ((i + 1 : Nat) : Int) ∧ nx ≤ ((i + 1 : Nat) : Int) ∧ okT s p g l c nx xs ∧ relL s p l c xs ys ∧ StW s p g l am nm cm BW w c nx xs ys w5) := ⟨c', nx', xs', ys', by omega, by omega, h8, h9, h10⟩
      clear h1 h2 h3 h4 h5 h6 h7 h8 h9 h10 hH
      go_wp2_with fail
      go_roundw
      case rel => exact ⟨i + 1, hlt, by go_num, hH2⟩
      case measure => simp [intOf]; omega
    · obtain rfl : i = n := by omega
      obtain ⟨c, nx, xs, ys, -, -, ho, hr, ax, cx, ay, cy, kW, -, -, hB, -⟩ := hH.out
      have hlen := hr.1
      obtain ⟨nX, hnX⟩ : ∃ k, xs.length = k := ⟨_, rfl⟩
      rw [hnX] at hlen kW
      rw [← hlen] at kW
      have z1 : ((nX : Int) == (nX : Int)) = true := by simp
      clear hH ho hr hlen hnX
      obtain ⟨aW, bW⟩ := kW.read; have yW := kW.lt
      go_wp2_with fail
      go_quiet (fail)
      go_wp2_with fail
      go_ret
      exact ⟨rfl, by (repeat' (first | (with_reducible exact Below.refl _ _) | (with_reducible assumption) | (with_reducible refine belowThru ?_ (by assumption)) | (with_reducible refine belowAlloc ?_) | (with_reducible refine Below.setCell ?_ (by first | omega | (simp; done) | (simp; omega)) _) | (with_reducible refine Below.drew ?_) | (with_reducible refine below_drewN ?_ _)))⟩
theorem catches_true (s p g l : Int) (a am : Option Addr) (n cap nm cm : Nat) (acts : List (Int × Int × Int)) (us : List Int) (hnm : nm ≤ maxLen) (hu : ∀ u ∈ us, 0 ≤ u ∧ u ≤ 255) (ha : ∀ x ∈ acts, (0 ≤ x.1 ∧ x.1 ≤ 255) ∧ (0 ≤ x.2.1 ∧ x.2.1 ≤ 255) ∧ (0 ≤ x.2.2 ∧ x.2.2 ≤ 255)) (w : World) (hR : RowK 3 ac1 w a n acts) (hM : RowK 1 u81 w am nm us) :
    Calls Try.prog 10 #[.agg #[.int .i64 s, .int .i64 p, .int .i64 g, .int .i64 l], .slice a n cap, .slice am nm cm] w fun e w' => e = .returned (.bool true) ∧ Below w.heap.size w w' := by
  by_cases hn : (60 : Int) < n
  · exact catches_long s p g l a am n cap nm cm w (decide_eq_true hn)
  · by_cases h : okB s p g l
    · exact catches_yes s p g l a am n cap nm cm acts us h (by omega) hnm hu ha w hR hM
    · exact catches_bad s p g l 90 a am n cap nm cm w (decide_eq_false hn) rfl (fun w => new_bad s p g l 90 rfl w (HCk s p g l 90 (if_neg h)))
end Go.Proofs.Ytbcnoklaaigclaa
