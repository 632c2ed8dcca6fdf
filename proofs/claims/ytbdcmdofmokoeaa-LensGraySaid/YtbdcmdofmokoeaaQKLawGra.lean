/-
  LensGray: the walks and the law.
-/
import Derived.Test.YtbdcmdofmokoeaaR11
namespace Go.Proofs.Ytbdcmdofmokoeaa
open Go.RowKit Go.Shelf
set_option linter.unusedVariables false
set_option linter.unusedSimpArgs false

theorem gray_back : ∀ k, k < 256 → (let g := grayN k; g ^^^ g / 2 ^^^ g / 4 ^^^ g / 8 ^^^ g / 16 ^^^ g / 32 ^^^ g / 64 ^^^ g / 128) = k := by decide +kernel
theorem gray_one {k n : Nat} (hk : k < 256) (hn : n < 256) (h : grayN k = grayN n) : k = n := by
  have a := gray_back k hk; have b := gray_back n hn
  rw [h] at a; exact a.symm.trans b
theorem gray_next : ∀ k, k < 255 → 0 < grayN k ^^^ grayN (k + 1) ∧ grayN k ^^^ grayN (k + 1) < 256 ∧ (grayN k ^^^ grayN (k + 1)) &&& (grayN k ^^^ grayN (k + 1)) - 1 = 0 := by decide +kernel
set_option maxRecDepth 100000 in
set_option maxHeartbeats 16000000 in
theorem gra_1 (k n a b eA eB : Int) (w : World) (HAl : Hid (∀ w : World, Calls Try.prog 23 #[] w fun e w' => e = .returned (.bool true) ∧ Below w.heap.size w w')) (HA : Hid (∀ W : World, Calls Try.prog 25 #[.int .i64 k] W fun e W' => e = .returned (.tuple #[.int .i64 a, .int .i64 eA]) ∧ Below W.heap.size W W')) (HB : Hid (∀ W : World, Calls Try.prog 25 #[.int .i64 n] W fun e W' => e = .returned (.tuple #[.int .i64 b, .int .i64 eB]) ∧ Below W.heap.size W W')) (hA : (eA != 0) = true) :
    Calls Try.prog 13 #[.int .i64 k, .int .i64 n] w fun e w' => e = .returned (.bool true) ∧ Below w.heap.size w w' := by
  go_enter Try.func13, Try.ntmps13
  go_wp2_with fail
  refine (HAl.out _).mono ?_
  rintro e w1 ⟨rfl, hb⟩
  have hBw : Below w.heap.size w w1 := by (repeat' (first | (with_reducible exact Below.refl _ _) | (with_reducible assumption) | (with_reducible refine belowThru ?_ (by assumption)) | (with_reducible refine belowAlloc ?_) | (with_reducible refine Below.setCell ?_ (by first | omega | (simp; done) | (simp; omega)) _) | (with_reducible refine Below.drew ?_) | (with_reducible refine below_drewN ?_ _)))
  have hzw1 := hBw.size
  clear hb
  go_wp2_with fail
  refine (HA.out _).mono ?_
  rintro e w2 ⟨rfl, hb⟩
  replace hBw : Below w.heap.size w w2 := belowThru (by (repeat' (first | (with_reducible exact Below.refl _ _) | (with_reducible assumption) | (with_reducible refine belowThru ?_ (by assumption)) | (with_reducible refine belowAlloc ?_) | (with_reducible refine Below.setCell ?_ (by first | omega | (simp; done) | (simp; omega)) _) | (with_reducible refine Below.drew ?_) | (with_reducible refine below_drewN ?_ _)))) hb
  have hzw2 := hBw.size
  clear hb
  go_wp2_with fail
  refine (HB.out _).mono ?_
  rintro e w3 ⟨rfl, hb⟩
  replace hBw : Below w.heap.size w w3 := belowThru (by (repeat' (first | (with_reducible exact Below.refl _ _) | (with_reducible assumption) | (with_reducible refine belowThru ?_ (by assumption)) | (with_reducible refine belowAlloc ?_) | (with_reducible refine Below.setCell ?_ (by first | omega | (simp; done) | (simp; omega)) _) | (with_reducible refine Below.drew ?_) | (with_reducible refine below_drewN ?_ _)))) hb
  have hzw3 := hBw.size
  clear hb
  go_wp2_with fail
  go_ret
  exact ⟨rfl, by (repeat' (first | (with_reducible exact Below.refl _ _) | (with_reducible assumption) | (with_reducible refine belowThru ?_ (by assumption)) | (with_reducible refine belowAlloc ?_) | (with_reducible refine Below.setCell ?_ (by first | omega | (simp; done) | (simp; omega)) _) | (with_reducible refine Below.drew ?_) | (with_reducible refine below_drewN ?_ _)))⟩
set_option maxRecDepth 100000 in
set_option maxHeartbeats 16000000 in
theorem gra_2 (k n a b eB : Int) (w : World) (HAl : Hid (∀ w : World, Calls Try.prog 23 #[] w fun e w' => e = .returned (.bool true) ∧ Below w.heap.size w w')) (HA : Hid (∀ W : World, Calls Try.prog 25 #[.int .i64 k] W fun e W' => e = .returned (.tuple #[.int .i64 a, .int .i64 0]) ∧ Below W.heap.size W W')) (HB : Hid (∀ W : World, Calls Try.prog 25 #[.int .i64 n] W fun e W' => e = .returned (.tuple #[.int .i64 b, .int .i64 eB]) ∧ Below W.heap.size W W')) (hB : (eB != 0) = true) :
    Calls Try.prog 13 #[.int .i64 k, .int .i64 n] w fun e w' => e = .returned (.bool true) ∧ Below w.heap.size w w' := by
  go_enter Try.func13, Try.ntmps13
  go_wp2_with fail
  refine (HAl.out _).mono ?_
  rintro e w1 ⟨rfl, hb⟩
  have hBw : Below w.heap.size w w1 := by (repeat' (first | (with_reducible exact Below.refl _ _) | (with_reducible assumption) | (with_reducible refine belowThru ?_ (by assumption)) | (with_reducible refine belowAlloc ?_) | (with_reducible refine Below.setCell ?_ (by first | omega | (simp; done) | (simp; omega)) _) | (with_reducible refine Below.drew ?_) | (with_reducible refine below_drewN ?_ _)))
  have hzw1 := hBw.size
  clear hb
  go_wp2_with fail
  refine (HA.out _).mono ?_
  rintro e w2 ⟨rfl, hb⟩
  replace hBw : Below w.heap.size w w2 := belowThru (by (repeat' (first | (with_reducible exact Below.refl _ _) | (with_reducible assumption) | (with_reducible refine belowThru ?_ (by assumption)) | (with_reducible refine belowAlloc ?_) | (with_reducible refine Below.setCell ?_ (by first | omega | (simp; done) | (simp; omega)) _) | (with_reducible refine Below.drew ?_) | (with_reducible refine below_drewN ?_ _)))) hb
  have hzw2 := hBw.size
  clear hb
  go_wp2_with fail
  refine (HB.out _).mono ?_
  rintro e w3 ⟨rfl, hb⟩
  replace hBw : Below w.heap.size w w3 := belowThru (by (repeat' (first | (with_reducible exact Below.refl _ _) | (with_reducible assumption) | (with_reducible refine belowThru ?_ (by assumption)) | (with_reducible refine belowAlloc ?_) | (with_reducible refine Below.setCell ?_ (by first | omega | (simp; done) | (simp; omega)) _) | (with_reducible refine Below.drew ?_) | (with_reducible refine below_drewN ?_ _)))) hb
  have hzw3 := hBw.size
  clear hb
  go_wp2_with fail
  go_ret
  exact ⟨rfl, by (repeat' (first | (with_reducible exact Below.refl _ _) | (with_reducible assumption) | (with_reducible refine belowThru ?_ (by assumption)) | (with_reducible refine belowAlloc ?_) | (with_reducible refine Below.setCell ?_ (by first | omega | (simp; done) | (simp; omega)) _) | (with_reducible refine Below.drew ?_) | (with_reducible refine below_drewN ?_ _)))⟩
set_option maxRecDepth 100000 in
set_option maxHeartbeats 16000000 in
theorem gra_3 (k a : Int) (w : World) (HAl : Hid (∀ w : World, Calls Try.prog 23 #[] w fun e w' => e = .returned (.bool true) ∧ Below w.heap.size w w')) (HA : Hid (∀ W : World, Calls Try.prog 25 #[.int .i64 k] W fun e W' => e = .returned (.tuple #[.int .i64 a, .int .i64 0]) ∧ Below W.heap.size W W')) (HB : Hid (∀ W : World, Calls Try.prog 25 #[.int .i64 k] W fun e W' => e = .returned (.tuple #[.int .i64 a, .int .i64 0]) ∧ Below W.heap.size W W')) (g0 : decide (a < 0) = false) (g1 : decide (255 < a) = false) (h1 : (k == IntKind.i64.wrap (k + 1)) = false) (h2 : IntKind.i64.wrap (k + 1) = k + 1) (h3 : (k == k + 1) = false) :
    Calls Try.prog 13 #[.int .i64 k, .int .i64 k] w fun e w' => e = .returned (.bool true) ∧ Below w.heap.size w w' := by
  go_enter Try.func13, Try.ntmps13
  go_wp2_with fail
  refine (HAl.out _).mono ?_
  rintro e w1 ⟨rfl, hb⟩
  have hBw : Below w.heap.size w w1 := by (repeat' (first | (with_reducible exact Below.refl _ _) | (with_reducible assumption) | (with_reducible refine belowThru ?_ (by assumption)) | (with_reducible refine belowAlloc ?_) | (with_reducible refine Below.setCell ?_ (by first | omega | (simp; done) | (simp; omega)) _) | (with_reducible refine Below.drew ?_) | (with_reducible refine below_drewN ?_ _)))
  have hzw1 := hBw.size
  clear hb
  go_wp2_with fail
  refine (HA.out _).mono ?_
  rintro e w2 ⟨rfl, hb⟩
  replace hBw : Below w.heap.size w w2 := belowThru (by (repeat' (first | (with_reducible exact Below.refl _ _) | (with_reducible assumption) | (with_reducible refine belowThru ?_ (by assumption)) | (with_reducible refine belowAlloc ?_) | (with_reducible refine Below.setCell ?_ (by first | omega | (simp; done) | (simp; omega)) _) | (with_reducible refine Below.drew ?_) | (with_reducible refine below_drewN ?_ _)))) hb
  have hzw2 := hBw.size
  clear hb
  go_wp2_with fail
  refine (HB.out _).mono ?_
  rintro e w3 ⟨rfl, hb⟩
  replace hBw : Below w.heap.size w w3 := belowThru (by (repeat' (first | (with_reducible exact Below.refl _ _) | (with_reducible assumption) | (with_reducible refine belowThru ?_ (by assumption)) | (with_reducible refine belowAlloc ?_) | (with_reducible refine Below.setCell ?_ (by first | omega | (simp; done) | (simp; omega)) _) | (with_reducible refine Below.drew ?_) | (with_reducible refine below_drewN ?_ _)))) hb
  have hzw3 := hBw.size
  clear hb
  go_wp2_with fail
  go_ret
  exact ⟨rfl, by (repeat' (first | (with_reducible exact Below.refl _ _) | (with_reducible assumption) | (with_reducible refine belowThru ?_ (by assumption)) | (with_reducible refine belowAlloc ?_) | (with_reducible refine Below.setCell ?_ (by first | omega | (simp; done) | (simp; omega)) _) | (with_reducible refine Below.drew ?_) | (with_reducible refine below_drewN ?_ _)))⟩
set_option maxRecDepth 100000 in
set_option maxHeartbeats 16000000 in
theorem gra_4 (k n a b : Int) (w : World) (HAl : Hid (∀ w : World, Calls Try.prog 23 #[] w fun e w' => e = .returned (.bool true) ∧ Below w.heap.size w w')) (HA : Hid (∀ W : World, Calls Try.prog 25 #[.int .i64 k] W fun e W' => e = .returned (.tuple #[.int .i64 a, .int .i64 0]) ∧ Below W.heap.size W W')) (HB : Hid (∀ W : World, Calls Try.prog 25 #[.int .i64 n] W fun e W' => e = .returned (.tuple #[.int .i64 b, .int .i64 0]) ∧ Below W.heap.size W W')) (g0 : decide (a < 0) = false) (g1 : decide (255 < a) = false) (c1 : (a == b) = false) (c2 : (k == n) = false) (h2 : IntKind.i64.wrap (k + 1) = k + 1) (h1 : (n == k + 1) = false) :
    Calls Try.prog 13 #[.int .i64 k, .int .i64 n] w fun e w' => e = .returned (.bool true) ∧ Below w.heap.size w w' := by
  go_enter Try.func13, Try.ntmps13
  go_wp2_with fail
  refine (HAl.out _).mono ?_
  rintro e w1 ⟨rfl, hb⟩
  have hBw : Below w.heap.size w w1 := by (repeat' (first | (with_reducible exact Below.refl _ _) | (with_reducible assumption) | (with_reducible refine belowThru ?_ (by assumption)) | (with_reducible refine belowAlloc ?_) | (with_reducible refine Below.setCell ?_ (by first | omega | (simp; done) | (simp; omega)) _) | (with_reducible refine Below.drew ?_) | (with_reducible refine below_drewN ?_ _)))
  have hzw1 := hBw.size
  clear hb
  go_wp2_with fail
  refine (HA.out _).mono ?_
  rintro e w2 ⟨rfl, hb⟩
  replace hBw : Below w.heap.size w w2 := belowThru (by (repeat' (first | (with_reducible exact Below.refl _ _) | (with_reducible assumption) | (with_reducible refine belowThru ?_ (by assumption)) | (with_reducible refine belowAlloc ?_) | (with_reducible refine Below.setCell ?_ (by first | omega | (simp; done) | (simp; omega)) _) | (with_reducible refine Below.drew ?_) | (with_reducible refine below_drewN ?_ _)))) hb
  have hzw2 := hBw.size
  clear hb
  go_wp2_with fail
  refine (HB.out _).mono ?_
  rintro e w3 ⟨rfl, hb⟩
  replace hBw : Below w.heap.size w w3 := belowThru (by (repeat' (first | (with_reducible exact Below.refl _ _) | (with_reducible assumption) | (with_reducible refine belowThru ?_ (by assumption)) | (with_reducible refine belowAlloc ?_) | (with_reducible refine Below.setCell ?_ (by first | omega | (simp; done) | (simp; omega)) _) | (with_reducible refine Below.drew ?_) | (with_reducible refine below_drewN ?_ _)))) hb
  have hzw3 := hBw.size
  clear hb
  go_wp2_with fail
  go_ret
  exact ⟨rfl, by (repeat' (first | (with_reducible exact Below.refl _ _) | (with_reducible assumption) | (with_reducible refine belowThru ?_ (by assumption)) | (with_reducible refine belowAlloc ?_) | (with_reducible refine Below.setCell ?_ (by first | omega | (simp; done) | (simp; omega)) _) | (with_reducible refine Below.drew ?_) | (with_reducible refine below_drewN ?_ _)))⟩
set_option maxRecDepth 100000 in
set_option maxHeartbeats 16000000 in
theorem gra_5 (k n a b x y : Int) (w : World) (HAl : Hid (∀ w : World, Calls Try.prog 23 #[] w fun e w' => e = .returned (.bool true) ∧ Below w.heap.size w w')) (HA : Hid (∀ W : World, Calls Try.prog 25 #[.int .i64 k] W fun e W' => e = .returned (.tuple #[.int .i64 a, .int .i64 0]) ∧ Below W.heap.size W W')) (HB : Hid (∀ W : World, Calls Try.prog 25 #[.int .i64 n] W fun e W' => e = .returned (.tuple #[.int .i64 b, .int .i64 0]) ∧ Below W.heap.size W W')) (g0 : decide (a < 0) = false) (g1 : decide (255 < a) = false) (c1 : (a == b) = false) (c2 : (k == n) = false) (h2 : IntKind.i64.wrap (k + 1) = k + 1) (h1 : (n == k + 1) = true) (hx : bits .xor .i64 a b = x) (hp : decide (0 < x) = true) (hw : IntKind.i64.wrap (x - 1) = y) (hy : bits .and .i64 x y = 0) :
    Calls Try.prog 13 #[.int .i64 k, .int .i64 n] w fun e w' => e = .returned (.bool true) ∧ Below w.heap.size w w' := by
  go_enter Try.func13, Try.ntmps13
  go_wp2_with fail
  refine (HAl.out _).mono ?_
  rintro e w1 ⟨rfl, hb⟩
  have hBw : Below w.heap.size w w1 := by (repeat' (first | (with_reducible exact Below.refl _ _) | (with_reducible assumption) | (with_reducible refine belowThru ?_ (by assumption)) | (with_reducible refine belowAlloc ?_) | (with_reducible refine Below.setCell ?_ (by first | omega | (simp; done) | (simp; omega)) _) | (with_reducible refine Below.drew ?_) | (with_reducible refine below_drewN ?_ _)))
  have hzw1 := hBw.size
  clear hb
  go_wp2_with fail
  refine (HA.out _).mono ?_
  rintro e w2 ⟨rfl, hb⟩
  replace hBw : Below w.heap.size w w2 := belowThru (by (repeat' (first | (with_reducible exact Below.refl _ _) | (with_reducible assumption) | (with_reducible refine belowThru ?_ (by assumption)) | (with_reducible refine belowAlloc ?_) | (with_reducible refine Below.setCell ?_ (by first | omega | (simp; done) | (simp; omega)) _) | (with_reducible refine Below.drew ?_) | (with_reducible refine below_drewN ?_ _)))) hb
  have hzw2 := hBw.size
  clear hb
  go_wp2_with fail
  refine (HB.out _).mono ?_
  rintro e w3 ⟨rfl, hb⟩
  replace hBw : Below w.heap.size w w3 := belowThru (by (repeat' (first | (with_reducible exact Below.refl _ _) | (with_reducible assumption) | (with_reducible refine belowThru ?_ (by assumption)) | (with_reducible refine belowAlloc ?_) | (with_reducible refine Below.setCell ?_ (by first | omega | (simp; done) | (simp; omega)) _) | (with_reducible refine Below.drew ?_) | (with_reducible refine below_drewN ?_ _)))) hb
  have hzw3 := hBw.size
  clear hb
  go_wp2_with fail
  go_ret
  exact ⟨rfl, by (repeat' (first | (with_reducible exact Below.refl _ _) | (with_reducible assumption) | (with_reducible refine belowThru ?_ (by assumption)) | (with_reducible refine belowAlloc ?_) | (with_reducible refine Below.setCell ?_ (by first | omega | (simp; done) | (simp; omega)) _) | (with_reducible refine Below.drew ?_) | (with_reducible refine below_drewN ?_ _)))⟩
theorem lawGra_true (k n : Int) (w : World) : Calls Try.prog 13 #[.int .i64 k, .int .i64 n] w fun e w' => e = .returned (.bool true) ∧ Below w.heap.size w w' := by
  have HAl := Lib.hid alive_true
  by_cases hk : 0 ≤ k ∧ k ≤ 255
  · obtain ⟨i, rfl⟩ : ∃ i : Nat, k = i := ⟨k.toNat, by omega⟩
    have hi : i ≤ 255 := by omega
    have gi := grayN_lt i hi
    by_cases hn : 0 ≤ n ∧ n ≤ 255
    · obtain ⟨j, rfl⟩ : ∃ j : Nat, n = j := ⟨n.toNat, by omega⟩
      have hj : j ≤ 255 := by omega
      have gj := grayN_lt j hj
      by_cases hij : i = j
      · subst hij
        exact gra_3 _ (grayN i) w HAl (Lib.hid (jgray_yes i hi)) (Lib.hid (jgray_yes i hi)) (by simp) (by simp; omega) (by rw [wr64 _ (by omega)]; exact beq_false_of_ne (by omega)) (wr64 _ (by omega)) (beq_false_of_ne (by omega))
      · have hg : grayN i ≠ grayN j := fun h => hij (gray_one (by omega) (by omega) h)
        by_cases hs : j = i + 1
        · subst hs
          obtain ⟨x0, x1, x2⟩ := gray_next i (by omega)
          have hx := i64_xor_nat (grayN i) (grayN (i + 1)) (by omega) (by omega)
          obtain ⟨X, hX⟩ : ∃ X, grayN i ^^^ grayN (i + 1) = X := ⟨_, rfl⟩
          rw [hX] at x0 x1 x2 hx
          have hw : IntKind.i64.wrap ((X : Int) - 1) = ((X - 1 : Nat) : Int) := by rw [wr64 _ (by omega)]; omega
          have hy := i64_and_nat X (X - 1) (by omega) (by omega)
          rw [x2] at hy
          exact gra_5 _ _ (grayN i) (grayN (i + 1)) _ _ w HAl (Lib.hid (jgray_yes i hi)) (Lib.hid (jgray_yes (i + 1) hj)) (by simp) (by simp; omega) (beq_false_of_ne (by omega)) (beq_false_of_ne (by omega)) (wr64 _ (by omega)) (by simp) hx (by simpa using x0) hw hy
        · exact gra_4 _ _ (grayN i) (grayN j) w HAl (Lib.hid (jgray_yes i hi)) (Lib.hid (jgray_yes j hj)) (by simp) (by simp; omega) (beq_false_of_ne (by omega)) (beq_false_of_ne (by omega)) (wr64 _ (by omega)) (beq_false_of_ne (by omega))
    · exact gra_2 _ n (grayN i) 0 2 w HAl (Lib.hid (jgray_yes i hi)) (Lib.hid (jgray_no n hn)) rfl
  · by_cases hn : 0 ≤ n ∧ n ≤ 255
    · obtain ⟨j, rfl⟩ : ∃ j : Nat, n = j := ⟨n.toNat, by omega⟩
      exact gra_1 k _ 0 (grayN j) 2 0 w HAl (Lib.hid (jgray_no k hk)) (Lib.hid (jgray_yes j (by omega))) rfl
    · exact gra_1 k n 0 0 2 2 w HAl (Lib.hid (jgray_no k hk)) (Lib.hid (jgray_no n hn)) rfl
end Go.Proofs.Ytbdcmdofmokoeaa
