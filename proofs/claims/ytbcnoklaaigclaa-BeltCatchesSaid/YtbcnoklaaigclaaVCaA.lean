/-
  Layer 9: an act at the true belt (the law BeltCatches).
-/
import Derived.Test.YtbcnoklaaigclaaVCaD
import Derived.StillTailTactics
namespace Go.Proofs.Ytbcnoklaaigclaa
open Go.RowKit Go.Shelf
set_option linter.unusedVariables false
set_option linter.unusedSimpArgs false


theorem StW.later {s p g l c nx : Int} {am : Option Addr} {nm cm BW : Nat} {w0 w w' : World} {xs : List Sn} {ys : List Th} (h : StW s p g l am nm cm BW w0 c nx xs ys w) (hb : Below w.heap.size w w') : StW s p g l am nm cm BW w0 c nx xs ys w' := by
  obtain ⟨ax, cx, ay, cy, kW, hX, hY, hB, hle⟩ := h
  exact ⟨ax, cx, ay, cy, Blk.later hb kW, OwnK.later hb hX, OwnK.later hb hY, belowThru hB hb, hle⟩
set_option maxRecDepth 100000 in
set_option maxHeartbeats 16000000 in
theorem act_zero (s p g l c nx : Int) (am : Option Addr) (nm cm BW : Nat) (w0 : World) (us : List Int) (xs : List Sn) (ys : List Th) (ho : okT s p g l c nx xs) (hr : relL s p l c xs ys) (hc : c ≤ 90000) (hnx : nx ≤ 1000) (hnm : nm ≤ maxLen) (hu : ∀ u ∈ us, 0 ≤ u ∧ u ≤ 255) (hR : RowK 1 u81 w0 am nm us) (kd N vd : Int) (hkd : 0 ≤ kd ∧ kd ≤ 255) (hN : 0 ≤ N ∧ N ≤ 255) (hvd : 0 ≤ vd ∧ vd ≤ 255) (hk : kd.tmod 3 = 0) (w : World) (hS : StW s p g l am nm cm BW w0 c nx xs ys w) :
    Calls Try.prog 48 #[.pointer (some ⟨BW, 0, none⟩), .agg #[.int .u8 kd, .int .u8 N, .int .u8 vd]] w fun e w' => e = .returned (.bool true) ∧ ∃ c' nx' xs' ys', (c' ≤ c + 20 ∧ nx' ≤ nx + 1) ∧ okT s p g l c' nx' xs' ∧ relL s p l c' xs' ys' ∧ StW s p g l am nm cm BW w0 c' nx' xs' ys' w' := by
  obtain ⟨N1, N2⟩ := hN
  have hc0 := ho.2.1.1
  obtain ⟨r, hr20⟩ : ∃ r, N.tmod 20 = r := ⟨_, rfl⟩
  have hrb : 0 ≤ r ∧ r ≤ 19 := by rw [← hr20, Int.tmod_eq_emod_of_nonneg N1]; omega
  obtain ⟨R, hRr⟩ : ∃ R : Nat, r + 1 = (R : Int) := ⟨(r + 1).toNat, by omega⟩
  have e1 : IntKind.i64.wrap N = N := IntWalk.i64_in _ (by omega)
  have e2 : IntKind.i64.wrap r = r := IntWalk.i64_in _ (by omega)
  have e3 : IntKind.i64.wrap (r + 1) = (R : Int) := by rw [hRr]; exact IntWalk.i64_in _ (by omega)
  have hR20 : R ≤ 20 := by omega
  have HS0 := Lib.hid (show ∃ xs' ys', okT s p g l (c + ((0 : Nat) : Int)) nx xs' ∧ relL s p l (c + ((0 : Nat) : Int)) xs' ys' ∧ ∀ o, StW s p g l am nm cm BW w0 (c + ((0 : Nat) : Int)) nx xs' ys' (w.alloc o) from by
    rw [show c + ((0 : Nat) : Int) = c by simp]
    exact ⟨xs, ys, ho, hr, fun o => hS.later (belowAlloc (Below.refl _ _))⟩)
  have HCo := Lib.hid (fun c' xs' ys' ho hr hc w hS => count_any s p g l c' nx am nm cm BW w0 us xs' ys' ho hr hc hnm hu hR w hS)
  clear hRr hrb ho hr hR hu hS hnm N1 N2
  go_enter Try.func48, Try.ntmps48
  have kA : Blk (w.alloc (.cells #[.int .u8 kd, .int .u8 N, .int .u8 vd] 91)) w.heap.size #[.int .u8 kd, .int .u8 N, .int .u8 vd] 91 := Blk.new rfl
  obtain ⟨aA, bA⟩ := kA.read; have yA := kA.lt
  go_wp2_with fail
  clear aA bA yA kA
  go_loopw [71] (fun v wr => ∃ k : Nat, k ≤ R ∧ v = .int .i64 k ∧ Hid (∃ xs' ys', okT s p g l (c + (k : Int)) nx xs' ∧ relL s p l (c + (k : Int)) xs' ys' ∧ StW s p g l am nm cm BW w0 (c + (k : Int)) nx xs' ys' wr)) (fun v _ => R - (intOf v).toNat)
  case atStart =>
    obtain ⟨xs', ys', h1, h2, h3⟩ := HS0.out
    exact ⟨0, Nat.zero_le _, rfl, xs', ys', h1, h2, h3 _⟩
  case round =>
    obtain ⟨k, hk', rfl, hH⟩ := hrel
    by_cases hlt : k < R
    · have p0 : (0 : Int) ≤ (k : Int) := by omega
      have p1 : (k : Int) < (R : Int) := by omega
      go_wp2_with fail
      obtain ⟨xs', ys', h1, h2, h3⟩ := hH.out
      refine (HCo.out _ _ _ h1 h2 (by omega) _ h3).mono ?_
      rintro e w5 ⟨rfl, xs2, ys2, h4, h5, h6⟩
      have hN2 := Lib.hid (show ∃ xs' ys', okT s p g l (c + ((k + 1 : Nat) : Int)) nx xs' ∧ relL s p l (c + ((k + 1 : Nat) : Int)) xs' ys' ∧ StW s p g l am nm cm BW w0 (c + ((k + 1 : Nat) : Int)) nx xs' ys' w5 from by
        rw [show c + ((k + 1 : Nat) : Int) = c + (k : Int) + 1 by omega]
        exact ⟨xs2, ys2, h4, h5, h6⟩)
      clear h1 h2 h3 h4 h5 h6 hH
      go_wp2_with fail
      go_roundw
      case rel => exact ⟨k + 1, hlt, by go_num, hN2⟩
      case measure => simp [intOf]; omega
    · obtain rfl : k = R := by omega
      go_wp2_with fail
      go_ret
      obtain ⟨xs', ys', h1, h2, h3⟩ := hH.out
      exact ⟨rfl, _, nx, xs', ys', ⟨by omega, by omega⟩, h1, h2, h3⟩
end Go.Proofs.Ytbcnoklaaigclaa
