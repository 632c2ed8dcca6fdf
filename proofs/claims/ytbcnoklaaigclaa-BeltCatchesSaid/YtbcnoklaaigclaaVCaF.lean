/-
  Layer 9: an act at the true belt: a verdict.
-/
import Derived.Test.YtbcnoklaaigclaaVCaA
import Derived.Deep.AppendLies
import Derived.Deep.RegionLaw
namespace Go.Proofs.Ytbcnoklaaigclaa
open Go.RowKit Go.Shelf
set_option linter.unusedVariables false
set_option linter.unusedSimpArgs false


theorem RowK.thing0 {w : World} {g n cap B : Nat} {xs : List Th} (h : OwnK 125 5 th1 B w (.slice (some ⟨g, 0, none⟩) n cap) xs) {j : Nat} {y : Th} (hy : xs[j]? = some y) : w.cell? ⟨g, j * 5, none⟩ = some (.int .i64 y.1) := by
  have := h.cellsAt elem_th hy (i := 0) rfl
  simpa using this
set_option maxRecDepth 100000 in
set_option maxHeartbeats 16000000 in
theorem act_two_none (s p g l c nx : Int) (am : Option Addr) (nm cm BW : Nat) (w0 : World) (us : List Int) (xs : List Sn) (ys : List Th) (ho : okT s p g l c nx xs) (hr : relL s p l c xs ys) (hc : c ≤ 90000) (hnx : nx ≤ 1000) (hnm : nm ≤ maxLen) (hu : ∀ u ∈ us, 0 ≤ u ∧ u ≤ 255) (hR : RowK 1 u81 w0 am nm us) (kd N vd : Int) (hkd : 0 ≤ kd ∧ kd ≤ 255) (hN : 0 ≤ N ∧ N ≤ 255) (hvd : 0 ≤ vd ∧ vd ≤ 255) (hk : kd.tmod 3 = 2) (hy0 : ys = []) (w : World) (hS : StW s p g l am nm cm BW w0 c nx xs ys w) :
    Calls Try.prog 48 #[.pointer (some ⟨BW, 0, none⟩), .agg #[.int .u8 kd, .int .u8 N, .int .u8 vd]] w fun e w' => e = .returned (.bool true) ∧ ∃ c' nx' xs' ys', (c' ≤ c + 20 ∧ nx' ≤ nx + 1) ∧ okT s p g l c' nx' xs' ∧ relL s p l c' xs' ys' ∧ StW s p g l am nm cm BW w0 c' nx' xs' ys' w' := by
  have HO := Lib.hid ho; have HR0 := Lib.hid hr
  have HSt : Hid (∀ w', Below w.heap.size w w' → StW s p g l am nm cm BW w0 c nx xs ys w') := fun w' hb => hS.later hb
  subst hy0
  obtain ⟨ax, cx, ay, cy, kW, hX, hY, hB, hle⟩ := hS
  obtain ⟨nX, hnX⟩ : ∃ k, xs.length = k := ⟨_, rfl⟩
  rw [hnX] at kW
  have kW : Blk w BW #[.int .i64 s, .int .i64 p, .int .i64 g, .int .i64 l, .int .i64 c, .int .i64 nx, .slice ax nX cx, .slice ay 0 cy, .slice am nm cm, .int .i64 c, .int .i64 l] 89 := kW
  clear ho hr hR hu hnm hX hY hB hle hnX
  go_enter Try.func48, Try.ntmps48
  have kA : Blk (w.alloc (.cells #[.int .u8 kd, .int .u8 N, .int .u8 vd] 91)) w.heap.size #[.int .u8 kd, .int .u8 N, .int .u8 vd] 91 := Blk.new rfl
  have hb0 : Below w.heap.size w (w.alloc (.cells #[.int .u8 kd, .int .u8 N, .int .u8 vd] 91)) := belowAlloc (Below.refl _ _)
  replace kW := Blk.later hb0 kW
  obtain ⟨aA, bA⟩ := kA.read; have yA := kA.lt
  obtain ⟨aW, bW⟩ := kW.read; have yW := kW.lt
  go_wp2_with fail
  go_ret
  exact ⟨rfl, c, nx, xs, [], ⟨by omega, by omega⟩, HO.out, HR0.out, HSt.out _ hb0⟩
set_option maxRecDepth 100000 in
set_option maxHeartbeats 16000000 in
theorem act_two_late (s p g l c nx : Int) (am : Option Addr) (nm cm BW : Nat) (w0 : World) (us : List Int) (xs : List Sn) (ys : List Th) (ho : okT s p g l c nx xs) (hr : relL s p l c xs ys) (hc : c ≤ 90000) (hnx : nx ≤ 1000) (hnm : nm ≤ maxLen) (hu : ∀ u ∈ us, 0 ≤ u ∧ u ≤ 255) (hR : RowK 1 u81 w0 am nm us) (kd N vd : Int) (hkd : 0 ≤ kd ∧ kd ≤ 255) (hN : 0 ≤ N ∧ N ≤ 255) (hvd : 0 ≤ vd ∧ vd ≤ 255) (hk : kd.tmod 3 = 2) (hy0 : 0 < ys.length) (k : Nat) (hkN : N.tmod (ys.length : Int) = (k : Int)) (V : Int) (hV : vd.tmod 3 + 1 = V) (q : Sn) (hxq : xs[k]? = some q) (hTL : telE s p g l c nx xs q.1 V = 91) (w : World) (hS : StW s p g l am nm cm BW w0 c nx xs ys w) :
    Calls Try.prog 48 #[.pointer (some ⟨BW, 0, none⟩), .agg #[.int .u8 kd, .int .u8 N, .int .u8 vd]] w fun e w' => e = .returned (.bool true) ∧ ∃ c' nx' xs' ys', (c' ≤ c + 20 ∧ nx' ≤ nx + 1) ∧ okT s p g l c' nx' xs' ∧ relL s p l c' xs' ys' ∧ StW s p g l am nm cm BW w0 c' nx' xs' ys' w' := by
  obtain ⟨N1, N2⟩ := hN; obtain ⟨V1, V2⟩ := hvd
  have HO := Lib.hid ho; have HR0 := Lib.hid hr
  have HSt : Hid (∀ w', Below w.heap.size w w' → StW s p g l am nm cm BW w0 c nx xs ys w') := fun w' hb => hS.later hb
  have hx32 := ho.2.2.2.1
  have hly := hr.1
  obtain ⟨ax, cx, ay, cy, kW, hX, hY, hB, hle⟩ := hS
  obtain ⟨nX, hnX⟩ : ∃ k, xs.length = k := ⟨_, rfl⟩
  obtain ⟨nY, hnY⟩ : ∃ k, ys.length = k := ⟨_, rfl⟩
  obtain ⟨gY, cY, eY, -, hcY, -, hgY, hfY⟩ := hY.at0 elem_th hy0
  have eY : Value.slice ay ys.length cy = .slice (some ⟨gY, 0, none⟩) ys.length cY := eY
  cases eY
  rw [hnX] at hX kW
  rw [hnY] at hY kW hy0 hcY
  rw [hnY] at hkN
  have hkn : k < nY := by
    rw [Int.tmod_eq_emod_of_nonneg N1] at hkN
    have h2 := Int.emod_lt_of_pos N (show 0 < (nY : Int) by omega)
    omega
  obtain ⟨V0, hV0⟩ : ∃ V, vd.tmod 3 = V := ⟨_, rfl⟩
  have hVb : 0 ≤ V0 ∧ V0 ≤ 2 := by rw [← hV0, Int.tmod_eq_emod_of_nonneg V1]; omega
  rw [hV0] at hV
  have ey : ys[k]? = some ys[k] := List.getElem?_eq_getElem (by rw [hnY]; exact hkn)
  obtain ⟨y, hy⟩ : ∃ y, ys[k]'(by rw [hnY]; exact hkn) = y := ⟨_, rfl⟩
  rw [hy] at ey
  have ex : xs[k]? = some xs[k] := List.getElem?_eq_getElem (by rw [hly, hnY]; exact hkn)
  obtain ⟨x, hx⟩ : ∃ x, xs[k]'(by rw [hly, hnY]; exact hkn) = x := ⟨_, rfl⟩
  rw [hx] at ex
  have hxy := hr.2 k x y ex ey
  obtain ⟨q1, q2, q3, q4⟩ := x
  obtain ⟨y1, y2, y3, y4, y5⟩ := y
  have hid : y1 = q1 := hxy.1
  subst hid
  have hfi := find_at ho.2.2.2.2 ex
  rw [ex] at hxq
  cases hxq
  have HTe : Hid (∀ w, RowK 4 sn1 w ax nX xs → Calls Try.prog 22 #[.agg #[.int .i64 s, .int .i64 p, .int .i64 g, .int .i64 l, .int .i64 c, .int .i64 nx, .slice ax nX cx], .int .i64 y1, .int .u8 V] w fun e w' => e = .returned (.tuple #[.agg #[.int .i64 0, .int .i64 0, .int .i64 0, .int .i64 0, .int .i64 0, .int .i64 0, .slice none 0 0], .int .i64 91]) ∧ Below w.heap.size w w') := fun w hR => by
    refine (tell_any s p g l c nx ax nX cx y1 V xs (by unfold maxLen; omega) w hR).mono ?_
    rintro e w' ⟨⟨E, h1, h2, rfl⟩ | ⟨h1, -⟩, hb⟩
    · rw [hTL] at h1; subst h1; exact ⟨rfl, hb⟩
    · rw [hTL] at h1; cases h1
  have HRel := Lib.hid (tell_rel (vd := V) ex ey hr)
  have HEX := Lib.hid ex; have HEY := Lib.hid ey; have HFI := Lib.hid hfi
  have g0 := RowK.thing0 hY ey
  have e1 : IntKind.i64.wrap N = N := IntWalk.i64_in _ (by omega)
  have e2 : IntKind.i64.wrap (k : Int) = (k : Int) := IntWalk.i64_in _ (by omega)
  have e3 : ((nY : Int) == 0) = false := by simp; omega
  have e4 : ¬ ((nY : Int) = 0) := by omega
  have e5 : ((nY : Int) = 0) = False := eq_false e4
  have e6 : (nY == 0) = false := by simp; omega
  have e7 : IntKind.u8.wrap V0 = V0 := by rcases (show V0 = 0 ∨ V0 = 1 ∨ V0 = 2 by omega) with h | h | h <;> rw [h] <;> decide
  have e8 : IntKind.u8.wrap (V0 + 1) = V := by rw [← hV]; rcases (show V0 = 0 ∨ V0 = 1 ∨ V0 = 2 by omega) with h | h | h <;> rw [h] <;> decide
  have p0 : (0 : Int) ≤ (k : Int) := by omega
  have p1 : (k : Int) < (nY : Int) := by omega
  have HNX := Lib.hid hnX; have HNY := Lib.hid hnY; have HFY := Lib.hid hfY; have HVb := Lib.hid hVb; have HVV := Lib.hid hV
  clear hTL ho hr hR hu hnm hx32 hly hnX hnY hfY hVb hV hxy ex ey hx hy hfi e4 hcY
  go_enter Try.func48, Try.ntmps48
  have kA : Blk (w.alloc (.cells #[.int .u8 kd, .int .u8 N, .int .u8 vd] 91)) w.heap.size #[.int .u8 kd, .int .u8 N, .int .u8 vd] 91 := Blk.new rfl
  have hb0 : Below w.heap.size w (w.alloc (.cells #[.int .u8 kd, .int .u8 N, .int .u8 vd] 91)) := belowAlloc (Below.refl _ _)
  replace kW := Blk.later hb0 kW; replace hX := OwnK.later hb0 hX; replace hY := OwnK.later hb0 hY; replace hB := belowThru hB hb0
  replace g0 := cell_later hb0 g0
  replace hgY := Nat.lt_of_lt_of_le hgY hb0.size
  obtain ⟨aA, bA⟩ := kA.read; have yA := kA.lt
  obtain ⟨aW, bW⟩ := kW.read; have yW := kW.lt
  go_wp2_with fail
  go_quiet (fail)
  go_wp2_with fail
  obtain ⟨Wp, hWp⟩ : ∃ W, ((w.alloc (.cells #[.int .u8 kd, .int .u8 N, .int .u8 vd] 91)).drewN nq) = W := ⟨_, rfl⟩
  replace kW := (kW.drewN : Blk ((w.alloc (.cells #[.int .u8 kd, .int .u8 N, .int .u8 vd] 91)).drewN nq) _ _ _); rw [hWp] at kW
  replace g0 : Wp.cell? ⟨gY, k * 5, none⟩ = some (.int .i64 y1) := by rw [← hWp]; exact g0
  replace hX : OwnK 68 4 sn1 w0.heap.size Wp (.slice ax nX cx) xs := by rw [← hWp]; exact hX
  replace hY : OwnK 125 5 th1 w0.heap.size Wp (.slice (some ⟨gY, 0, none⟩) nY cy) ys := by rw [← hWp]; exact hY
  replace hgY : gY < Wp.heap.size := by rw [← hWp]; exact hgY
  replace hB : Below w0.heap.size w0 Wp := by rw [← hWp]; exact below_drewN hB _
  replace hb0 : Below w.heap.size w Wp := by rw [← hWp]; exact below_drewN hb0 _
  rw [hWp]
  clear hWp aA bA yA kA aW bW yW
  obtain ⟨aW, bW⟩ := kW.read; have yW := kW.lt
  have HX := Lib.hid (rowOf' hX)
  go_region_law (go_simp; go_at_call 22; (with_reducible refine (HTe.out _ (HX.out.later (by (repeat' (first | (with_reducible exact Below.refl _ _) | (with_reducible assumption) | (with_reducible refine belowThru ?_ (by assumption)) | (with_reducible refine belowAlloc ?_) | (with_reducible refine Below.setCell ?_ (by first | omega | (simp; done) | (simp; omega)) _) | (with_reducible refine Below.drew ?_) | (with_reducible refine below_drewN ?_ _)))))).mono ?_); rintro e w2 ⟨rfl, hb⟩; (try (have kT : Blk w2 Wp.heap.size #[.int .i64 0, .int .i64 0, .int .i64 0, .int .i64 0, .int .i64 0, .int .i64 0, .slice none 0 0] 36 := Blk.later hb (Blk.new (by first | rfl | simp)); obtain ⟨aT, bT⟩ := kT.read; have yT := kT.lt)))
  all_goals have hsz0 := hb0.size
  all_goals have hb2 : Below w.heap.size w w2 := by (repeat' (first | (with_reducible exact Below.refl _ _) | (with_reducible assumption) | (with_reducible refine belowThru ?_ (by assumption)) | (with_reducible refine belowAlloc ?_) | (with_reducible refine Below.setCell ?_ (by first | omega | (simp; done) | (simp; omega)) _) | (with_reducible refine Below.drew ?_) | (with_reducible refine below_drewN ?_ _)))
  all_goals clear aW bW yW
  all_goals go_wp2_with fail
  all_goals go_ret
  all_goals exact ⟨rfl, c, nx, xs, ys, ⟨by omega, by omega⟩, HO.out, HR0.out, HSt.out _ (by (repeat' (first | (with_reducible exact Below.refl _ _) | (with_reducible assumption) | (with_reducible refine belowThru ?_ (by assumption)) | (with_reducible refine belowAlloc ?_) | (with_reducible refine Below.setCell ?_ (by first | omega | (simp; done) | (simp; omega)) _) | (with_reducible refine Below.drew ?_) | (with_reducible refine below_drewN ?_ _))))⟩
end Go.Proofs.Ytbcnoklaaigclaa
