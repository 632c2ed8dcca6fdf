/-
  Layer 9: a movement between its bounds, by the laws' code; the law BeltReach.
-/
import Derived.Test.YtbcnoklaaigclaaVAl3
namespace Go.Proofs.Ytbcnoklaaigclaa
open Go.RowKit Go.Shelf
set_option linter.unusedVariables false
set_option linter.unusedSimpArgs false


/-- What a part moves at one count. -/
def mvB (s p u : Int) : Int := s - p + u % (2 * p + 1)
theorem mvB_bd {s p u : Int} (hp : 0 ≤ p) : s - p ≤ mvB s p u ∧ mvB s p u ≤ s + p := by
  unfold mvB
  have h1 := Int.emod_nonneg u (show 2 * p + 1 ≠ 0 by omega)
  have h2 := Int.emod_lt_of_pos u (show 0 < 2 * p + 1 by omega)
  omega
set_option maxRecDepth 100000 in
set_option maxHeartbeats 16000000 in
theorem moved_any (s p g l u : Int) (h : okB s p g l) (hu : 0 ≤ u ∧ u ≤ 255) (w : World) :
    Calls Try.prog 47 #[.agg #[.int .i64 s, .int .i64 p, .int .i64 g, .int .i64 l], .int .u8 u] w fun e w' => e = .returned (.int .i64 (mvB s p u)) ∧ Below w.heap.size w w' := by
  obtain ⟨⟨s1, s2⟩, ⟨p1, p2⟩, -⟩ := h
  obtain ⟨u1, u2⟩ := hu
  obtain ⟨x, hx⟩ : ∃ x, mvB s p u = x := ⟨_, rfl⟩
  have hb := mvB_bd (s := s) (u := u) p1
  obtain ⟨F, hF⟩ : ∃ F, s - p = F := ⟨_, rfl⟩
  obtain ⟨D, hD⟩ : ∃ D, 2 * p = D := ⟨_, rfl⟩
  obtain ⟨E, hE⟩ : ∃ E, D + 1 = E := ⟨_, rfl⟩
  obtain ⟨r, hr⟩ : ∃ r, u % E = r := ⟨_, rfl⟩
  have hx' : F + r = x := by rw [← hx, ← hr, ← hE, ← hD, ← hF]; rfl
  rw [hx] at hb ⊢
  have e1 : IntKind.i64.wrap (s - p) = F := by rw [hF]; exact IntWalk.i64_in _ (by omega)
  have e2 : IntKind.i64.wrap (2 * p) = D := by rw [hD]; exact IntWalk.i64_in _ (by omega)
  have e3 : IntKind.i64.wrap (D + 1) = E := by rw [hE]; exact IntWalk.i64_in _ (by omega)
  have e4 : IntKind.i64.wrap u = u := IntWalk.i64_in _ (by omega)
  have e5 : u.tmod E = r := by rw [Int.tmod_eq_emod_of_nonneg u1, hr]
  have r1 := Int.emod_nonneg u (show E ≠ 0 by omega)
  have r2 := Int.emod_lt_of_pos u (show 0 < E by omega)
  rw [hr] at r1 r2
  have e6 : IntKind.i64.wrap r = r := IntWalk.i64_in _ (by omega)
  have e7 : IntKind.i64.wrap (F + r) = x := by rw [hx']; exact IntWalk.i64_in _ (by omega)
  have e8 : IntKind.i64.wrap F = F := IntWalk.i64_in _ (by omega)
  have e9 : IntKind.i64.wrap x = x := IntWalk.i64_in _ (by omega)
  have z1 : (E == 0) = false := by simp; omega
  have z2 : ¬ (E = 0) := by omega
  have z3 : (E = 0) = False := eq_false z2
  clear hx hF hD hE hr hx' hb s1 s2 p1 p2 r1 r2
  go_enter Try.func47, Try.ntmps47
  go_wp2_with fail
  have k0 : Blk (w.alloc (.cells #[.int .i64 s, .int .i64 p, .int .i64 g, .int .i64 l] 26)) w.heap.size #[.int .i64 s, .int .i64 p, .int .i64 g, .int .i64 l] 26 := Blk.new rfl
  obtain ⟨a0, b0⟩ := k0.read
  have y0 := k0.lt
  go_region
  all_goals go_wp2_with fail
  all_goals go_ret
  all_goals exact ⟨rfl, by (repeat' (first | (with_reducible exact Below.refl _ _) | (with_reducible assumption) | (with_reducible refine belowThru ?_ (by assumption)) | (with_reducible refine belowAlloc ?_) | (with_reducible refine Below.setCell ?_ (by first | omega | (simp; done) | (simp; omega)) _) | (with_reducible refine Below.drew ?_) | (with_reducible refine below_drewN ?_ _)))⟩
def u81 (x : Int) : List Value := [.int .u8 x]
theorem RowK.num8 {w : World} {a : Option Addr} {n : Nat} {xs : List Int} (h : RowK 1 u81 w a n xs) {j : Nat} (hj : j < n) : ∃ b off z, a = some ⟨b, off, none⟩ ∧ xs[j]? = some z ∧ w.cell? ⟨b, off + j, none⟩ = some (.int .u8 z) := by
  obtain ⟨b, off, z, ha, -, hx, hc⟩ := h.at hj
  have h0 := hc 0 _ rfl
  rw [Nat.mul_one, Nat.add_zero] at h0
  exact ⟨b, off, z, ha, hx, h0⟩
/-- How far, after so many counts. -/
def mvS (s p : Int) (us : List Int) (k : Nat) : Int := ((us.take k).map (mvB s p)).sum
theorem mvS_snoc {s p : Int} {us : List Int} {k : Nat} {u : Int} (h : us[k]? = some u) : mvS s p us (k + 1) = mvS s p us k + mvB s p u := by
  unfold mvS
  rw [List.take_add_one, h]
  simp
theorem mvS_bd {s p : Int} (hp : 0 ≤ p) (us : List Int) : ∀ k : Nat, k ≤ us.length → (k : Int) * (s - p) ≤ mvS s p us k ∧ mvS s p us k ≤ (k : Int) * (s + p)
  | 0, _ => by simp [mvS]
  | k + 1, hk => by
    have ih := mvS_bd (s := s) hp us k (by omega)
    have e : us[k]? = some (us[k]'(by omega)) := List.getElem?_eq_getElem _
    have hb := mvB_bd (s := s) (u := us[k]'(by omega)) hp
    rw [mvS_snoc e, Int.natCast_add, Int.add_mul, Int.add_mul]
    simp only [Int.natCast_one, Int.one_mul]
    omega
theorem mvS_in {s p g l : Int} (h : okB s p g l) (us : List Int) {k : Nat} (hk : k ≤ us.length) (h2 : k ≤ 200) : 0 ≤ mvS s p us k ∧ mvS s p us k ≤ 400000 := by
  obtain ⟨⟨s1, s2⟩, ⟨p1, p2⟩, -⟩ := h
  have hb := mvS_bd (s := s) p1 us k hk
  have h0 : 0 ≤ (k : Int) * (s - p) := Int.mul_nonneg (by omega) (by omega)
  have h3 : (k : Int) * (s + p) ≤ 200 * 2000 := Int.mul_le_mul (by omega) (by omega) (by omega) (by omega)
  omega
set_option maxRecDepth 100000 in
set_option maxHeartbeats 16000000 in
theorem reach_no (s p g l : Int) (a : Option Addr) (n cap : Nat) (X Y e : Int) (w : World) (he : (e != 0) = true ∨ (e != 0) = false ∧ decide ((200 : Int) < n) = true)
    (HR : Hid (∀ w, Calls Try.prog 18 #[.agg #[.int .i64 s, .int .i64 p, .int .i64 g, .int .i64 l], .int .i64 n] w fun r w' => r = .returned (.tuple #[.int .i64 X, .int .i64 Y, .int .i64 e]) ∧ Below w.heap.size w w')) :
    Calls Try.prog 8 #[.agg #[.int .i64 s, .int .i64 p, .int .i64 g, .int .i64 l], .slice a n cap] w fun e w' => e = .returned (.bool true) ∧ Below w.heap.size w w' := by
  have HA := Lib.hid alive_true
  rcases he with he | ⟨he, hn⟩
  all_goals
    go_enter Try.func8, Try.ntmps8
    go_wp2_with fail
    refine (HA.out _).mono ?_
    rintro e w1 ⟨rfl, hb⟩
    have k0 : Blk w1 w.heap.size #[.int .i64 s, .int .i64 p, .int .i64 g, .int .i64 l] 26 := Blk.later hb (Blk.new rfl)
    have hB : Below w.heap.size w w1 := belowThru (belowAlloc (Below.refl _ _)) hb
    clear hb
    obtain ⟨a0, b0⟩ := k0.read
    have y0 := k0.lt
    go_wp2_with fail
    refine (HR.out _).mono ?_
    rintro e w2 ⟨rfl, hb⟩
    clear a0 b0
    replace k0 := Blk.later hb k0; replace hB := belowThru hB hb
    obtain ⟨a0, b0⟩ := k0.read
    have y0 := k0.lt
    clear hb
    go_wp2_with fail
    go_ret
    exact ⟨rfl, by (repeat' (first | (with_reducible exact Below.refl _ _) | (with_reducible assumption) | (with_reducible refine belowThru ?_ (by assumption)) | (with_reducible refine belowAlloc ?_) | (with_reducible refine Below.setCell ?_ (by first | omega | (simp; done) | (simp; omega)) _) | (with_reducible refine Below.drew ?_) | (with_reducible refine below_drewN ?_ _)))⟩
set_option maxRecDepth 100000 in
set_option maxHeartbeats 16000000 in
theorem reach_yes (s p g l : Int) (a : Option Addr) (n cap : Nat) (us : List Int) (h : okB s p g l) (hn : n ≤ 200) (hu : ∀ u ∈ us, 0 ≤ u ∧ u ≤ 255) (w : World) (hR : RowK 1 u81 w a n us) :
    Calls Try.prog 8 #[.agg #[.int .i64 s, .int .i64 p, .int .i64 g, .int .i64 l], .slice a n cap] w fun e w' => e = .returned (.bool true) ∧ Below w.heap.size w w' := by
  have HA := Lib.hid alive_true
  have hl : us.length = n := hR.1
  have HU := Lib.hid hu; have HL := Lib.hid hl; have HR := Lib.hid hR; have HO := Lib.hid h
  have HRe : Hid (∀ w, Calls Try.prog 18 #[.agg #[.int .i64 s, .int .i64 p, .int .i64 g, .int .i64 l], .int .i64 n] w fun r w' => r = .returned (.tuple #[.int .i64 (n * (s - p)), .int .i64 (n * (s + p)), .int .i64 0]) ∧ Below w.heap.size w w') := fun w => by
    have hd : 0 ≤ (n : Int) ∧ (n : Int) ≤ 1000000 := by omega
    have q := reach_any s p g l n w
    rw [show reF s p g l n = n * (s - p) from if_pos ⟨h, hd⟩, show reL s p g l n = n * (s + p) from if_pos ⟨h, hd⟩, show reE s p g l n = 0 from (if_pos h).trans (if_pos hd)] at q
    exact q
  have HV := HRv s p g l true (decide_eq_true h)
  have hbd := mvS_bd (s := s) h.2.1.1 us n (by omega)
  obtain ⟨X, hX⟩ : ∃ X : Int, (n : Int) * (s - p) = X := ⟨_, rfl⟩
  obtain ⟨Y, hY⟩ : ∃ Y : Int, (n : Int) * (s + p) = Y := ⟨_, rfl⟩
  rw [hX, hY] at HRe hbd
  have t1 : decide (X ≤ mvS s p us n) = true := decide_eq_true hbd.1
  have t2 : decide (mvS s p us n ≤ Y) = true := decide_eq_true hbd.2
  have c1 : decide ((200 : Int) < n) = false := decide_eq_false (by omega)
  obtain ⟨V, hV⟩ : ∃ V, mvS s p us = V := ⟨_, rfl⟩
  have HV0 : V 0 = 0 := by rw [← hV]; rfl
  have HVS : Hid (∀ (k : Nat) (u : Int), us[k]? = some u → V (k + 1) = V k + mvB s p u) := fun k u h => by rw [← hV]; exact mvS_snoc h
  have HVI : Hid (∀ k : Nat, k ≤ n → 0 ≤ V k ∧ V k ≤ 400000) := fun k hk => by rw [← hV]; exact mvS_in h us (by omega) (by omega)
  rw [hV] at t1 t2
  clear hV hX hY hbd hR hl hu h
  have HMv : Hid (∀ u, 0 ≤ u ∧ u ≤ 255 → ∀ w, Calls Try.prog 47 #[.agg #[.int .i64 s, .int .i64 p, .int .i64 g, .int .i64 l], .int .u8 u] w fun e w' => e = .returned (.int .i64 (mvB s p u)) ∧ Below w.heap.size w w') := fun u hu w => moved_any s p g l u HO.out hu w
  go_enter Try.func8, Try.ntmps8
  go_wp2_with fail
  refine (HA.out _).mono ?_
  rintro e w1 ⟨rfl, hb⟩
  have k0 : Blk w1 w.heap.size #[.int .i64 s, .int .i64 p, .int .i64 g, .int .i64 l] 26 := Blk.later hb (Blk.new rfl)
  have hB : Below w.heap.size w w1 := belowThru (belowAlloc (Below.refl _ _)) hb
  clear hb
  obtain ⟨a0, b0⟩ := k0.read
  have y0 := k0.lt
  go_wp2_with fail
  refine (HRe.out _).mono ?_
  rintro e w2 ⟨rfl, hb⟩
  clear a0 b0
  replace k0 := Blk.later hb k0; replace hB := belowThru hB hb
  obtain ⟨a0, b0⟩ := k0.read
  have y0 := k0.lt
  clear hb
  go_wp2_with fail
  refine (HV.out _).mono ?_
  rintro e w3 ⟨rfl, hb⟩
  clear a0 b0
  replace k0 := Blk.later hb k0; replace hB := belowThru hB hb
  obtain ⟨a0, b0⟩ := k0.read
  have y0 := k0.lt
  clear hb
  go_wp2_with fail
  have y3 : w.heap.size < w3.heap.size := y0
  clear a0 b0 y0
  go_loopw [9, 11, 34] (fun v _ i wr => ∃ k : Nat, k ≤ n ∧ i = .int .i64 k ∧ v = .int .i64 (V k) ∧ Blk wr w.heap.size #[.int .i64 s, .int .i64 p, .int .i64 g, .int .i64 l] 26 ∧ Below w.heap.size w wr) (fun _ _ i _ => n - (intOf i).toNat)
  case atStart => exact ⟨0, Nat.zero_le _, rfl, by rw [HV0], k0, hB⟩
  case round =>
    clear k0 hB
    obtain ⟨k, hk, rfl, rfl, k0, hB⟩ := hrel
    by_cases hlt : k < n
    · obtain ⟨b1, o1, u, rfl, hu, c1⟩ := HR.out.num8 hlt
      have c1 := cell_later hB c1
      have p0 : (0 : Int) ≤ (k : Int) := by omega
      have p1 : (k : Int) < (n : Int) := by omega
      have hu8 := HU.out u (List.mem_of_getElem? hu)
      have hs := HVS.out k u hu
      have hi := HVI.out (k + 1) hlt
      have e1 : IntKind.i64.wrap (V k + mvB s p u) = V (k + 1) := by rw [← hs]; exact IntWalk.i64_in _ (by omega)
      have HM := Lib.hid (HMv.out u hu8)
      clear hu hs hi hu8
      obtain ⟨a0, b0⟩ := k0.read
      have y0 := k0.lt
      go_wp2_with fail
      refine (HM.out _).mono ?_
      rintro e w5 ⟨rfl, hb⟩
      clear a0 b0
      replace k0 := Blk.later hb k0; replace hB := belowThru hB hb
      clear hb
      go_wp2_with fail
      go_roundw
      case rel => exact ⟨k + 1, hlt, by go_num, rfl, k0, hB⟩
      case measure => simp [intOf]; omega
    · obtain rfl : k = n := by omega
      go_wp2_with fail
      go_ret
      exact ⟨rfl, by (repeat' (first | (with_reducible exact Below.refl _ _) | (with_reducible assumption) | (with_reducible refine belowThru ?_ (by assumption)) | (with_reducible refine belowAlloc ?_) | (with_reducible refine Below.setCell ?_ (by first | omega | (simp; done) | (simp; omega)) _) | (with_reducible refine Below.drew ?_) | (with_reducible refine below_drewN ?_ _)))⟩
theorem reach_true (s p g l : Int) (a : Option Addr) (n cap : Nat) (us : List Int) (hn : n ≤ maxLen) (hu : ∀ u ∈ us, 0 ≤ u ∧ u ≤ 255) (w : World) (hR : RowK 1 u81 w a n us) :
    Calls Try.prog 8 #[.agg #[.int .i64 s, .int .i64 p, .int .i64 g, .int .i64 l], .slice a n cap] w fun e w' => e = .returned (.bool true) ∧ Below w.heap.size w w' := by
  by_cases h : okB s p g l ∧ n ≤ 200
  · exact reach_yes s p g l a n cap us h.1 h.2 hu w hR
  · refine reach_no s p g l a n cap _ _ _ w ?_ (reach_any s p g l n)
    by_cases ho : okB s p g l
    · have h2 : 200 < n := Nat.lt_of_not_le (fun k => h ⟨ho, k⟩)
      by_cases hd : 0 ≤ (n : Int) ∧ (n : Int) ≤ 1000000
      · right
        rw [show reE s p g l n = 0 from (if_pos ho).trans (if_pos hd)]
        exact ⟨rfl, decide_eq_true (by omega)⟩
      · left
        rw [show reE s p g l n = 2 from (if_pos ho).trans (if_neg hd)]
        rfl
    · left
      rw [show reE s p g l n = 90 from if_neg ho]
      rfl
end Go.Proofs.Ytbcnoklaaigclaa
