/-
  Layer 9: the law BeltPlace.
-/
import Derived.Test.YtbcnoklaaigclaaVMov
namespace Go.Proofs.Ytbcnoklaaigclaa
open Go.RowKit Go.Shelf
set_option linter.unusedVariables false
set_option linter.unusedSimpArgs false


theorem place_math {s p l d m V1 V0 : Int} {k : Nat} (h1 : 1 ≤ s) (h2 : 0 ≤ p) (h4 : p ≤ s - 1) (a1 : V1 ≤ ((k + 1 : Nat) : Int) * (s + p)) (a0 : (k : Int) * (s - p) ≤ V0) (hm : m ≤ l) (c1 : d ≤ V1) (c2 : V0 - m ≤ d) : fiB s p d ≤ (k : Int) + 1 ∧ (k : Int) + 1 ≤ laB s p l d := by
  rw [fiB_le h1 h2, le_laB h4]
  have e : (k : Int) + 1 - 1 = k := by omega
  rw [e]
  have e2 : ((k + 1 : Nat) : Int) = (k : Int) + 1 := by omega
  rw [e2] at a1
  omega
set_option maxRecDepth 100000 in
set_option maxHeartbeats 16000000 in
theorem place_no0 (s p g l d m : Int) (a : Option Addr) (n cap : Nat) (X Y e : Int) (w : World) (he : (e != 0) = true)
    (HW : Hid (∀ w, Calls Try.prog 16 #[.agg #[.int .i64 s, .int .i64 p, .int .i64 g, .int .i64 l], .int .i64 d] w fun r w' => r = .returned (.tuple #[.int .i64 X, .int .i64 Y, .int .i64 e]) ∧ Below w.heap.size w w')) :
    Calls Try.prog 9 #[.agg #[.int .i64 s, .int .i64 p, .int .i64 g, .int .i64 l], .int .i64 d, .int .i64 m, .slice a n cap] w fun e w' => e = .returned (.bool true) ∧ Below w.heap.size w w' := by
  have HA := Lib.hid alive_true
  go_enter Try.func9, Try.ntmps9
  go_wp2_with fail
  refine (HA.out _).mono ?_
  rintro e w1 ⟨rfl, hb⟩
  have k0 : Blk w1 w.heap.size #[.int .i64 s, .int .i64 p, .int .i64 g, .int .i64 l] 26 := Blk.later hb (Blk.new rfl)
  have hB : Below w.heap.size w w1 := belowThru (belowAlloc (Below.refl _ _)) hb
  clear hb
  obtain ⟨a0, b0⟩ := k0.read
  have y0 := k0.lt
  go_wp2_with fail
  refine (HW.out _).mono ?_
  rintro e w2 ⟨rfl, hb⟩
  clear a0 b0
  replace k0 := Blk.later hb k0; replace hB := belowThru hB hb
  obtain ⟨a0, b0⟩ := k0.read
  have y0 := k0.lt
  clear hb
  go_wp2_with fail

  go_ret
  exact ⟨rfl, by (repeat' (first | (with_reducible exact Below.refl _ _) | (with_reducible assumption) | (with_reducible refine belowThru ?_ (by assumption)) | (with_reducible refine belowAlloc ?_) | (with_reducible refine Below.setCell ?_ (by first | omega | (simp; done) | (simp; omega)) _) | (with_reducible refine Below.drew ?_) | (with_reducible refine below_drewN ?_ _)))⟩
set_option maxRecDepth 100000 in
set_option maxHeartbeats 16000000 in
theorem place_no1 (s p g l d m : Int) (a : Option Addr) (n cap : Nat) (X Y e : Int) (w : World) (he : (e != 0) = false) (hn : decide ((200 : Int) < n) = true)
    (HW : Hid (∀ w, Calls Try.prog 16 #[.agg #[.int .i64 s, .int .i64 p, .int .i64 g, .int .i64 l], .int .i64 d] w fun r w' => r = .returned (.tuple #[.int .i64 X, .int .i64 Y, .int .i64 e]) ∧ Below w.heap.size w w')) :
    Calls Try.prog 9 #[.agg #[.int .i64 s, .int .i64 p, .int .i64 g, .int .i64 l], .int .i64 d, .int .i64 m, .slice a n cap] w fun e w' => e = .returned (.bool true) ∧ Below w.heap.size w w' := by
  have HA := Lib.hid alive_true
  go_enter Try.func9, Try.ntmps9
  go_wp2_with fail
  refine (HA.out _).mono ?_
  rintro e w1 ⟨rfl, hb⟩
  have k0 : Blk w1 w.heap.size #[.int .i64 s, .int .i64 p, .int .i64 g, .int .i64 l] 26 := Blk.later hb (Blk.new rfl)
  have hB : Below w.heap.size w w1 := belowThru (belowAlloc (Below.refl _ _)) hb
  clear hb
  obtain ⟨a0, b0⟩ := k0.read
  have y0 := k0.lt
  go_wp2_with fail
  refine (HW.out _).mono ?_
  rintro e w2 ⟨rfl, hb⟩
  clear a0 b0
  replace k0 := Blk.later hb k0; replace hB := belowThru hB hb
  obtain ⟨a0, b0⟩ := k0.read
  have y0 := k0.lt
  clear hb
  go_wp2_with fail

  go_ret
  exact ⟨rfl, by (repeat' (first | (with_reducible exact Below.refl _ _) | (with_reducible assumption) | (with_reducible refine belowThru ?_ (by assumption)) | (with_reducible refine belowAlloc ?_) | (with_reducible refine Below.setCell ?_ (by first | omega | (simp; done) | (simp; omega)) _) | (with_reducible refine Below.drew ?_) | (with_reducible refine below_drewN ?_ _)))⟩
set_option maxRecDepth 100000 in
set_option maxHeartbeats 16000000 in
theorem place_no2 (s p g l d m : Int) (a : Option Addr) (n cap : Nat) (X Y e : Int) (w : World) (he : (e != 0) = false) (hn : decide ((200 : Int) < n) = false) (hm : decide (m < 0) = true)
    (HW : Hid (∀ w, Calls Try.prog 16 #[.agg #[.int .i64 s, .int .i64 p, .int .i64 g, .int .i64 l], .int .i64 d] w fun r w' => r = .returned (.tuple #[.int .i64 X, .int .i64 Y, .int .i64 e]) ∧ Below w.heap.size w w')) :
    Calls Try.prog 9 #[.agg #[.int .i64 s, .int .i64 p, .int .i64 g, .int .i64 l], .int .i64 d, .int .i64 m, .slice a n cap] w fun e w' => e = .returned (.bool true) ∧ Below w.heap.size w w' := by
  have HA := Lib.hid alive_true
  go_enter Try.func9, Try.ntmps9
  go_wp2_with fail
  refine (HA.out _).mono ?_
  rintro e w1 ⟨rfl, hb⟩
  have k0 : Blk w1 w.heap.size #[.int .i64 s, .int .i64 p, .int .i64 g, .int .i64 l] 26 := Blk.later hb (Blk.new rfl)
  have hB : Below w.heap.size w w1 := belowThru (belowAlloc (Below.refl _ _)) hb
  clear hb
  obtain ⟨a0, b0⟩ := k0.read
  have y0 := k0.lt
  go_wp2_with fail
  refine (HW.out _).mono ?_
  rintro e w2 ⟨rfl, hb⟩
  clear a0 b0
  replace k0 := Blk.later hb k0; replace hB := belowThru hB hb
  obtain ⟨a0, b0⟩ := k0.read
  have y0 := k0.lt
  clear hb
  go_wp2_with fail

  go_ret
  exact ⟨rfl, by (repeat' (first | (with_reducible exact Below.refl _ _) | (with_reducible assumption) | (with_reducible refine belowThru ?_ (by assumption)) | (with_reducible refine belowAlloc ?_) | (with_reducible refine Below.setCell ?_ (by first | omega | (simp; done) | (simp; omega)) _) | (with_reducible refine Below.drew ?_) | (with_reducible refine below_drewN ?_ _)))⟩
set_option maxRecDepth 100000 in
set_option maxHeartbeats 16000000 in
theorem place_no3 (s p g l d m : Int) (a : Option Addr) (n cap : Nat) (X Y e : Int) (w : World) (he : (e != 0) = false) (hn : decide ((200 : Int) < n) = false) (hm : decide (m < 0) = false) (hl : decide (l < m) = true)
    (HW : Hid (∀ w, Calls Try.prog 16 #[.agg #[.int .i64 s, .int .i64 p, .int .i64 g, .int .i64 l], .int .i64 d] w fun r w' => r = .returned (.tuple #[.int .i64 X, .int .i64 Y, .int .i64 e]) ∧ Below w.heap.size w w')) :
    Calls Try.prog 9 #[.agg #[.int .i64 s, .int .i64 p, .int .i64 g, .int .i64 l], .int .i64 d, .int .i64 m, .slice a n cap] w fun e w' => e = .returned (.bool true) ∧ Below w.heap.size w w' := by
  have HA := Lib.hid alive_true
  go_enter Try.func9, Try.ntmps9
  go_wp2_with fail
  refine (HA.out _).mono ?_
  rintro e w1 ⟨rfl, hb⟩
  have k0 : Blk w1 w.heap.size #[.int .i64 s, .int .i64 p, .int .i64 g, .int .i64 l] 26 := Blk.later hb (Blk.new rfl)
  have hB : Below w.heap.size w w1 := belowThru (belowAlloc (Below.refl _ _)) hb
  clear hb
  obtain ⟨a0, b0⟩ := k0.read
  have y0 := k0.lt
  go_wp2_with fail
  refine (HW.out _).mono ?_
  rintro e w2 ⟨rfl, hb⟩
  clear a0 b0
  replace k0 := Blk.later hb k0; replace hB := belowThru hB hb
  obtain ⟨a0, b0⟩ := k0.read
  have y0 := k0.lt
  clear hb
  go_wp2_with fail

  go_ret
  exact ⟨rfl, by (repeat' (first | (with_reducible exact Below.refl _ _) | (with_reducible assumption) | (with_reducible refine belowThru ?_ (by assumption)) | (with_reducible refine belowAlloc ?_) | (with_reducible refine Below.setCell ?_ (by first | omega | (simp; done) | (simp; omega)) _) | (with_reducible refine Below.drew ?_) | (with_reducible refine below_drewN ?_ _)))⟩
set_option maxRecDepth 100000 in
set_option maxHeartbeats 16000000 in
theorem place_yes (s p g l d m : Int) (a : Option Addr) (n cap : Nat) (us : List Int) (h : okB s p g l) (hd : 1 ≤ d ∧ d ≤ 1000000) (hn : n ≤ 200) (hm0 : 0 ≤ m) (hml : m ≤ l) (hu : ∀ u ∈ us, 0 ≤ u ∧ u ≤ 255) (w : World) (hR : RowK 1 u81 w a n us) :
    Calls Try.prog 9 #[.agg #[.int .i64 s, .int .i64 p, .int .i64 g, .int .i64 l], .int .i64 d, .int .i64 m, .slice a n cap] w fun e w' => e = .returned (.bool true) ∧ Below w.heap.size w w' := by
  have HA := Lib.hid alive_true
  have hl : us.length = n := hR.1
  have HU := Lib.hid hu; have HL := Lib.hid hl; have HR := Lib.hid hR; have HO := Lib.hid h
  have HW0 : Hid (∀ w, Calls Try.prog 16 #[.agg #[.int .i64 s, .int .i64 p, .int .i64 g, .int .i64 l], .int .i64 d] w fun r w' => r = .returned (.tuple #[.int .i64 (fiB s p d), .int .i64 (laB s p l d), .int .i64 0]) ∧ Below w.heap.size w w') := fun w => by
    have q := window_any s p g l d w
    rw [show wiF s p g l d = fiB s p d from if_pos ⟨h, hd⟩, show wiL s p g l d = laB s p l d from if_pos ⟨h, hd⟩, show wiE s p g l d = 0 from (if_pos h).trans (if_pos hd)] at q
    exact q
  have HV := HRv s p g l true (decide_eq_true h)
  obtain ⟨X, hX⟩ : ∃ X : Int, fiB s p d = X := ⟨_, rfl⟩
  obtain ⟨Y, hY⟩ : ∃ Y : Int, laB s p l d = Y := ⟨_, rfl⟩
  have HW := HW0
  rw [hX, hY] at HW
  have c1 : decide ((200 : Int) < n) = false := decide_eq_false (by omega)
  have c2 : decide (m < 0) = false := decide_eq_false (by omega)
  have c3 : decide (l < m) = false := decide_eq_false (by omega)
  obtain ⟨V, hV⟩ : ∃ V, mvS s p us = V := ⟨_, rfl⟩
  have HV0 : V 0 = 0 := by rw [← hV]; rfl
  have HVS : Hid (∀ (k : Nat) (u : Int), us[k]? = some u → V (k + 1) = V k + mvB s p u) := fun k u h => by rw [← hV]; exact mvS_snoc h
  have HVI : Hid (∀ k : Nat, k ≤ n → 0 ≤ V k ∧ V k ≤ 400000) := fun k hk => by rw [← hV]; exact mvS_in h us (by omega) (by omega)
  have HVM : Hid (∀ k : Nat, k < n → d ≤ V (k + 1) → V k - m ≤ d → X ≤ (k : Int) + 1 ∧ (k : Int) + 1 ≤ Y) := fun k hk q1 q2 => by
    have b1 := (mvS_bd (s := s) h.2.1.1 us (k + 1) (by omega)).2
    have b0 := (mvS_bd (s := s) h.2.1.1 us k (by omega)).1
    rw [hV] at b1 b0
    rw [← hX, ← hY]
    exact place_math h.1.1 h.2.1.1 h.2.1.2 b1 b0 hml q1 q2
  have hl2 : l ≤ 1000000 := h.2.2.2.2
  clear hV hX hY hR hl hu h HW0
  have HMv : Hid (∀ u, 0 ≤ u ∧ u ≤ 255 → ∀ w, Calls Try.prog 47 #[.agg #[.int .i64 s, .int .i64 p, .int .i64 g, .int .i64 l], .int .u8 u] w fun e w' => e = .returned (.int .i64 (mvB s p u)) ∧ Below w.heap.size w w') := fun u hu w => moved_any s p g l u HO.out hu w
  go_enter Try.func9, Try.ntmps9
  go_wp2_with fail
  refine (HA.out _).mono ?_
  rintro e w1 ⟨rfl, hb⟩
  have k0 : Blk w1 w.heap.size #[.int .i64 s, .int .i64 p, .int .i64 g, .int .i64 l] 26 := Blk.later hb (Blk.new rfl)
  have hB : Below w.heap.size w w1 := belowThru (belowAlloc (Below.refl _ _)) hb
  clear hb
  obtain ⟨a0, b0⟩ := k0.read
  have y0 := k0.lt
  go_wp2_with fail
  refine (HW.out _).mono ?_
  rintro e w2 ⟨rfl, hb⟩
  clear a0 b0
  replace k0 := Blk.later hb k0; replace hB := belowThru hB hb
  obtain ⟨a0, b0⟩ := k0.read
  have y0 := k0.lt
  clear hb
  go_wp2_with fail
  refine (HV.out _).mono ?_
  rintro e w3 ⟨rfl, hb⟩
  clear a0 b0
  replace k0 := Blk.later hb k0; replace hB := belowThru hB hb
  obtain ⟨a0, b0⟩ := k0.read
  have y0 := k0.lt
  clear hb
  go_wp2_with fail
  have y3 : w.heap.size < w3.heap.size := y0
  clear a0 b0 y0
  go_loopw [13, 14, 15, 16, 48] (fun v _ _ _ i wr => ∃ k : Nat, k ≤ n ∧ i = .int .i64 k ∧ v = .int .i64 (V k) ∧ Blk wr w.heap.size #[.int .i64 s, .int .i64 p, .int .i64 g, .int .i64 l] 26 ∧ Below w.heap.size w wr) (fun _ _ _ _ i _ => n - (intOf i).toNat)
  case atStart => exact ⟨0, Nat.zero_le _, rfl, by rw [HV0], k0, hB⟩
  case round =>
    clear k0 hB
    obtain ⟨k, hk, rfl, rfl, k0, hB⟩ := hrel
    by_cases hlt : k < n
    · obtain ⟨b1, o1, u, rfl, hu, cu⟩ := HR.out.num8 hlt
      have cu := cell_later hB cu
      have p0 : (0 : Int) ≤ (k : Int) := by omega
      have p1 : (k : Int) < (n : Int) := by omega
      have hu8 := HU.out u (List.mem_of_getElem? hu)
      have hs := HVS.out k u hu
      have hi := HVI.out (k + 1) hlt
      have hi0 := HVI.out k hk
      have hq := HVM.out k hlt
      have e1 : IntKind.i64.wrap (V k + mvB s p u) = V (k + 1) := by rw [← hs]; exact IntWalk.i64_in _ (by omega)
      have e2 : IntKind.i64.wrap (V k - m) = V k - m := IntWalk.i64_in _ (by omega)
      have HM := Lib.hid (HMv.out u hu8)
      clear hu hs hi hu8
      obtain ⟨a0, b0⟩ := k0.read
      have y0 := k0.lt
      go_wp2_with fail
      refine (HM.out _).mono ?_
      rintro e w5 ⟨rfl, hb⟩
      clear a0 b0
      replace k0 := Blk.later hb k0; replace hB := belowThru hB hb
      clear hb
      by_cases q1 : d ≤ V (k + 1)
      · have f1 : decide (d ≤ V (k + 1)) = true := decide_eq_true q1
        by_cases q2 : V k - m ≤ d
        · have f2 : decide (V k - m ≤ d) = true := decide_eq_true q2
          have q3 := hq q1 q2
          have f3 : decide ((k : Int) + 1 < X) = false := decide_eq_false (by omega)
          have f4 : decide (Y < (k : Int) + 1) = false := decide_eq_false (by omega)
          clear hq q1 q2 q3 hi0
          go_wp2_with fail
          go_roundw
          case rel => exact ⟨k + 1, hlt, by go_num, rfl, k0, hB⟩
          case measure => simp [intOf]; omega
        · have f2 : decide (V k - m ≤ d) = false := decide_eq_false q2
          clear hq q1 q2 hi0
          go_wp2_with fail
          go_roundw
          case rel => exact ⟨k + 1, hlt, by go_num, rfl, k0, hB⟩
          case measure => simp [intOf]; omega
      · have f1 : decide (d ≤ V (k + 1)) = false := decide_eq_false q1
        clear hq q1 hi0
        go_wp2_with fail
        go_roundw
        case rel => exact ⟨k + 1, hlt, by go_num, rfl, k0, hB⟩
        case measure => simp [intOf]; omega
    · obtain rfl : k = n := by omega
      go_wp2_with fail
      go_ret
      exact ⟨rfl, by (repeat' (first | (with_reducible exact Below.refl _ _) | (with_reducible assumption) | (with_reducible refine belowThru ?_ (by assumption)) | (with_reducible refine belowAlloc ?_) | (with_reducible refine Below.setCell ?_ (by first | omega | (simp; done) | (simp; omega)) _) | (with_reducible refine Below.drew ?_) | (with_reducible refine below_drewN ?_ _)))⟩
theorem place_true (s p g l d m : Int) (a : Option Addr) (n cap : Nat) (us : List Int) (hn : n ≤ maxLen) (hu : ∀ u ∈ us, 0 ≤ u ∧ u ≤ 255) (w : World) (hR : RowK 1 u81 w a n us) :
    Calls Try.prog 9 #[.agg #[.int .i64 s, .int .i64 p, .int .i64 g, .int .i64 l], .int .i64 d, .int .i64 m, .slice a n cap] w fun e w' => e = .returned (.bool true) ∧ Below w.heap.size w w' := by
  have HW := Lib.hid (window_any s p g l d)
  by_cases ho : okB s p g l
  · by_cases hd : 1 ≤ d ∧ d ≤ 1000000
    · have he : wiE s p g l d = 0 := (if_pos ho).trans (if_pos hd)
      by_cases h2 : n ≤ 200
      · by_cases h3 : m < 0
        · exact place_no2 s p g l d m a n cap _ _ _ w (by rw [he]; rfl) (decide_eq_false (by omega)) (decide_eq_true h3) HW
        · by_cases h4 : l < m
          · exact place_no3 s p g l d m a n cap _ _ _ w (by rw [he]; rfl) (decide_eq_false (by omega)) (decide_eq_false h3) (decide_eq_true h4) HW
          · exact place_yes s p g l d m a n cap us ho hd h2 (by omega) (by omega) hu w hR
      · exact place_no1 s p g l d m a n cap _ _ _ w (by rw [he]; rfl) (decide_eq_true (by omega)) HW
    · have he : wiE s p g l d = 2 := (if_pos ho).trans (if_neg hd)
      exact place_no0 s p g l d m a n cap _ _ _ w (by rw [he]; rfl) HW
  · have he : wiE s p g l d = 90 := if_neg ho
    exact place_no0 s p g l d m a n cap _ _ _ w (by rw [he]; rfl) HW
end Go.Proofs.Ytbcnoklaaigclaa
