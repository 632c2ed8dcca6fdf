/-
  Layer 9: windows, by the code.
-/
import Derived.Test.YtnkpejinnbiocaaVBase
namespace Go.Proofs.Ytnkpejinnbiocaa
open Go.RowKit
set_option linter.unusedVariables false
set_option linter.unusedSimpArgs false

theorem Blk.set2 {w : World} {b : Nat} {x0 y0 : Value} {t : TypeId} (h : Blk w b #[x0, y0] t) (x y : Value) : Blk ((w.setCell ⟨b, 0, none⟩ x).setCell ⟨b, 1, none⟩ y) b #[x, y] t := Blk.set (Blk.set h)
set_option maxRecDepth 100000 in
set_option maxHeartbeats 4000000 in
theorem windowOf_any (s p g l d : Int) (h : okB s p g l) (h1 : 1 ≤ d) (h2 : d ≤ 1000000) (w : World) :
    Calls Try.prog 34 #[.agg #[.int .i64 s, .int .i64 p, .int .i64 g, .int .i64 l], .int .i64 d] w fun e w' => e = .returned (.agg #[.int .i64 (fiB s p d), .int .i64 (laB s p l d)]) ∧ Below w.heap.size w w' := by
  obtain ⟨⟨s1, s2⟩, ⟨p1, p2⟩, ⟨g1, g2⟩, l1, l2⟩ := h
  have HM := Lib.hid (moves_any s p g l ⟨s1, s2⟩ ⟨p1, p2⟩)
  obtain ⟨F, hF⟩ : ∃ F, fiB s p d = F := ⟨_, rfl⟩
  obtain ⟨L, hL⟩ : ∃ L, laB s p l d = L := ⟨_, rfl⟩
  obtain ⟨a, ha⟩ : ∃ a, s - p = a := ⟨_, rfl⟩
  obtain ⟨b, hb⟩ : ∃ b, s + p = b := ⟨_, rfl⟩
  rw [hF, hL]
  rw [ha, hb] at HM
  have a1 : 1 ≤ a := by omega
  have b1 : 1 ≤ b := by omega
  have b2 : b ≤ 2000 := by omega
  have e1 : IntKind.i64.wrap (d + b) = d + b := IntWalk.i64_in _ (by omega)
  have e2 : IntKind.i64.wrap (d + b - 1) = d + b - 1 := IntWalk.i64_in _ (by omega)
  have e3 : IntKind.i64.wrap (d + l) = d + l := IntWalk.i64_in _ (by omega)
  have e4 : (d + b - 1).tdiv b = F := by rw [← hF, Int.tdiv_eq_ediv_of_nonneg (by omega), ← hb]; rfl
  have hq := laB_bd (s := s) (l := l) p2 h1 (by omega)
  rw [hL] at hq
  have e5 : (d + l).tdiv a = L - 1 := by rw [← hL, Int.tdiv_eq_ediv_of_nonneg (by omega), ← ha]; unfold laB; omega
  have hf := fiB_bd (d := d) s1 p1 h1
  rw [hF] at hf
  obtain ⟨hf1, hf2⟩ := hf
  obtain ⟨hq1, hq2⟩ := hq
  have e6 : IntKind.i64.wrap F = F := IntWalk.i64_in _ (by omega)
  have e7 : IntKind.i64.wrap (L - 1) = L - 1 := IntWalk.i64_in _ (by omega)
  have e8 : IntKind.i64.wrap (L - 1 + 1) = L := by rw [show L - 1 + 1 = L by omega]; exact IntWalk.i64_in _ (by omega)
  have z1 : (b == 0) = false := by simp; omega
  have z2 : (a == 0) = false := by simp; omega
  clear hF hL ha hb s1 s2 p1 p2
  go_enter Try.func34, Try.ntmps34
  go_wp2_with fail
  refine (HM.out _).mono ?_
  rintro e w1 ⟨rfl, hb⟩
  have k0 : Blk w1 w.heap.size #[.int .i64 s, .int .i64 p, .int .i64 g, .int .i64 l] 23 := Blk.later hb (by (repeat' (first | (with_reducible assumption) | ((with_reducible refine Blk.new ?_); first | rfl | (simp; done)) | (with_reducible refine Blk.later (by assumption) ?_) | (with_reducible refine Blk.alloc ?_) | (with_reducible refine Blk.drewN ?_) | (with_reducible refine Blk.drew ?_) | (with_reducible refine Blk.other ?_ (by first | omega | (simp; done) | (simp; omega))))))
  have k1 : Blk w1 (w.heap.size + 1) #[.int .i64 0, .int .i64 0] 81 := Blk.later hb (by (repeat' (first | (with_reducible assumption) | ((with_reducible refine Blk.new ?_); first | rfl | (simp; done)) | (with_reducible refine Blk.later (by assumption) ?_) | (with_reducible refine Blk.alloc ?_) | (with_reducible refine Blk.drewN ?_) | (with_reducible refine Blk.drew ?_) | (with_reducible refine Blk.other ?_ (by first | omega | (simp; done) | (simp; omega))))))
  have hB : Below w.heap.size w w1 := by (repeat' (first | (with_reducible exact Below.refl _ _) | (with_reducible assumption) | (with_reducible refine belowThru ?_ (by assumption)) | (with_reducible refine belowAlloc ?_) | (with_reducible refine Below.setCell ?_ (by first | omega | (simp; done) | (simp; omega)) _) | (with_reducible refine Below.drew ?_) | (with_reducible refine below_drewN ?_ _)))
  obtain ⟨a0, b0⟩ := k0.read
  obtain ⟨a1', b1'⟩ := k1.read
  have y0 := k0.lt
  have y1 := k1.lt
  clear hb
  go_wp2_with fail
  go_region
  all_goals go_wp2_with fail
  all_goals
    have k2 := (k1.set2 (.int .i64 F) (.int .i64 L)).drew
    have q2 := k2.cells
    exact bodyPost_ret (v := .agg #[.int .i64 F, .int .i64 L]) (by simp only [results, Try.results34]; go_simp) rfl ⟨rfl, by (repeat' (first | (with_reducible exact Below.refl _ _) | (with_reducible assumption) | (with_reducible refine belowThru ?_ (by assumption)) | (with_reducible refine belowAlloc ?_) | (with_reducible refine Below.setCell ?_ (by first | omega | (simp; done) | (simp; omega)) _) | (with_reducible refine Below.drew ?_) | (with_reducible refine below_drewN ?_ _)))⟩
set_option maxRecDepth 100000 in
set_option maxHeartbeats 4000000 in
theorem after_any (F L a : Int) (hF : 0 ≤ F ∧ F ≤ 2000001) (hL : 0 ≤ L ∧ L ≤ 2000001) (ha : 0 ≤ a ∧ a ≤ 1099511627776) (w : World) :
    Calls Try.prog 35 #[.agg #[.int .i64 F, .int .i64 L], .int .i64 a] w fun e w' => e = .returned (.agg #[.int .i64 (a + F), .int .i64 (a + L)]) ∧ Below w.heap.size w w' := by
  obtain ⟨hF1, hF2⟩ := hF
  obtain ⟨hL1, hL2⟩ := hL
  obtain ⟨ha1, ha2⟩ := ha
  obtain ⟨x, hx⟩ : ∃ x, a + F = x := ⟨_, rfl⟩
  obtain ⟨y, hy⟩ : ∃ y, a + L = y := ⟨_, rfl⟩
  have e1 : IntKind.i64.wrap (a + F) = x := by rw [IntWalk.i64_in _ (by omega), hx]
  have e2 : IntKind.i64.wrap (a + L) = y := by rw [IntWalk.i64_in _ (by omega), hy]
  have e3 : IntKind.i64.wrap x = x := IntWalk.i64_in _ (by omega)
  have e4 : IntKind.i64.wrap y = y := IntWalk.i64_in _ (by omega)
  rw [hx, hy]
  clear hF1 hF2 hL1 hL2 ha1 ha2
  go_enter Try.func35, Try.ntmps35
  go_wp2_with fail
  have k1 : Blk ((w.alloc (.cells #[.int .i64 F, .int .i64 L] 81)).alloc (.cells #[.int .i64 0, .int .i64 0] 81)) (w.heap.size + 1) #[.int .i64 0, .int .i64 0] 81 := by (repeat' (first | (with_reducible assumption) | ((with_reducible refine Blk.new ?_); first | rfl | (simp; done)) | (with_reducible refine Blk.later (by assumption) ?_) | (with_reducible refine Blk.alloc ?_) | (with_reducible refine Blk.drewN ?_) | (with_reducible refine Blk.drew ?_) | (with_reducible refine Blk.other ?_ (by first | omega | (simp; done) | (simp; omega)))))
  have k2 := k1.set2 (.int .i64 x) (.int .i64 y)
  have q2 := k2.cells
  exact bodyPost_ret (v := .agg #[.int .i64 x, .int .i64 y]) (by simp only [results, Try.results35]; go_simp) rfl ⟨rfl, by (repeat' (first | (with_reducible exact Below.refl _ _) | (with_reducible assumption) | (with_reducible refine belowThru ?_ (by assumption)) | (with_reducible refine belowAlloc ?_) | (with_reducible refine Below.setCell ?_ (by first | omega | (simp; done) | (simp; omega)) _) | (with_reducible refine Below.drew ?_) | (with_reducible refine below_drewN ?_ _)))⟩
set_option maxHeartbeats 4000000 in
theorem has_any (F L c : Int) (w : World) :
    Calls Try.prog 60 #[.agg #[.int .i64 F, .int .i64 L], .int .i64 c] w fun e w' => e = .returned (.bool (decide (F ≤ c ∧ c ≤ L))) ∧ Below w.heap.size w w' := by
  have HC := Lib.hid (vwithin_any c F L)
  obtain ⟨b, hb⟩ : ∃ b, decide (F ≤ c ∧ c ≤ L) = b := ⟨_, rfl⟩
  rw [hb] at HC ⊢
  clear hb
  go_enter Try.func60, Try.ntmps60
  go_wp2_with (go_at_call 39; ((with_reducible refine (HC.out _).mono ?_); rintro e w1 ⟨rfl, rfl⟩))
  go_ret
  exact ⟨rfl, by (repeat' (first | (with_reducible exact Below.refl _ _) | (with_reducible assumption) | (with_reducible refine belowThru ?_ (by assumption)) | (with_reducible refine belowAlloc ?_) | (with_reducible refine Below.setCell ?_ (by first | omega | (simp; done) | (simp; omega)) _) | (with_reducible refine Below.drew ?_) | (with_reducible refine below_drewN ?_ _)))⟩
set_option maxHeartbeats 4000000 in
theorem isPart_any (i a v F L c : Int) (h : Bool) (w : World) :
    Calls Try.prog 40 #[.agg #[.int .i64 i, .int .i64 a, .int .u8 v, .bool h], .agg #[.int .i64 F, .int .i64 L], .int .i64 c] w fun e w' => e = .returned (.bool (decide (c < L ∧ v ≤ 3 ∧ ¬ (h = true ∧ c < F)))) ∧ Below w.heap.size w w' := by
  by_cases h1 : c < L
  · by_cases h2 : v ≤ 3
    · cases h with
      | true =>
        by_cases h3 : c < F
        · rw [decide_eq_false (fun k => k.2.2 ⟨rfl, h3⟩)]
          go_enter Try.func40, Try.ntmps40
          go_wp2
          go_ret
          exact ⟨rfl, by (repeat' (first | (with_reducible exact Below.refl _ _) | (with_reducible assumption) | (with_reducible refine belowThru ?_ (by assumption)) | (with_reducible refine belowAlloc ?_) | (with_reducible refine Below.setCell ?_ (by first | omega | (simp; done) | (simp; omega)) _) | (with_reducible refine Below.drew ?_) | (with_reducible refine below_drewN ?_ _)))⟩
        · rw [decide_eq_true ⟨h1, h2, fun k => h3 k.2⟩]
          go_enter Try.func40, Try.ntmps40
          go_wp2
          go_ret
          exact ⟨rfl, by (repeat' (first | (with_reducible exact Below.refl _ _) | (with_reducible assumption) | (with_reducible refine belowThru ?_ (by assumption)) | (with_reducible refine belowAlloc ?_) | (with_reducible refine Below.setCell ?_ (by first | omega | (simp; done) | (simp; omega)) _) | (with_reducible refine Below.drew ?_) | (with_reducible refine below_drewN ?_ _)))⟩
      | false =>
        rw [decide_eq_true ⟨h1, h2, fun k => by cases k.1⟩]
        go_enter Try.func40, Try.ntmps40
        go_wp2
        go_ret
        exact ⟨rfl, by (repeat' (first | (with_reducible exact Below.refl _ _) | (with_reducible assumption) | (with_reducible refine belowThru ?_ (by assumption)) | (with_reducible refine belowAlloc ?_) | (with_reducible refine Below.setCell ?_ (by first | omega | (simp; done) | (simp; omega)) _) | (with_reducible refine Below.drew ?_) | (with_reducible refine below_drewN ?_ _)))⟩
    · rw [decide_eq_false (fun k => h2 k.2.1)]
      go_enter Try.func40, Try.ntmps40
      go_wp2
      go_ret
      exact ⟨rfl, by (repeat' (first | (with_reducible exact Below.refl _ _) | (with_reducible assumption) | (with_reducible refine belowThru ?_ (by assumption)) | (with_reducible refine belowAlloc ?_) | (with_reducible refine Below.setCell ?_ (by first | omega | (simp; done) | (simp; omega)) _) | (with_reducible refine Below.drew ?_) | (with_reducible refine below_drewN ?_ _)))⟩
  · rw [decide_eq_false (fun k => h1 k.1)]
    go_enter Try.func40, Try.ntmps40
    go_wp2
    go_ret
    exact ⟨rfl, by (repeat' (first | (with_reducible exact Below.refl _ _) | (with_reducible assumption) | (with_reducible refine belowThru ?_ (by assumption)) | (with_reducible refine belowAlloc ?_) | (with_reducible refine Below.setCell ?_ (by first | omega | (simp; done) | (simp; omega)) _) | (with_reducible refine Below.drew ?_) | (with_reducible refine below_drewN ?_ _)))⟩

/-! ### Window, Reach, Clear -/
/-- What Window returns. -/
def wiF (s p g l d : Int) : Int := if okB s p g l ∧ 1 ≤ d ∧ d ≤ 1000000 then fiB s p d else 0
def wiL (s p g l d : Int) : Int := if okB s p g l ∧ 1 ≤ d ∧ d ≤ 1000000 then laB s p l d else 0
def wiE (s p g l d : Int) : Int := if okB s p g l then (if 1 ≤ d ∧ d ≤ 1000000 then 0 else 2) else 90
def reF (s p g l n : Int) : Int := if okB s p g l ∧ 0 ≤ n ∧ n ≤ 1000000 then n * (s - p) else 0
def reL (s p g l n : Int) : Int := if okB s p g l ∧ 0 ≤ n ∧ n ≤ 1000000 then n * (s + p) else 0
def reE (s p g l n : Int) : Int := if okB s p g l then (if 0 ≤ n ∧ n ≤ 1000000 then 0 else 2) else 90
def clN (s p g l : Int) : Int := if okB s p g l then laB s p l g - fiB s p g + 1 else 0
theorem HCk (s p g l e : Int) (h : ckB s p g l = e) : Hid (∀ w, Calls Try.prog 30 #[.agg #[.int .i64 s, .int .i64 p, .int .i64 g, .int .i64 l]] w fun r w' => r = .returned (.int .i64 e) ∧ Below w.heap.size w w') := fun w => by
  have := ckB_any s p g l w
  rwa [h] at this
set_option maxRecDepth 100000 in
set_option maxHeartbeats 4000000 in
theorem window_any (s p g l d : Int) (w : World) :
    Calls Try.prog 26 #[.agg #[.int .i64 s, .int .i64 p, .int .i64 g, .int .i64 l], .int .i64 d] w fun e w' => e = .returned (.tuple #[.int .i64 (wiF s p g l d), .int .i64 (wiL s p g l d), .int .i64 (wiE s p g l d)]) ∧ Below w.heap.size w w' := by
  by_cases h : okB s p g l
  · have HC := HCk s p g l 0 (if_pos h)
    by_cases hd : 1 ≤ d ∧ d ≤ 1000000
    · have HP : Hid (∀ w, Calls Try.prog 56 #[.int .i64 d] w fun e w' => e = .returned (.bool true) ∧ w = w') := fun w => by have := isPlace_any d w; rwa [decide_eq_true hd] at this
      have HW := Lib.hid (windowOf_any s p g l d h hd.1 hd.2)
      have e1 : wiF s p g l d = fiB s p d := if_pos ⟨h, hd⟩
      have e2 : wiL s p g l d = laB s p l d := if_pos ⟨h, hd⟩
      have e3 : wiE s p g l d = 0 := (if_pos h).trans (if_pos hd)
      rw [e1, e2, e3]
      clear e1 e2 e3 h hd
      obtain ⟨F, hF⟩ : ∃ F, fiB s p d = F := ⟨_, rfl⟩
      obtain ⟨L, hL⟩ : ∃ L, laB s p l d = L := ⟨_, rfl⟩
      rw [hF, hL] at HW ⊢
      clear hF hL
      go_enter Try.func26, Try.ntmps26
      go_wp2_with fail
      refine (HC.out _).mono ?_
      rintro e w1 ⟨rfl, hb⟩
      have k0 : Blk w1 w.heap.size #[.int .i64 s, .int .i64 p, .int .i64 g, .int .i64 l] 23 := Blk.later hb (by (repeat' (first | (with_reducible assumption) | ((with_reducible refine Blk.new ?_); first | rfl | (simp; done)) | (with_reducible refine Blk.later (by assumption) ?_) | (with_reducible refine Blk.alloc ?_) | (with_reducible refine Blk.drewN ?_) | (with_reducible refine Blk.drew ?_) | (with_reducible refine Blk.other ?_ (by first | omega | (simp; done) | (simp; omega))))))
      have hB : Below w.heap.size w w1 := by (repeat' (first | (with_reducible exact Below.refl _ _) | (with_reducible assumption) | (with_reducible refine belowThru ?_ (by assumption)) | (with_reducible refine belowAlloc ?_) | (with_reducible refine Below.setCell ?_ (by first | omega | (simp; done) | (simp; omega)) _) | (with_reducible refine Below.drew ?_) | (with_reducible refine below_drewN ?_ _)))
      obtain ⟨a0, b0⟩ := k0.read
      have y0 := k0.lt
      clear hb
      go_wp2_with (first
        | (go_at_call 56; ((with_reducible refine (HP.out _).mono ?_); rintro e w2 ⟨rfl, rfl⟩))
        | (go_at_call 34; ((with_reducible refine (HW.out _).mono ?_); rintro e w2 ⟨rfl, hb⟩)))
      go_quiet (fail)
      go_wp2
      exact bodyPost_ret (v := .tuple #[.int .i64 F, .int .i64 L, .int .i64 0]) (by simp only [results, Try.results26]; go_simp) rfl ⟨rfl, by (repeat' (first | (with_reducible exact Below.refl _ _) | (with_reducible assumption) | (with_reducible refine belowThru ?_ (by assumption)) | (with_reducible refine belowAlloc ?_) | (with_reducible refine Below.setCell ?_ (by first | omega | (simp; done) | (simp; omega)) _) | (with_reducible refine Below.drew ?_) | (with_reducible refine below_drewN ?_ _)))⟩
    · have HP : Hid (∀ w, Calls Try.prog 56 #[.int .i64 d] w fun e w' => e = .returned (.bool false) ∧ w = w') := fun w => by have := isPlace_any d w; rwa [decide_eq_false hd] at this
      have e1 : wiF s p g l d = 0 := if_neg (fun k => hd k.2)
      have e2 : wiL s p g l d = 0 := if_neg (fun k => hd k.2)
      have e3 : wiE s p g l d = 2 := (if_pos h).trans (if_neg hd)
      rw [e1, e2, e3]
      clear e1 e2 e3 h hd
      go_enter Try.func26, Try.ntmps26
      go_wp2_with (first
        | (go_at_call 30; ((with_reducible refine (HC.out _).mono ?_); rintro e w1 ⟨rfl, hb⟩))
        | (go_at_call 56; ((with_reducible refine (HP.out _).mono ?_); rintro e w2 ⟨rfl, rfl⟩)))
      exact bodyPost_ret (v := .tuple #[.int .i64 0, .int .i64 0, .int .i64 2]) (by simp only [results, Try.results26]; go_simp) rfl ⟨rfl, by (repeat' (first | (with_reducible exact Below.refl _ _) | (with_reducible assumption) | (with_reducible refine belowThru ?_ (by assumption)) | (with_reducible refine belowAlloc ?_) | (with_reducible refine Below.setCell ?_ (by first | omega | (simp; done) | (simp; omega)) _) | (with_reducible refine Below.drew ?_) | (with_reducible refine below_drewN ?_ _)))⟩
  · have HC := HCk s p g l 90 (if_neg h)
    have e1 : wiF s p g l d = 0 := if_neg (fun k => h k.1)
    have e2 : wiL s p g l d = 0 := if_neg (fun k => h k.1)
    have e3 : wiE s p g l d = 90 := if_neg h
    rw [e1, e2, e3]
    clear e1 e2 e3 h
    go_enter Try.func26, Try.ntmps26
    go_wp2_with (go_at_call 30; ((with_reducible refine (HC.out _).mono ?_); rintro e w1 ⟨rfl, hb⟩))
    exact bodyPost_ret (v := .tuple #[.int .i64 0, .int .i64 0, .int .i64 90]) (by simp only [results, Try.results26]; go_simp) rfl ⟨rfl, by (repeat' (first | (with_reducible exact Below.refl _ _) | (with_reducible assumption) | (with_reducible refine belowThru ?_ (by assumption)) | (with_reducible refine belowAlloc ?_) | (with_reducible refine Below.setCell ?_ (by first | omega | (simp; done) | (simp; omega)) _) | (with_reducible refine Below.drew ?_) | (with_reducible refine below_drewN ?_ _)))⟩
end Go.Proofs.Ytnkpejinnbiocaa
