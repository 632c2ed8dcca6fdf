/-
  Layer 9: NewTrack and Open, by the code.
-/
import Derived.Test.YtnkpejinnbiocaaVSen
namespace Go.Proofs.Ytnkpejinnbiocaa
open Go.RowKit Go.Shelf
set_option linter.unusedVariables false
set_option linter.unusedSimpArgs false


set_option maxRecDepth 100000 in
set_option maxHeartbeats 16000000 in
theorem new_bad (s p g l E : Int) (hE : (E != 0) = true) (w : World) (HC : Hid (∀ w, Calls Try.prog 30 #[.agg #[.int .i64 s, .int .i64 p, .int .i64 g, .int .i64 l]] w fun e w' => e = .returned (.int .i64 E) ∧ Below w.heap.size w w')) :
    Calls Try.prog 8 #[.agg #[.int .i64 s, .int .i64 p, .int .i64 g, .int .i64 l]] w fun e w' => e = .returned (.tuple #[.agg #[.int .i64 0, .int .i64 0, .int .i64 0, .int .i64 0, .int .i64 0, .int .i64 0, .slice none 0 0], .int .i64 E]) ∧ Below w.heap.size w w' := by
  go_enter Try.func8, Try.ntmps8
  go_wp2_with fail
  refine (HC.out _).mono ?_
  rintro e w1 ⟨rfl, hb⟩
  have kR : Blk w1 (w.heap.size + 1) #[.int .i64 0, .int .i64 0, .int .i64 0, .int .i64 0, .int .i64 0, .int .i64 0, .slice none 0 0] 26 := Blk.later hb (Blk.new (by simp))
  have hB : Below w.heap.size w w1 := belowThru (belowAlloc (belowAlloc (Below.refl _ _))) hb
  clear hb
  obtain ⟨aR, bR⟩ := kR.read; have yR := kR.lt
  go_wp2_with fail
  have q2 := (kR.set7 (.int .i64 0) (.int .i64 0) (.int .i64 0) (.int .i64 0) (.int .i64 0) (.int .i64 0) (.slice none 0 0)).cells
  exact bodyPost_ret (v := .tuple #[.agg #[.int .i64 0, .int .i64 0, .int .i64 0, .int .i64 0, .int .i64 0, .int .i64 0, .slice none 0 0], .int .i64 E]) (by simp only [results, Try.results8]; go_simp) rfl ⟨rfl, by (repeat' (first | (with_reducible exact Below.refl _ _) | (with_reducible assumption) | (with_reducible refine belowThru ?_ (by assumption)) | (with_reducible refine belowAlloc ?_) | (with_reducible refine Below.setCell ?_ (by first | omega | (simp; done) | (simp; omega)) _) | (with_reducible refine Below.drew ?_) | (with_reducible refine below_drewN ?_ _)))⟩
set_option maxRecDepth 100000 in
set_option maxHeartbeats 16000000 in
theorem new_yes (s p g l : Int) (w : World) (HC : Hid (∀ w, Calls Try.prog 30 #[.agg #[.int .i64 s, .int .i64 p, .int .i64 g, .int .i64 l]] w fun e w' => e = .returned (.int .i64 0) ∧ Below w.heap.size w w')) :
    Calls Try.prog 8 #[.agg #[.int .i64 s, .int .i64 p, .int .i64 g, .int .i64 l]] w fun e w' => e = .returned (.tuple #[.agg #[.int .i64 s, .int .i64 p, .int .i64 g, .int .i64 l, .int .i64 0, .int .i64 0, .slice none 0 0], .int .i64 0]) ∧ Below w.heap.size w w' := by
  go_enter Try.func8, Try.ntmps8
  go_wp2_with fail
  refine (HC.out _).mono ?_
  rintro e w1 ⟨rfl, hb⟩
  have kP : Blk w1 w.heap.size #[.int .i64 s, .int .i64 p, .int .i64 g, .int .i64 l] 23 := Blk.later hb (Blk.alloc (Blk.new rfl))
  have kR : Blk w1 (w.heap.size + 1) #[.int .i64 0, .int .i64 0, .int .i64 0, .int .i64 0, .int .i64 0, .int .i64 0, .slice none 0 0] 26 := Blk.later hb (Blk.new (by simp))
  have hB : Below w.heap.size w w1 := belowThru (belowAlloc (belowAlloc (Below.refl _ _))) hb
  clear hb
  obtain ⟨aR, bR⟩ := kR.read; have yR := kR.lt
  obtain ⟨aP, bP⟩ := kP.read; have yP := kP.lt
  go_wp2_with fail
  have q2 := (kR.set7 (.int .i64 s) (.int .i64 p) (.int .i64 g) (.int .i64 l) (.int .i64 0) (.int .i64 0) (.slice none 0 0)).cells
  exact bodyPost_ret (v := .tuple #[.agg #[.int .i64 s, .int .i64 p, .int .i64 g, .int .i64 l, .int .i64 0, .int .i64 0, .slice none 0 0], .int .i64 0]) (by simp only [results, Try.results8]; go_simp) rfl ⟨rfl, by (repeat' (first | (with_reducible exact Below.refl _ _) | (with_reducible assumption) | (with_reducible refine belowThru ?_ (by assumption)) | (with_reducible refine belowAlloc ?_) | (with_reducible refine Below.setCell ?_ (by first | omega | (simp; done) | (simp; omega)) _) | (with_reducible refine Below.drew ?_) | (with_reducible refine below_drewN ?_ _)))⟩
/-- What NewTrack returns. -/
theorem new_any (s p g l : Int) (w : World) :
    Calls Try.prog 8 #[.agg #[.int .i64 s, .int .i64 p, .int .i64 g, .int .i64 l]] w fun e w' => e = .returned (.tuple #[.agg (if okB s p g l then #[.int .i64 s, .int .i64 p, .int .i64 g, .int .i64 l, .int .i64 0, .int .i64 0, .slice none 0 0] else #[.int .i64 0, .int .i64 0, .int .i64 0, .int .i64 0, .int .i64 0, .int .i64 0, .slice none 0 0]), .int .i64 (ckB s p g l)]) ∧ Below w.heap.size w w' := by
  by_cases h : okB s p g l
  · rw [show ckB s p g l = 0 from if_pos h, if_pos h]; exact new_yes s p g l w (HCk s p g l 0 (if_pos h))
  · rw [show ckB s p g l = 90 from if_neg h, if_neg h]; exact new_bad s p g l 90 (by decide) w (HCk s p g l 90 (if_neg h))
set_option maxRecDepth 100000 in
set_option maxHeartbeats 16000000 in
theorem open_bad (s p g l c nx : Int) (a : Option Addr) (n cap : Nat) (xs : List Sn) (E : Int) (hE : (E != 0) = true) (w : World) (hR : RowK 4 sn1 w a n xs) (HC : Hid (∀ w, RowK 4 sn1 w a n xs → Calls Try.prog 14 #[.agg #[.int .i64 s, .int .i64 p, .int .i64 g, .int .i64 l, .int .i64 c, .int .i64 nx, .slice a n cap]] w fun e w' => e = .returned (.int .i64 E) ∧ Below w.heap.size w w')) :
    Calls Try.prog 17 #[.agg #[.int .i64 s, .int .i64 p, .int .i64 g, .int .i64 l, .int .i64 c, .int .i64 nx, .slice a n cap]] w fun e w' => e = .returned (.tuple #[.bool false, .int .i64 E]) ∧ Below w.heap.size w w' := by
  have HR := Lib.hid hR
  clear hR
  go_enter Try.func17, Try.ntmps17
  go_wp2_with (go_at_call 14; (with_reducible refine (HC.out _ (HR.out.later (by (repeat' (first | (with_reducible exact Below.refl _ _) | (with_reducible assumption) | (with_reducible refine belowThru ?_ (by assumption)) | (with_reducible refine belowAlloc ?_) | (with_reducible refine Below.setCell ?_ (by first | omega | (simp; done) | (simp; omega)) _) | (with_reducible refine Below.drew ?_) | (with_reducible refine below_drewN ?_ _)))))).mono ?_); rintro e w1 ⟨rfl, hb⟩)
  go_ret2
  exact ⟨rfl, by (repeat' (first | (with_reducible exact Below.refl _ _) | (with_reducible assumption) | (with_reducible refine belowThru ?_ (by assumption)) | (with_reducible refine belowAlloc ?_) | (with_reducible refine Below.setCell ?_ (by first | omega | (simp; done) | (simp; omega)) _) | (with_reducible refine Below.drew ?_) | (with_reducible refine below_drewN ?_ _)))⟩
set_option maxRecDepth 100000 in
set_option maxHeartbeats 16000000 in
theorem open_yes (s p g l c nx F L : Int) (a : Option Addr) (n cap : Nat) (xs : List Sn) (hF : 1 ≤ F ∧ F ≤ 2000001) (hL : 1 ≤ L ∧ L ≤ 2000001) (hx : ∀ x ∈ xs, 0 ≤ x.2.1 ∧ x.2.1 ≤ 1099511627776) (hn : n ≤ maxLen) (hc : 0 ≤ c ∧ c ≤ 1099511627776) (w : World) (hR : RowK 4 sn1 w a n xs) (HC : Hid (∀ w, RowK 4 sn1 w a n xs → Calls Try.prog 14 #[.agg #[.int .i64 s, .int .i64 p, .int .i64 g, .int .i64 l, .int .i64 c, .int .i64 nx, .slice a n cap]] w fun e w' => e = .returned (.int .i64 0) ∧ Below w.heap.size w w'))
    (HW : Hid (∀ w, Calls Try.prog 34 #[.agg #[.int .i64 s, .int .i64 p, .int .i64 g, .int .i64 l], .int .i64 g] w fun e w' => e = .returned (.agg #[.int .i64 F, .int .i64 L]) ∧ Below w.heap.size w w')) :
    Calls Try.prog 17 #[.agg #[.int .i64 s, .int .i64 p, .int .i64 g, .int .i64 l, .int .i64 c, .int .i64 nx, .slice a n cap]] w fun e w' => e = .returned (.tuple #[.bool (opB F L (c + 1) xs), .int .i64 0]) ∧ Below w.heap.size w w' := by
  have HI : Hid (∀ (w : World), RowK 4 sn1 w a n xs → Calls Try.prog 42 #[.slice a n cap, .agg #[.int .i64 F, .int .i64 L], .int .i64 (c + 1)] w fun e w' => e = .returned (.bool (opB F L (c + 1) xs)) ∧ Below w.heap.size w w') := fun w h => isOpen_any a n cap xs F L (c + 1) hF hL hx hn w h
  have HR := Lib.hid hR
  obtain ⟨c1, c2⟩ := hc
  have v1 : IntKind.i64.wrap (c + 1) = c + 1 := IntWalk.i64_in _ (by omega)
  obtain ⟨r, hr⟩ : ∃ r, opB F L (c + 1) xs = r := ⟨_, rfl⟩
  rw [hr] at HI ⊢
  clear hR hF hL hx hn hr
  go_enter Try.func17, Try.ntmps17
  go_wp2_with fail
  refine (HC.out _ (HR.out.later (by (repeat' (first | (with_reducible exact Below.refl _ _) | (with_reducible assumption) | (with_reducible refine belowThru ?_ (by assumption)) | (with_reducible refine belowAlloc ?_) | (with_reducible refine Below.setCell ?_ (by first | omega | (simp; done) | (simp; omega)) _) | (with_reducible refine Below.drew ?_) | (with_reducible refine below_drewN ?_ _)))))).mono ?_
  rintro e w1 ⟨rfl, hb⟩
  have kT : Blk w1 w.heap.size #[.int .i64 s, .int .i64 p, .int .i64 g, .int .i64 l, .int .i64 c, .int .i64 nx, .slice a n cap] 26 := Blk.later hb (Blk.new rfl)
  have hB : Below w.heap.size w w1 := belowThru (belowAlloc (Below.refl _ _)) hb
  clear hb
  have yT := kT.lt
  go_wp2_with fail
  obtain ⟨Wp, rfl⟩ : ∃ W, W = w1 := ⟨_, rfl⟩
  go_region_held3 (fun w' => (Blk w' (w.heap.size) #[.int .i64 s, .int .i64 p, .int .i64 g, .int .i64 l, .int .i64 c, .int .i64 nx, .slice a n cap] 26 ∧ (∀ i : Nat, w'.cell? ⟨w.heap.size, i, none⟩ = (#[.int .i64 s, .int .i64 p, .int .i64 g, .int .i64 l, .int .i64 c, .int .i64 nx, .slice a n cap] : Array Value)[i]?)) ∧ Below Wp.heap.size Wp w')
    (((first | (apply hold1; (focus assumption); intro p0 pB) | skip); refine ⟨Blk.full ?_, ?_⟩; all_goals (first | ((repeat' (first | (with_reducible assumption) | ((with_reducible refine Blk.new ?_); first | rfl | (simp; done)) | (with_reducible refine Blk.later (by assumption) ?_) | (with_reducible refine Blk.alloc ?_) | (with_reducible refine Blk.drewN ?_) | (with_reducible refine Blk.drew ?_) | (with_reducible refine Blk.other ?_ (by first | omega | (simp; done) | (simp; omega))))); done) | ((repeat' (first | (with_reducible exact Below.refl _ _) | (with_reducible assumption) | (with_reducible refine belowThru ?_ (by assumption)) | (with_reducible refine belowAlloc ?_) | (with_reducible refine Below.setCell ?_ (by first | omega | (simp; done) | (simp; omega)) _) | (with_reducible refine Below.drew ?_) | (with_reducible refine below_drewN ?_ _))); done) | exact Below.refl _ _)))
    (first
    | (go_at_call 34; (with_reducible refine (HW.out _).mono ?_); rintro e w1 ⟨rfl, hb⟩)
    | (go_at_call 42; (apply hold1; (focus assumption); intro p0 pB); (with_reducible refine (HI.out _ (HR.out.later (belowThru hB pB))).mono ?_); rintro e w1 ⟨rfl, hb⟩))
  all_goals
    apply hold1; (focus assumption); intro p0 pB
    go_wp2_with fail
    go_ret2
    exact ⟨rfl, belowThru hB pB⟩
end Go.Proofs.Ytnkpejinnbiocaa
