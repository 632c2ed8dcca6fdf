/-
  Layer 9: the gate: open, hit, what is left.
-/
import Derived.Test.YtnkpejinnbiocaaVFind
namespace Go.Proofs.Ytnkpejinnbiocaa
open Go.RowKit Go.Shelf
set_option linter.unusedVariables false
set_option linter.unusedSimpArgs false

set_option maxRecDepth 100000 in
set_option maxHeartbeats 16000000 in
theorem open1_any (q1 q2 q3 : Int) (q4 : Bool) (F L c : Int) (Bg Bc : Nat) (hF : 1 ≤ F ∧ F ≤ 2000001) (hL : 1 ≤ L ∧ L ≤ 2000001) (hq : 0 ≤ q2 ∧ q2 ≤ 1099511627776) (w : World) (k1 : Blk w Bg #[.int .i64 F, .int .i64 L] 81) (k2 : Blk w Bc #[.int .i64 c] 3) :
    Calls Try.prog 59 #[.agg #[.int .i64 q1, .int .i64 q2, .int .u8 q3, .bool q4], .pointer (some ⟨Bg, 0, none⟩), .pointer (some ⟨Bc, 0, none⟩)] w fun e w' => e = .returned (.bool ((q3 != 1) && mayB F L c (q1, q2, q3, q4))) ∧ Below w.heap.size w w' := by
  have HF := Lib.hid (after_any F L q2 ⟨by omega, hF.2⟩ ⟨by omega, hL.2⟩ hq)
  have HH := Lib.hid (has_any (q2 + F) (q2 + L) c)
  clear hF hL hq
  cases hd : (q3 != 1) with
  | false =>
    obtain ⟨a1, b1⟩ := k1.read
    obtain ⟨a2, b2⟩ := k2.read
    go_enter Try.func59, Try.ntmps59
    go_wp2_with fail
    go_quiet (fail)
    go_wp2
    go_ret
    exact ⟨rfl, by (repeat' (first | (with_reducible exact Below.refl _ _) | (with_reducible assumption) | (with_reducible refine belowThru ?_ (by assumption)) | (with_reducible refine belowAlloc ?_) | (with_reducible refine Below.setCell ?_ (by first | omega | (simp; done) | (simp; omega)) _) | (with_reducible refine Below.drew ?_) | (with_reducible refine below_drewN ?_ _)))⟩
  | true =>
    have e : mayB F L c (q1, q2, q3, q4) = decide (q2 + F ≤ c ∧ c ≤ q2 + L) := rfl
    rw [e]
    clear e
    obtain ⟨r, hr⟩ : ∃ r, decide (q2 + F ≤ c ∧ c ≤ q2 + L) = r := ⟨_, rfl⟩
    rw [hr] at HH ⊢
    clear hr
    go_enter Try.func59, Try.ntmps59
    go_wp2_with fail
    obtain ⟨Wp, hWp⟩ : ∃ Wp, w.alloc (.cells #[.int .i64 q1, .int .i64 q2, .int .u8 q3, .bool q4] 43) = Wp := ⟨_, rfl⟩
    have nk0 : Blk Wp (w.heap.size) #[.int .i64 q1, .int .i64 q2, .int .u8 q3, .bool q4] 43 := by rw [← hWp]; (repeat' (first | (with_reducible assumption) | ((with_reducible refine Blk.new ?_); first | rfl | (simp; done)) | (with_reducible refine Blk.later (by assumption) ?_) | (with_reducible refine Blk.alloc ?_) | (with_reducible refine Blk.drewN ?_) | (with_reducible refine Blk.drew ?_) | (with_reducible refine Blk.other ?_ (by first | omega | (simp; done) | (simp; omega)))))
    have nk1 : Blk Wp (Bg) #[.int .i64 F, .int .i64 L] 81 := by rw [← hWp]; (repeat' (first | (with_reducible assumption) | ((with_reducible refine Blk.new ?_); first | rfl | (simp; done)) | (with_reducible refine Blk.later (by assumption) ?_) | (with_reducible refine Blk.alloc ?_) | (with_reducible refine Blk.drewN ?_) | (with_reducible refine Blk.drew ?_) | (with_reducible refine Blk.other ?_ (by first | omega | (simp; done) | (simp; omega)))))
    have nk2 : Blk Wp (Bc) #[.int .i64 c] 3 := by rw [← hWp]; (repeat' (first | (with_reducible assumption) | ((with_reducible refine Blk.new ?_); first | rfl | (simp; done)) | (with_reducible refine Blk.later (by assumption) ?_) | (with_reducible refine Blk.alloc ?_) | (with_reducible refine Blk.drewN ?_) | (with_reducible refine Blk.drew ?_) | (with_reducible refine Blk.other ?_ (by first | omega | (simp; done) | (simp; omega)))))
    have nhB : Below w.heap.size w Wp := by rw [← hWp]; (repeat' (first | (with_reducible exact Below.refl _ _) | (with_reducible assumption) | (with_reducible refine belowThru ?_ (by assumption)) | (with_reducible refine belowAlloc ?_) | (with_reducible refine Below.setCell ?_ (by first | omega | (simp; done) | (simp; omega)) _) | (with_reducible refine Below.drew ?_) | (with_reducible refine below_drewN ?_ _)))
    rw [hWp]; clear hWp
    clear k1 k2
    have y0 := nk0.lt; have y1 := nk1.lt; have y2 := nk2.lt
    go_region_held3 (fun w' => (Blk w' (w.heap.size) #[.int .i64 q1, .int .i64 q2, .int .u8 q3, .bool q4] 43 ∧ (∀ i : Nat, w'.cell? ⟨w.heap.size, i, none⟩ = (#[.int .i64 q1, .int .i64 q2, .int .u8 q3, .bool q4] : Array Value)[i]?)) ∧ (Blk w' (Bg) #[.int .i64 F, .int .i64 L] 81 ∧ (∀ i : Nat, w'.cell? ⟨Bg, i, none⟩ = (#[.int .i64 F, .int .i64 L] : Array Value)[i]?)) ∧ (Blk w' (Bc) #[.int .i64 c] 3 ∧ (∀ i : Nat, w'.cell? ⟨Bc, i, none⟩ = (#[.int .i64 c] : Array Value)[i]?)) ∧ Below Wp.heap.size Wp w')
      (((first | (apply hold3; (focus assumption); intro p0 p1 p2 pB) | skip); refine ⟨Blk.full ?_, Blk.full ?_, Blk.full ?_, ?_⟩; all_goals (first | ((repeat' (first | (with_reducible assumption) | ((with_reducible refine Blk.new ?_); first | rfl | (simp; done)) | (with_reducible refine Blk.later (by assumption) ?_) | (with_reducible refine Blk.alloc ?_) | (with_reducible refine Blk.drewN ?_) | (with_reducible refine Blk.drew ?_) | (with_reducible refine Blk.other ?_ (by first | omega | (simp; done) | (simp; omega))))); done) | ((repeat' (first | (with_reducible exact Below.refl _ _) | (with_reducible assumption) | (with_reducible refine belowThru ?_ (by assumption)) | (with_reducible refine belowAlloc ?_) | (with_reducible refine Below.setCell ?_ (by first | omega | (simp; done) | (simp; omega)) _) | (with_reducible refine Below.drew ?_) | (with_reducible refine below_drewN ?_ _))); done) | exact Below.refl _ _)))
      (first
      | (go_at_call 35; (with_reducible refine (HF.out _).mono ?_); rintro e w1 ⟨rfl, hb⟩)
      | (go_at_call 60; (with_reducible refine (HH.out _).mono ?_); rintro e w1 ⟨rfl, hb⟩))
    all_goals
      apply hold3; (focus assumption); intro p0 p1 p2 pB
      go_wp2_with fail
      go_ret
      exact ⟨by simp, belowThru nhB pB⟩
set_option maxRecDepth 100000 in
set_option maxHeartbeats 16000000 in
theorem isOpen_any (a : Option Addr) (n cap : Nat) (xs : List Sn) (F L c : Int) (hF : 1 ≤ F ∧ F ≤ 2000001) (hL : 1 ≤ L ∧ L ≤ 2000001) (hx : ∀ x ∈ xs, 0 ≤ x.2.1 ∧ x.2.1 ≤ 1099511627776) (hn : n ≤ maxLen) (w : World) (hR : RowK 4 sn1 w a n xs) :
    Calls Try.prog 42 #[.slice a n cap, .agg #[.int .i64 F, .int .i64 L], .int .i64 c] w fun e w' => e = .returned (.bool (opB F L c xs)) ∧ Below w.heap.size w w' := by
  have HE : Hid (∀ (W : World) (Bg Bc : Nat), Blk W Bg #[.int .i64 F, .int .i64 L] 81 → Blk W Bc #[.int .i64 c] 3 → RowK 4 sn1 W a n xs → Calls Try.prog 58 #[.slice a n cap, .func (.func 59) #[] #[.pointer (some ⟨Bg, 0, none⟩), .pointer (some ⟨Bc, 0, none⟩)]] W fun e w' => e = .returned (.bool (opB F L c xs)) ∧ Below W.heap.size W w') := fun W Bg Bc k1 k2 hR =>
    containsFunc_any a n cap xs 59 #[.pointer (some ⟨Bg, 0, none⟩), .pointer (some ⟨Bc, 0, none⟩)] (fun x => (x.2.2.1 != 1) && mayB F L c x) (enters_of Try.func59 (by kernel_rfl) rfl) hn W hR (fun q1 q2 q3 q4 W1 hm hb => open1_any q1 q2 q3 q4 F L c Bg Bc hF hL (hx _ hm) W1 (Blk.later hb k1) (Blk.later hb k2))
  have HR := Lib.hid hR
  clear hF hL hx hn hR
  obtain ⟨r, hr⟩ : ∃ r, opB F L c xs = r := ⟨_, rfl⟩
  rw [hr] at HE ⊢
  clear hr
  go_enter Try.func42, Try.ntmps42
  go_wp2_with (go_at_call 58; (with_reducible refine (HE.out _ _ _ ?k1 ?k2 ?k3).mono ?_); (rotate_left 3); rintro e w1 ⟨rfl, hb⟩)
  go_ret
  exact ⟨rfl, by (repeat' (first | (with_reducible exact Below.refl _ _) | (with_reducible assumption) | (with_reducible refine belowThru ?_ (by assumption)) | (with_reducible refine belowAlloc ?_) | (with_reducible refine Below.setCell ?_ (by first | omega | (simp; done) | (simp; omega)) _) | (with_reducible refine Below.drew ?_) | (with_reducible refine below_drewN ?_ _)))⟩
  case k1 => (repeat' (first | (with_reducible assumption) | ((with_reducible refine Blk.new ?_); first | rfl | (simp; done)) | (with_reducible refine Blk.later (by assumption) ?_) | (with_reducible refine Blk.alloc ?_) | (with_reducible refine Blk.drewN ?_) | (with_reducible refine Blk.drew ?_) | (with_reducible refine Blk.other ?_ (by first | omega | (simp; done) | (simp; omega)))))
  case k2 => (repeat' (first | (with_reducible assumption) | ((with_reducible refine Blk.new ?_); first | rfl | (simp; done)) | (with_reducible refine Blk.later (by assumption) ?_) | (with_reducible refine Blk.alloc ?_) | (with_reducible refine Blk.drewN ?_) | (with_reducible refine Blk.drew ?_) | (with_reducible refine Blk.other ?_ (by first | omega | (simp; done) | (simp; omega)))))
  case k3 => exact HR.out.later (by (repeat' (first | (with_reducible exact Below.refl _ _) | (with_reducible assumption) | (with_reducible refine belowThru ?_ (by assumption)) | (with_reducible refine belowAlloc ?_) | (with_reducible refine Below.setCell ?_ (by first | omega | (simp; done) | (simp; omega)) _) | (with_reducible refine Below.drew ?_) | (with_reducible refine below_drewN ?_ _))))
end Go.Proofs.Ytnkpejinnbiocaa
