/-
  Layer 9: whether the gate is open, by the document's own.
-/
import Derived.Test.YtnkpejinnbiocaaVRTw
namespace Go.Proofs.Ytnkpejinnbiocaa
open Go.RowKit Go.Shelf
set_option linter.unusedVariables false
set_option linter.unusedSimpArgs false

set_option maxRecDepth 100000 in
set_option maxHeartbeats 16000000 in
theorem rmay_any (s p g l F L c q1 q2 q3 : Int) (q4 : Bool) (hF : 1 ≤ F ∧ F ≤ 2000001) (hL : 1 ≤ L ∧ L ≤ 2000001) (hq : 0 ≤ q2 ∧ q2 ≤ 1099511627776) (w : World)
    (HE : Hid (∀ w, Calls Try.prog 37 #[.agg #[.int .i64 s, .int .i64 p, .int .i64 g, .int .i64 l], .int .i64 g] w fun e w' => e = .returned (.tuple #[.int .i64 F, .int .i64 L]) ∧ Below w.heap.size w w')) :
    Calls Try.prog 61 #[.agg #[.int .i64 s, .int .i64 p, .int .i64 g, .int .i64 l], .agg #[.int .i64 q1, .int .i64 q2, .int .u8 q3, .bool q4], .int .i64 c] w fun e w' => e = .returned (.bool (mayB F L c (q1, q2, q3, q4))) ∧ Below w.heap.size w w' := by
  have HW := HRw c (q2 + F) (q2 + L) (mayB F L c (q1, q2, q3, q4)) rfl
  obtain ⟨b, hb0⟩ : ∃ b, mayB F L c (q1, q2, q3, q4) = b := ⟨_, rfl⟩
  rw [hb0] at HW ⊢
  have v1 : IntKind.i64.wrap (q2 + F) = q2 + F := IntWalk.i64_in _ (by omega)
  have v2 : IntKind.i64.wrap (q2 + L) = q2 + L := IntWalk.i64_in _ (by omega)
  clear hb0 hF hL hq
  go_enter Try.func61, Try.ntmps61
  go_wp2_with fail
  refine (HE.out _).mono ?_
  rintro e w1 ⟨rfl, hb⟩
  have kX : Blk w1 (w.heap.size + 1) #[.int .i64 q1, .int .i64 q2, .int .u8 q3, .bool q4] 43 := Blk.later hb (Blk.new (by simp))
  have hB : Below w.heap.size w w1 := belowThru (belowAlloc (belowAlloc (Below.refl _ _))) hb
  clear hb
  obtain ⟨aX, bX⟩ := kX.read; have yX := kX.lt
  go_wp2_with (go_at_call 41; ((with_reducible refine (HW.out _).mono ?_); rintro e w2 ⟨rfl, rfl⟩))
  go_ret
  exact ⟨rfl, by (repeat' (first | (with_reducible exact Below.refl _ _) | (with_reducible assumption) | (with_reducible refine belowThru ?_ (by assumption)) | (with_reducible refine belowAlloc ?_) | (with_reducible refine Below.setCell ?_ (by first | omega | (simp; done) | (simp; omega)) _) | (with_reducible refine Below.drew ?_) | (with_reducible refine below_drewN ?_ _)))⟩
theorem opB_drop (F L c : Int) (xs : List Sn) (k : Nat) (x : Sn) (hx : xs[k]? = some x) : opB F L c (xs.drop k) = (((x.2.2.1 != 1) && mayB F L c x) || opB F L c (xs.drop (k + 1))) := by
  rw [drop_at hx]; rfl
set_option maxRecDepth 100000 in
set_option maxHeartbeats 16000000 in
theorem ropenAt_any (s p g l c nx : Int) (a : Option Addr) (n cap : Nat) (F L C : Int) (xs : List Sn) (hn : n ≤ 1000000) (w : World) (hR : RowK 4 sn1 w a n xs) (HM : Hid (∀ (q1 q2 q3 : Int) (q4 : Bool) (w : World), (q1, q2, q3, q4) ∈ xs → Calls Try.prog 61 #[.agg #[.int .i64 s, .int .i64 p, .int .i64 g, .int .i64 l], .agg #[.int .i64 q1, .int .i64 q2, .int .u8 q3, .bool q4], .int .i64 C] w fun e w' => e = .returned (.bool (mayB F L C (q1, q2, q3, q4))) ∧ Below w.heap.size w w')) :
    Calls Try.prog 43 #[.agg #[.int .i64 s, .int .i64 p, .int .i64 g, .int .i64 l, .int .i64 c, .int .i64 nx, .slice a n cap], .int .i64 C] w fun e w' => e = .returned (.bool (opB F L C xs)) ∧ Below w.heap.size w w' := by
  have HR := Lib.hid hR
  clear hR
  obtain ⟨R, hRe⟩ : ∃ R : Bool, opB F L C xs = R := ⟨_, rfl⟩
  have HQ : Hid (opB F L C (xs.drop 0) = R) := hRe
  rw [hRe]
  clear hRe
  go_enter Try.func43, Try.ntmps43
  go_wp2_with fail
  have k0 : Blk (w.alloc (.cells #[.int .i64 s, .int .i64 p, .int .i64 g, .int .i64 l, .int .i64 c, .int .i64 nx, .slice a n cap] 26)) w.heap.size #[.int .i64 s, .int .i64 p, .int .i64 g, .int .i64 l, .int .i64 c, .int .i64 nx, .slice a n cap] 26 := Blk.new rfl
  have hB : Below w.heap.size w (w.alloc (.cells #[.int .i64 s, .int .i64 p, .int .i64 g, .int .i64 l, .int .i64 c, .int .i64 nx, .slice a n cap] 26)) := belowAlloc (Below.refl _ _)
  go_loopw [5] (fun j wr => ∃ k : Nat, k ≤ n ∧ j = .int .i64 k ∧ Hid (opB F L C (xs.drop k) = R) ∧ Blk wr w.heap.size #[.int .i64 s, .int .i64 p, .int .i64 g, .int .i64 l, .int .i64 c, .int .i64 nx, .slice a n cap] 26 ∧ Below w.heap.size w wr) (fun j _ => n - (intOf j).toNat)
  case atStart => exact ⟨0, Nat.zero_le _, rfl, HQ, k0, hB⟩
  case round =>
    clear HQ k0 hB
    obtain ⟨k, hk, rfl, HQ, k0, hB⟩ := hrel
    by_cases hlt : k < n
    · obtain ⟨bb, oo, q1, q2, q3, q4, rfl, hbb, hxk, d0, d1, d2, d3⟩ := HR.out.seen hlt
      have d0 := cell_later hB d0
      have d1 := cell_later hB d1
      have d2 := cell_later hB d2
      have d3 := cell_later hB d3
      have p0 : (0 : Int) ≤ (k : Int) := by omega
      have p1 : (k : Int) < (n : Int) := by omega
      have HD := Lib.hid (opB_drop F L C xs k _ hxk)
      have HMk := Lib.hid (fun w => HM.out q1 q2 q3 q4 w (List.mem_of_getElem? hxk))
      clear hxk
      obtain ⟨a0, b0⟩ := k0.read; have y0 := k0.lt
      by_cases h1 : q3 = 1
      · have z1 : (q3 != 1) = false := by simp [h1]
        have HQ' : Hid (opB F L C (xs.drop (k + 1)) = R) := by
          show _ = R
          rw [← HQ.out, HD.out]
          simp [h1]
        clear h1 HQ HD
        go_wp2_with fail
        go_quiet (fail)
        go_wp2_with fail
        go_roundw
        case rel => exact ⟨k + 1, hlt, by go_num, HQ', k0.drewN, by (repeat' (first | (with_reducible exact Below.refl _ _) | (with_reducible assumption) | (with_reducible refine belowThru ?_ (by assumption)) | (with_reducible refine belowAlloc ?_) | (with_reducible refine Below.setCell ?_ (by first | omega | (simp; done) | (simp; omega)) _) | (with_reducible refine Below.drew ?_) | (with_reducible refine below_drewN ?_ _)))⟩
        case measure => simp [intOf]; omega
      · have z1 : (q3 != 1) = true := by simp [h1]
        cases hm : mayB F L C (q1, q2, q3, q4) with
        | false =>
          have HQ' : Hid (opB F L C (xs.drop (k + 1)) = R) := by
            show _ = R
            rw [← HQ.out, HD.out, hm]
            simp
          have HMk2 : Hid (∀ w, Calls Try.prog 61 #[.agg #[.int .i64 s, .int .i64 p, .int .i64 g, .int .i64 l], .agg #[.int .i64 q1, .int .i64 q2, .int .u8 q3, .bool q4], .int .i64 C] w fun e w' => e = .returned (.bool false) ∧ Below w.heap.size w w') := fun w => by have := HMk.out w; rwa [hm] at this
          clear h1 HQ HD HMk hm
          have F0 := Lib.hid d0; have F1 := Lib.hid d1; have F2 := Lib.hid d2; have F3 := Lib.hid d3
          obtain ⟨Wp, hWp⟩ : ∃ Wp, wr = Wp := ⟨_, rfl⟩
          subst hWp
          go_wp2_with fail
          go_region_held3 (fun w' => (Blk w' w.heap.size #[.int .i64 s, .int .i64 p, .int .i64 g, .int .i64 l, .int .i64 c, .int .i64 nx, .slice (some ⟨bb, oo, none⟩) n cap] 26 ∧ (∀ i : Nat, w'.cell? ⟨w.heap.size, i, none⟩ = (#[.int .i64 s, .int .i64 p, .int .i64 g, .int .i64 l, .int .i64 c, .int .i64 nx, .slice (some ⟨bb, oo, none⟩) n cap] : Array Value)[i]?)) ∧ (w'.cell? ⟨bb, oo + k * 4, none⟩ = some (.int .i64 q1) ∧ w'.cell? ⟨bb, oo + k * 4 + 1, none⟩ = some (.int .i64 q2) ∧ w'.cell? ⟨bb, oo + k * 4 + 2, none⟩ = some (.int .u8 q3) ∧ w'.cell? ⟨bb, oo + k * 4 + 3, none⟩ = some (.bool q4)) ∧ Below wr.heap.size wr w')
            (((first | (apply hold1; (focus assumption); intro p0 pB; obtain ⟨pc, pB⟩ := pB) | skip); refine ⟨Blk.full ?_, ?_, ?_⟩; all_goals (first | ((repeat' (first | (with_reducible assumption) | ((with_reducible refine Blk.new ?_); first | rfl | (simp; done)) | (with_reducible refine Blk.later (by assumption) ?_) | (with_reducible refine Blk.alloc ?_) | (with_reducible refine Blk.drewN ?_) | (with_reducible refine Blk.drew ?_) | (with_reducible refine Blk.other ?_ (by first | omega | (simp; done) | (simp; omega))))); done) | ((repeat' (first | (with_reducible exact Below.refl _ _) | (with_reducible assumption) | (with_reducible refine belowThru ?_ (by assumption)) | (with_reducible refine belowAlloc ?_) | (with_reducible refine Below.setCell ?_ (by first | omega | (simp; done) | (simp; omega)) _) | (with_reducible refine Below.drew ?_) | (with_reducible refine below_drewN ?_ _))); done) | exact Below.refl _ _ | exact ⟨cell_later (by (repeat' (first | (with_reducible exact Below.refl _ _) | (with_reducible assumption) | (with_reducible refine belowThru ?_ (by assumption)) | (with_reducible refine belowAlloc ?_) | (with_reducible refine Below.setCell ?_ (by first | omega | (simp; done) | (simp; omega)) _) | (with_reducible refine Below.drew ?_) | (with_reducible refine below_drewN ?_ _)))) F0.out, cell_later (by (repeat' (first | (with_reducible exact Below.refl _ _) | (with_reducible assumption) | (with_reducible refine belowThru ?_ (by assumption)) | (with_reducible refine belowAlloc ?_) | (with_reducible refine Below.setCell ?_ (by first | omega | (simp; done) | (simp; omega)) _) | (with_reducible refine Below.drew ?_) | (with_reducible refine below_drewN ?_ _)))) F1.out, cell_later (by (repeat' (first | (with_reducible exact Below.refl _ _) | (with_reducible assumption) | (with_reducible refine belowThru ?_ (by assumption)) | (with_reducible refine belowAlloc ?_) | (with_reducible refine Below.setCell ?_ (by first | omega | (simp; done) | (simp; omega)) _) | (with_reducible refine Below.drew ?_) | (with_reducible refine below_drewN ?_ _)))) F2.out, cell_later (by (repeat' (first | (with_reducible exact Below.refl _ _) | (with_reducible assumption) | (with_reducible refine belowThru ?_ (by assumption)) | (with_reducible refine belowAlloc ?_) | (with_reducible refine Below.setCell ?_ (by first | omega | (simp; done) | (simp; omega)) _) | (with_reducible refine Below.drew ?_) | (with_reducible refine below_drewN ?_ _)))) F3.out⟩ | exact ⟨F0.out, F1.out, F2.out, F3.out⟩)))
            (first
              | (go_at_call 61; (with_reducible refine (HMk2.out _).mono ?_); rintro e w1 ⟨rfl, hb⟩))
          all_goals
            apply hold1; (focus assumption); intro p0 pB
            obtain ⟨pc, pB⟩ := pB
            go_wp2_with fail
            go_roundw
            case rel => exact ⟨k + 1, hlt, by go_num, HQ', p0, belowThru hB pB⟩
            case measure => simp [intOf]; omega
        | true =>
          have hz : R = true := by
            rw [← HQ.out, HD.out, hm]
            simp [h1]
          have HMk2 : Hid (∀ w, Calls Try.prog 61 #[.agg #[.int .i64 s, .int .i64 p, .int .i64 g, .int .i64 l], .agg #[.int .i64 q1, .int .i64 q2, .int .u8 q3, .bool q4], .int .i64 C] w fun e w' => e = .returned (.bool true) ∧ Below w.heap.size w w') := fun w => by have := HMk.out w; rwa [hm] at this
          clear h1 HQ HD HMk hm
          have F0 := Lib.hid d0; have F1 := Lib.hid d1; have F2 := Lib.hid d2; have F3 := Lib.hid d3
          obtain ⟨Wp, hWp⟩ : ∃ Wp, wr = Wp := ⟨_, rfl⟩
          subst hWp
          go_wp2_with fail
          go_region_held3 (fun w' => (Blk w' w.heap.size #[.int .i64 s, .int .i64 p, .int .i64 g, .int .i64 l, .int .i64 c, .int .i64 nx, .slice (some ⟨bb, oo, none⟩) n cap] 26 ∧ (∀ i : Nat, w'.cell? ⟨w.heap.size, i, none⟩ = (#[.int .i64 s, .int .i64 p, .int .i64 g, .int .i64 l, .int .i64 c, .int .i64 nx, .slice (some ⟨bb, oo, none⟩) n cap] : Array Value)[i]?)) ∧ (w'.cell? ⟨bb, oo + k * 4, none⟩ = some (.int .i64 q1) ∧ w'.cell? ⟨bb, oo + k * 4 + 1, none⟩ = some (.int .i64 q2) ∧ w'.cell? ⟨bb, oo + k * 4 + 2, none⟩ = some (.int .u8 q3) ∧ w'.cell? ⟨bb, oo + k * 4 + 3, none⟩ = some (.bool q4)) ∧ Below wr.heap.size wr w')
            (((first | (apply hold1; (focus assumption); intro p0 pB; obtain ⟨pc, pB⟩ := pB) | skip); refine ⟨Blk.full ?_, ?_, ?_⟩; all_goals (first | ((repeat' (first | (with_reducible assumption) | ((with_reducible refine Blk.new ?_); first | rfl | (simp; done)) | (with_reducible refine Blk.later (by assumption) ?_) | (with_reducible refine Blk.alloc ?_) | (with_reducible refine Blk.drewN ?_) | (with_reducible refine Blk.drew ?_) | (with_reducible refine Blk.other ?_ (by first | omega | (simp; done) | (simp; omega))))); done) | ((repeat' (first | (with_reducible exact Below.refl _ _) | (with_reducible assumption) | (with_reducible refine belowThru ?_ (by assumption)) | (with_reducible refine belowAlloc ?_) | (with_reducible refine Below.setCell ?_ (by first | omega | (simp; done) | (simp; omega)) _) | (with_reducible refine Below.drew ?_) | (with_reducible refine below_drewN ?_ _))); done) | exact Below.refl _ _ | exact ⟨cell_later (by (repeat' (first | (with_reducible exact Below.refl _ _) | (with_reducible assumption) | (with_reducible refine belowThru ?_ (by assumption)) | (with_reducible refine belowAlloc ?_) | (with_reducible refine Below.setCell ?_ (by first | omega | (simp; done) | (simp; omega)) _) | (with_reducible refine Below.drew ?_) | (with_reducible refine below_drewN ?_ _)))) F0.out, cell_later (by (repeat' (first | (with_reducible exact Below.refl _ _) | (with_reducible assumption) | (with_reducible refine belowThru ?_ (by assumption)) | (with_reducible refine belowAlloc ?_) | (with_reducible refine Below.setCell ?_ (by first | omega | (simp; done) | (simp; omega)) _) | (with_reducible refine Below.drew ?_) | (with_reducible refine below_drewN ?_ _)))) F1.out, cell_later (by (repeat' (first | (with_reducible exact Below.refl _ _) | (with_reducible assumption) | (with_reducible refine belowThru ?_ (by assumption)) | (with_reducible refine belowAlloc ?_) | (with_reducible refine Below.setCell ?_ (by first | omega | (simp; done) | (simp; omega)) _) | (with_reducible refine Below.drew ?_) | (with_reducible refine below_drewN ?_ _)))) F2.out, cell_later (by (repeat' (first | (with_reducible exact Below.refl _ _) | (with_reducible assumption) | (with_reducible refine belowThru ?_ (by assumption)) | (with_reducible refine belowAlloc ?_) | (with_reducible refine Below.setCell ?_ (by first | omega | (simp; done) | (simp; omega)) _) | (with_reducible refine Below.drew ?_) | (with_reducible refine below_drewN ?_ _)))) F3.out⟩ | exact ⟨F0.out, F1.out, F2.out, F3.out⟩)))
            (first
              | (go_at_call 61; (with_reducible refine (HMk2.out _).mono ?_); rintro e w1 ⟨rfl, hb⟩))
          all_goals
            apply hold1; (focus assumption); intro p0 pB
            obtain ⟨pc, pB⟩ := pB
            go_wp2_with fail
            go_ret
            exact ⟨by rw [hz]; rfl, belowThru hB pB⟩
    · obtain rfl : k = n := by omega
      have hz : R = false := by
        rw [← HQ.out, List.drop_eq_nil_of_le (by rw [HR.out.1]; exact Nat.le_refl _)]; rfl
      obtain ⟨a0, b0⟩ := k0.read; have y0 := k0.lt
      clear HQ
      go_wp2_with fail
      go_ret
      exact ⟨by rw [hz]; rfl, by (repeat' (first | (with_reducible exact Below.refl _ _) | (with_reducible assumption) | (with_reducible refine belowThru ?_ (by assumption)) | (with_reducible refine belowAlloc ?_) | (with_reducible refine Below.setCell ?_ (by first | omega | (simp; done) | (simp; omega)) _) | (with_reducible refine Below.drew ?_) | (with_reducible refine below_drewN ?_ _)))⟩
theorem open_u (s p g l c nx : Int) (a : Option Addr) (n cap : Nat) (xs : List Sn) (hn : n ≤ maxLen) (w : World) (hR : RowK 4 sn1 w a n xs) :
    Calls Try.prog 17 #[.agg #[.int .i64 s, .int .i64 p, .int .i64 g, .int .i64 l, .int .i64 c, .int .i64 nx, .slice a n cap]] w fun e w' => e = .returned (.tuple #[.bool (okT s p g l c nx xs && opB (fiB s p g) (laB s p l g) (c + 1) xs), .int .i64 (ckT s p g l c nx xs)]) ∧ Below w.heap.size w w' := by
  by_cases h0 : ckT s p g l c nx xs = 0
  · have ho := okT_ck h0
    rw [h0, decide_eq_true ho, Bool.true_and]
    exact open_ok ho w hR
  · have hE : (ckT s p g l c nx xs != 0) = true := by simpa using h0
    rw [decide_eq_false (fun ho => h0 (ckT_yes ho)), Bool.false_and]
    exact open_bad s p g l c nx a n cap xs _ hE w hR (HCt s p g l c nx a n cap xs hn _ rfl)
theorem rmay_ok {s p g l c nx : Int} {xs : List Sn} (C : Int) (ho : okB s p g l) (hx : ∀ x ∈ xs, 0 ≤ x.2.1 ∧ x.2.1 ≤ 1099511627776) : Hid (∀ (q1 q2 q3 : Int) (q4 : Bool) (w : World), (q1, q2, q3, q4) ∈ xs → Calls Try.prog 61 #[.agg #[.int .i64 s, .int .i64 p, .int .i64 g, .int .i64 l], .agg #[.int .i64 q1, .int .i64 q2, .int .u8 q3, .bool q4], .int .i64 C] w fun e w' => e = .returned (.bool (mayB (fiB s p g) (laB s p l g) C (q1, q2, q3, q4))) ∧ Below w.heap.size w w') :=
  fun q1 q2 q3 q4 w hm => rmay_any s p g l _ _ C q1 q2 q3 q4 (fiB_la ho).1 (fiB_la ho).2 (hx _ hm) w (fun w => ends_any s p g l g ho ho.2.2.1.1 ho.2.2.1.2 w)
set_option maxRecDepth 100000 in
set_option maxHeartbeats 16000000 in
theorem ropen_u (s p g l c nx : Int) (a : Option Addr) (n cap : Nat) (xs : List Sn) (hn : n ≤ maxLen) (w : World) (hR : RowK 4 sn1 w a n xs) :
    Calls Try.prog 18 #[.agg #[.int .i64 s, .int .i64 p, .int .i64 g, .int .i64 l, .int .i64 c, .int .i64 nx, .slice a n cap]] w fun e w' => e = .returned (.tuple #[.bool (okT s p g l c nx xs && opB (fiB s p g) (laB s p l g) (c + 1) xs), .int .i64 (ckT s p g l c nx xs)]) ∧ Below w.heap.size w w' := by
  have HR := Lib.hid hR
  by_cases h0 : ckT s p g l c nx xs = 0
  · have ho := okT_ck h0
    have HC := HRck s p g l c nx a n cap xs hn 0 h0
    have h32 : n ≤ 32 := by rw [← hR.1]; exact ho.2.2.2.1
    have HO := Lib.hid (fun w hR => ropenAt_any s p g l c nx a n cap (fiB s p g) (laB s p l g) (c + 1) xs (by omega) w hR (rmay_ok (c := c) (nx := nx) (c + 1) ho.1 (okT_at ho)))
    rw [h0, decide_eq_true ho, Bool.true_and]
    obtain ⟨R, hRe⟩ : ∃ R : Bool, opB (fiB s p g) (laB s p l g) (c + 1) xs = R := ⟨_, rfl⟩
    rw [hRe] at HO ⊢
    have v1 : IntKind.i64.wrap (c + 1) = c + 1 := by have := ho.2.1; exact IntWalk.i64_in _ (by omega)
    clear hRe ho h0 hR hn h32
    go_enter Try.func18, Try.ntmps18
    go_wp2_with fail
    refine (HC.out _ (HR.out.later (by (repeat' (first | (with_reducible exact Below.refl _ _) | (with_reducible assumption) | (with_reducible refine belowThru ?_ (by assumption)) | (with_reducible refine belowAlloc ?_) | (with_reducible refine Below.setCell ?_ (by first | omega | (simp; done) | (simp; omega)) _) | (with_reducible refine Below.drew ?_) | (with_reducible refine below_drewN ?_ _)))))).mono ?_
    rintro e w1 ⟨rfl, hb⟩
    have k0 : Blk w1 w.heap.size #[.int .i64 s, .int .i64 p, .int .i64 g, .int .i64 l, .int .i64 c, .int .i64 nx, .slice a n cap] 26 := Blk.later hb (Blk.new rfl)
    have hB : Below w.heap.size w w1 := belowThru (belowAlloc (Below.refl _ _)) hb
    clear hb
    obtain ⟨a0, b0⟩ := k0.read; have y0 := k0.lt
    go_wp2_with fail
    refine (HO.out _ (HR.out.later hB)).mono ?_
    rintro e w2 ⟨rfl, hb⟩
    go_wp2_with fail
    go_ret2
    exact ⟨rfl, belowThru hB hb⟩
  · have hE : (ckT s p g l c nx xs != 0) = true := by simpa using h0
    have HC := HRck s p g l c nx a n cap xs hn _ rfl
    rw [decide_eq_false (fun ho => h0 (ckT_yes ho)), Bool.false_and]
    obtain ⟨E, hEe⟩ : ∃ E, ckT s p g l c nx xs = E := ⟨_, rfl⟩
    rw [hEe] at HC hE ⊢
    clear hEe h0 hR hn
    go_enter Try.func18, Try.ntmps18
    go_wp2_with fail
    refine (HC.out _ (HR.out.later (by (repeat' (first | (with_reducible exact Below.refl _ _) | (with_reducible assumption) | (with_reducible refine belowThru ?_ (by assumption)) | (with_reducible refine belowAlloc ?_) | (with_reducible refine Below.setCell ?_ (by first | omega | (simp; done) | (simp; omega)) _) | (with_reducible refine Below.drew ?_) | (with_reducible refine below_drewN ?_ _)))))).mono ?_
    rintro e w1 ⟨rfl, hb⟩
    go_wp2_with fail
    go_ret2
    exact ⟨rfl, by (repeat' (first | (with_reducible exact Below.refl _ _) | (with_reducible assumption) | (with_reducible refine belowThru ?_ (by assumption)) | (with_reducible refine belowAlloc ?_) | (with_reducible refine Below.setCell ?_ (by first | omega | (simp; done) | (simp; omega)) _) | (with_reducible refine Below.drew ?_) | (with_reducible refine below_drewN ?_ _)))⟩
end Go.Proofs.Ytnkpejinnbiocaa
