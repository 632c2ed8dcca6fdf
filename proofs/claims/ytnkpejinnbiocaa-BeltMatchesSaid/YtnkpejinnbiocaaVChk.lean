/-
  CheckTrack, by the code.
-/
import Derived.Test.YtnkpejinnbiocaaVWin
namespace Go.Proofs.Ytnkpejinnbiocaa
open Go.RowKit
set_option linter.unusedVariables false
set_option linter.unusedSimpArgs false

/-- A part in a row, cell by cell. -/
theorem RowK.seen {w : World} {a : Option Addr} {n : Nat} {xs : List Sn} (h : RowK 4 sn1 w a n xs) {j : Nat} (hj : j < n) :
    ∃ b off i t v q, a = some ⟨b, off, none⟩ ∧ b < w.heap.size ∧ xs[j]? = some (i, t, v, q) ∧ w.cell? ⟨b, off + j * 4, none⟩ = some (.int .i64 i) ∧ w.cell? ⟨b, off + j * 4 + 1, none⟩ = some (.int .i64 t) ∧ w.cell? ⟨b, off + j * 4 + 2, none⟩ = some (.int .u8 v) ∧ w.cell? ⟨b, off + j * 4 + 3, none⟩ = some (.bool q) := by
  obtain ⟨b, off, ⟨i, t, v, q⟩, ha, hlt, e, hc⟩ := h.at hj
  exact ⟨b, off, i, t, v, q, ha, hlt, e, hc 0 _ rfl, hc 1 _ rfl, hc 2 _ rfl, hc 3 _ rfl⟩
theorem HWb (n lo hi : Int) (b : Bool) (h : decide (lo ≤ n ∧ n ≤ hi) = b) : Hid (∀ w, Calls Try.prog 39 #[.int .i64 n, .int .i64 lo, .int .i64 hi] w fun e w' => e = .returned (.bool b) ∧ Below w.heap.size w w') := fun w => by
  have := vwithin_any n lo hi w
  rw [h] at this
  exact this.mono fun e w' k => ⟨k.1, by rw [k.2]; exact Below.refl _ _⟩
theorem drop_at {α : Type} {xs : List α} {j : Nat} {x : α} (h : xs[j]? = some x) : xs.drop j = x :: xs.drop (j + 1) := by
  obtain ⟨hj, rfl⟩ := List.getElem?_eq_some_iff.1 h
  exact List.drop_eq_getElem_cons hj
set_option maxRecDepth 100000 in
set_option maxHeartbeats 16000000 in
theorem ckT_belt (s p g l c nx : Int) (a : Option Addr) (n cap : Nat) (E : Int) (hE : (E != 0) = true) (w : World) (HC : Hid (∀ w, Calls Try.prog 30 #[.agg #[.int .i64 s, .int .i64 p, .int .i64 g, .int .i64 l]] w fun e w' => e = .returned (.int .i64 E) ∧ Below w.heap.size w w')) :
    Calls Try.prog 14 #[.agg #[.int .i64 s, .int .i64 p, .int .i64 g, .int .i64 l, .int .i64 c, .int .i64 nx, .slice a n cap]] w fun e w' => e = .returned (.int .i64 E) ∧ Below w.heap.size w w' := by
  go_enter Try.func14, Try.ntmps14
  go_wp2_with fail
  refine (HC.out _).mono ?_
  rintro e w1 ⟨rfl, hb⟩
  have k0 : Blk w1 (w.heap.size) #[.int .i64 s, .int .i64 p, .int .i64 g, .int .i64 l, .int .i64 c, .int .i64 nx, .slice a n cap] 26 := Blk.later hb (by repeat first | exact (Blk.new (by first | rfl | simp)) | apply Blk.alloc); obtain ⟨a0, b0⟩ := k0.read; have y0 := k0.lt
  have hBw : Below w.heap.size w w1 := belowThru (by repeat first | exact (Below.refl _ _) | apply belowAlloc) hb; have hzw1 := hBw.size; clear hb
  go_wp2_with fail
  go_ret
  exact ⟨rfl, by (repeat' (first | (with_reducible exact Below.refl _ _) | (with_reducible assumption) | (with_reducible refine belowThru ?_ (by assumption)) | (with_reducible refine belowAlloc ?_) | (with_reducible refine Below.setCell ?_ (by first | omega | (simp; done) | (simp; omega)) _) | (with_reducible refine Below.drew ?_) | (with_reducible refine below_drewN ?_ _)))⟩
set_option maxRecDepth 100000 in
set_option maxHeartbeats 16000000 in
theorem ckT_size (s p g l c nx : Int) (a : Option Addr) (n cap : Nat) (b1 b2 : Bool) (hn : n ≤ maxLen) (h : b1 = false ∨ b1 = true ∧ b2 = false ∨ b1 = true ∧ b2 = true ∧ 32 < n) (w : World) (HC : Hid (∀ w, Calls Try.prog 30 #[.agg #[.int .i64 s, .int .i64 p, .int .i64 g, .int .i64 l]] w fun e w' => e = .returned (.int .i64 0) ∧ Below w.heap.size w w')) (H1 : Hid (∀ w, Calls Try.prog 38 #[.int .i64 c] w fun e w' => e = .returned (.bool b1) ∧ w = w')) (H2 : Hid (∀ w, Calls Try.prog 38 #[.int .i64 nx] w fun e w' => e = .returned (.bool b2) ∧ w = w')) :
    Calls Try.prog 14 #[.agg #[.int .i64 s, .int .i64 p, .int .i64 g, .int .i64 l, .int .i64 c, .int .i64 nx, .slice a n cap]] w fun e w' => e = .returned (.int .i64 8) ∧ Below w.heap.size w w' := by
  unfold maxLen at hn
  rcases h with rfl | ⟨rfl, rfl⟩ | ⟨rfl, rfl, hl⟩
  · go_enter Try.func14, Try.ntmps14
    go_wp2_with fail
    refine (HC.out _).mono ?_
    rintro e w1 ⟨rfl, hb⟩
    have k0 : Blk w1 (w.heap.size) #[.int .i64 s, .int .i64 p, .int .i64 g, .int .i64 l, .int .i64 c, .int .i64 nx, .slice a n cap] 26 := Blk.later hb (by repeat first | exact (Blk.new (by first | rfl | simp)) | apply Blk.alloc); obtain ⟨a0, b0⟩ := k0.read; have y0 := k0.lt
    have hBw : Below w.heap.size w w1 := belowThru (by repeat first | exact (Below.refl _ _) | apply belowAlloc) hb; have hzw1 := hBw.size; clear hb
    go_wp2_with (first
      | (go_at_call 38; ((with_reducible refine (H1.out _).mono ?_); rintro e w2 ⟨rfl, rfl⟩))
      | (go_at_call 38; ((with_reducible refine (H2.out _).mono ?_); rintro e w2 ⟨rfl, rfl⟩)))
    go_ret
    exact ⟨rfl, by (repeat' (first | (with_reducible exact Below.refl _ _) | (with_reducible assumption) | (with_reducible refine belowThru ?_ (by assumption)) | (with_reducible refine belowAlloc ?_) | (with_reducible refine Below.setCell ?_ (by first | omega | (simp; done) | (simp; omega)) _) | (with_reducible refine Below.drew ?_) | (with_reducible refine below_drewN ?_ _)))⟩
  · go_enter Try.func14, Try.ntmps14
    go_wp2_with fail
    refine (HC.out _).mono ?_
    rintro e w1 ⟨rfl, hb⟩
    have k0 : Blk w1 (w.heap.size) #[.int .i64 s, .int .i64 p, .int .i64 g, .int .i64 l, .int .i64 c, .int .i64 nx, .slice a n cap] 26 := Blk.later hb (by repeat first | exact (Blk.new (by first | rfl | simp)) | apply Blk.alloc); obtain ⟨a0, b0⟩ := k0.read; have y0 := k0.lt
    have hBw : Below w.heap.size w w1 := belowThru (by repeat first | exact (Below.refl _ _) | apply belowAlloc) hb; have hzw1 := hBw.size; clear hb
    go_wp2_with (first
      | (go_at_call 38; ((with_reducible refine (H1.out _).mono ?_); rintro e w2 ⟨rfl, rfl⟩))
      | (go_at_call 38; ((with_reducible refine (H2.out _).mono ?_); rintro e w2 ⟨rfl, rfl⟩)))
    go_ret
    exact ⟨rfl, by (repeat' (first | (with_reducible exact Below.refl _ _) | (with_reducible assumption) | (with_reducible refine belowThru ?_ (by assumption)) | (with_reducible refine belowAlloc ?_) | (with_reducible refine Below.setCell ?_ (by first | omega | (simp; done) | (simp; omega)) _) | (with_reducible refine Below.drew ?_) | (with_reducible refine below_drewN ?_ _)))⟩
  · have hd : decide ((32 : Int) < (n : Int)) = true := by simp; omega
    go_enter Try.func14, Try.ntmps14
    go_wp2_with fail
    refine (HC.out _).mono ?_
    rintro e w1 ⟨rfl, hb⟩
    have k0 : Blk w1 (w.heap.size) #[.int .i64 s, .int .i64 p, .int .i64 g, .int .i64 l, .int .i64 c, .int .i64 nx, .slice a n cap] 26 := Blk.later hb (by repeat first | exact (Blk.new (by first | rfl | simp)) | apply Blk.alloc); obtain ⟨a0, b0⟩ := k0.read; have y0 := k0.lt
    have hBw : Below w.heap.size w w1 := belowThru (by repeat first | exact (Below.refl _ _) | apply belowAlloc) hb; have hzw1 := hBw.size; clear hb
    go_wp2_with (first
      | (go_at_call 38; ((with_reducible refine (H1.out _).mono ?_); rintro e w2 ⟨rfl, rfl⟩))
      | (go_at_call 38; ((with_reducible refine (H2.out _).mono ?_); rintro e w2 ⟨rfl, rfl⟩)))
    go_ret
    exact ⟨rfl, by (repeat' (first | (with_reducible exact Below.refl _ _) | (with_reducible assumption) | (with_reducible refine belowThru ?_ (by assumption)) | (with_reducible refine belowAlloc ?_) | (with_reducible refine Below.setCell ?_ (by first | omega | (simp; done) | (simp; omega)) _) | (with_reducible refine Below.drew ?_) | (with_reducible refine below_drewN ?_ _)))⟩
set_option maxRecDepth 100000 in
set_option maxHeartbeats 16000000 in
theorem ckT_loop (s p g l c nx : Int) (a : Option Addr) (n cap : Nat) (F L : Int) (xs : List Sn) (hn : n ≤ 32) (hc : 0 ≤ c ∧ c ≤ 1099511627776) (hx : 0 ≤ nx ∧ nx ≤ 1099511627776) (hF : 1 ≤ F ∧ F ≤ 2000001) (hL : 1 ≤ L ∧ L ≤ 2000001) (w : World) (hR : RowK 4 sn1 w a n xs) (HC : Hid (∀ w, Calls Try.prog 30 #[.agg #[.int .i64 s, .int .i64 p, .int .i64 g, .int .i64 l]] w fun e w' => e = .returned (.int .i64 0) ∧ Below w.heap.size w w')) (H1 : Hid (∀ w, Calls Try.prog 38 #[.int .i64 c] w fun e w' => e = .returned (.bool true) ∧ w = w')) (H2 : Hid (∀ w, Calls Try.prog 38 #[.int .i64 nx] w fun e w' => e = .returned (.bool true) ∧ w = w')) (HW : Hid (∀ w, Calls Try.prog 34 #[.agg #[.int .i64 s, .int .i64 p, .int .i64 g, .int .i64 l], .int .i64 g] w fun e w' => e = .returned (.agg #[.int .i64 F, .int .i64 L]) ∧ Below w.heap.size w w')) :
    Calls Try.prog 14 #[.agg #[.int .i64 s, .int .i64 p, .int .i64 g, .int .i64 l, .int .i64 c, .int .i64 nx, .slice a n cap]] w fun e w' => e = .returned (.int .i64 (if okPs F L nx c (-1) (-1) xs then 0 else 8)) ∧ Below w.heap.size w w' := by
  have HR := Lib.hid hR
  have hlen : xs.length = n := hR.1
  have HX := Lib.hid hlen
  clear hR hlen
  obtain ⟨c1, c2⟩ := hc; obtain ⟨x1, x2⟩ := hx; obtain ⟨f1, f2⟩ := hF; obtain ⟨l1, l2⟩ := hL
  have hd : decide ((32 : Int) < (n : Int)) = false := by simp; omega
  obtain ⟨R, hRe⟩ : ∃ R : Int, (if okPs F L nx c (-1) (-1) xs then 0 else 8) = R := ⟨_, rfl⟩
  rw [hRe]
  have HQ : Hid ((okPs F L nx c (-1) (-1) xs → R = 0) ∧ (¬ okPs F L nx c (-1) (-1) xs → R = 8)) := ⟨fun h => by rw [← hRe, if_pos h], fun h => by rw [← hRe, if_neg h]⟩
  clear hRe
  go_enter Try.func14, Try.ntmps14
  go_wp2_with fail
  refine (HC.out _).mono ?_
  rintro e w1 ⟨rfl, hb⟩
  have k0 : Blk w1 (w.heap.size) #[.int .i64 s, .int .i64 p, .int .i64 g, .int .i64 l, .int .i64 c, .int .i64 nx, .slice a n cap] 26 := Blk.later hb (by repeat first | exact (Blk.new (by first | rfl | simp)) | apply Blk.alloc); obtain ⟨a0, b0⟩ := k0.read; have y0 := k0.lt
  have hBw : Below w.heap.size w w1 := belowThru (by repeat first | exact (Below.refl _ _) | apply belowAlloc) hb; have hzw1 := hBw.size; clear hb
  go_wp2_with (first
    | (go_at_call 38; ((with_reducible refine (H1.out _).mono ?_); rintro e w2 ⟨rfl, rfl⟩))
    | (go_at_call 38; ((with_reducible refine (H2.out _).mono ?_); rintro e w2 ⟨rfl, rfl⟩)))
  refine (HW.out _).mono ?_
  rintro e w3 ⟨rfl, hb3⟩
  clear hd
  have hB3 : Below w.heap.size w w3 := belowThru hBw hb3
  have k3 := Blk.later hb3 k0
  clear k0 a0 b0 y0 hb3 hBw
  have k0 := k3; clear k3
  obtain ⟨a0, b0⟩ := k0.read
  have y0 := k0.lt
  go_wp2_with fail
  obtain ⟨W0, hW0⟩ : ∃ W0, w3.alloc (.cells #[.int .i64 F, .int .i64 L] 81) = W0 := ⟨_, rfl⟩
  have m0 : Blk W0 w.heap.size #[.int .i64 s, .int .i64 p, .int .i64 g, .int .i64 l, .int .i64 c, .int .i64 nx, .slice a n cap] 26 := by rw [← hW0]; (repeat' (first | (with_reducible assumption) | ((with_reducible refine Blk.new ?_); first | rfl | (simp; done)) | (with_reducible refine Blk.later (by assumption) ?_) | (with_reducible refine Blk.alloc ?_) | (with_reducible refine Blk.drewN ?_) | (with_reducible refine Blk.drew ?_) | (with_reducible refine Blk.other ?_ (by first | omega | (simp; done) | (simp; omega)))))
  have m1 : Blk W0 w3.heap.size #[.int .i64 F, .int .i64 L] 81 := by rw [← hW0]; (repeat' (first | (with_reducible assumption) | ((with_reducible refine Blk.new ?_); first | rfl | (simp; done)) | (with_reducible refine Blk.later (by assumption) ?_) | (with_reducible refine Blk.alloc ?_) | (with_reducible refine Blk.drewN ?_) | (with_reducible refine Blk.drew ?_) | (with_reducible refine Blk.other ?_ (by first | omega | (simp; done) | (simp; omega)))))
  have mB : Below w.heap.size w W0 := by rw [← hW0]; (repeat' (first | (with_reducible exact Below.refl _ _) | (with_reducible assumption) | (with_reducible refine belowThru ?_ (by assumption)) | (with_reducible refine belowAlloc ?_) | (with_reducible refine Below.setCell ?_ (by first | omega | (simp; done) | (simp; omega)) _) | (with_reducible refine Below.drew ?_) | (with_reducible refine below_drewN ?_ _)))
  obtain ⟨bW, hbW⟩ : ∃ bW, w3.heap.size = bW := ⟨_, rfl⟩
  rw [hW0]; rw [hbW] at m1 ⊢
  have hne : w.heap.size ≠ bW := by have := k0.lt; omega
  clear hW0 hbW k0 y0 hB3 a0 b0
  obtain ⟨a0, b0⟩ := m0.read
  go_loopw [5, 6, 40] (fun ui ua j wr => ∃ (k : Nat) (I A : Int), k ≤ n ∧ j = .int .i64 k ∧ ui = .int .i64 I ∧ ua = .int .i64 A ∧ (-1 ≤ I ∧ I ≤ 1099511627776) ∧ (-1 ≤ A ∧ A ≤ 1099511627776) ∧ Hid (okPs F L nx c (-1) (-1) xs ↔ okPs F L nx c I A (xs.drop k)) ∧ Blk wr w.heap.size #[.int .i64 s, .int .i64 p, .int .i64 g, .int .i64 l, .int .i64 c, .int .i64 nx, .slice a n cap] 26 ∧ Blk wr bW #[.int .i64 F, .int .i64 L] 81 ∧ Below w.heap.size w wr) (fun _ _ j _ => n - (intOf j).toNat)
  case atStart => exact ⟨0, -1, -1, Nat.zero_le _, rfl, rfl, rfl, ⟨by omega, by omega⟩, ⟨by omega, by omega⟩, (Iff.rfl : okPs F L nx c (-1) (-1) xs ↔ okPs F L nx c (-1) (-1) (xs.drop 0)), m0, m1, mB⟩
  case round =>
    clear m0 m1 mB a0 b0
    obtain ⟨k, I, A, hk, rfl, rfl, rfl, ⟨i1, i2⟩, ⟨j1, j2⟩, ht, k0, k1, hB⟩ := hrel
    obtain ⟨a0, b0⟩ := k0.read
    obtain ⟨a1, b1⟩ := k1.read
    have y0 := k0.lt
    have y1 := k1.lt
    by_cases hlt : k < n
    · obtain ⟨bb, oo, q1, q2, q3, q4, rfl, hbb, hxk, d0, d1, d2, d3⟩ := HR.out.seen hlt
      have d0 := cell_later hB d0
      have d1 := cell_later hB d1
      have d2 := cell_later hB d2
      have d3 := cell_later hB d3
      have p0 : (0 : Int) ≤ (k : Int) := by omega
      have p1 : (k : Int) < (n : Int) := by omega
      have HD := Lib.hid (drop_at hxk)
      clear hxk
      have v1 : IntKind.i64.wrap (I + 1) = I + 1 := IntWalk.i64_in _ (by omega)
      have v2 : IntKind.i64.wrap (A + 1) = A + 1 := IntWalk.i64_in _ (by omega)
      have v3 : IntKind.i64.wrap (nx - 1) = nx - 1 := IntWalk.i64_in _ (by omega)
      by_cases g1 : I + 1 ≤ q1 ∧ q1 ≤ nx - 1
      · have HA := Lib.hid (vwithin_yes q1 (I + 1) (nx - 1) g1.1 g1.2)
        have HAb := HWb q1 (I + 1) (nx - 1) true (decide_eq_true g1)
        by_cases g2 : A + 1 ≤ q2 ∧ q2 ≤ c
        · have HE := HWb q2 (A + 1) c true (decide_eq_true g2)
          have HF := Lib.hid (after_any F L q2 ⟨by omega, f2⟩ ⟨by omega, l2⟩ ⟨by omega, by omega⟩)
          have HG := Lib.hid (isPart_any q1 q2 q3 (q2 + F) (q2 + L) c q4)
          by_cases g3 : c < q2 + L ∧ q3 ≤ 3 ∧ ¬ (q4 = true ∧ c < q2 + F)
          · rw [decide_eq_true g3] at HG
            have ht' : Hid (okPs F L nx c (-1) (-1) xs ↔ okPs F L nx c q1 q2 (xs.drop (k + 1))) := by
              refine (ht.out).trans ?_
              rw [HD.out]
              exact ⟨fun h => h.2, fun h => ⟨⟨g1, g2, g3.1, g3.2.1, g3.2.2⟩, h⟩⟩
            have e1 : -1 ≤ q1 ∧ q1 ≤ 1099511627776 := by omega
            have e2 : -1 ≤ q2 ∧ q2 ≤ 1099511627776 := by omega
            clear ht
            clear HD
            obtain ⟨gl, gr⟩ := e1; obtain ⟨hl, hr⟩ := e2
            clear g1 g2 g3
            go_wp2_with fail
            obtain ⟨Wp, hWp⟩ : ∃ Wp, wr.alloc (.cells #[.int .i64 q1, .int .i64 q2, .int .u8 q3, .bool q4] 43) = Wp := ⟨_, rfl⟩
            have nk0 : Blk Wp (w.heap.size) #[.int .i64 s, .int .i64 p, .int .i64 g, .int .i64 l, .int .i64 c, .int .i64 nx, .slice (some ⟨bb, oo, none⟩) n cap] 26 := by rw [← hWp]; (repeat' (first | (with_reducible assumption) | ((with_reducible refine Blk.new ?_); first | rfl | (simp; done)) | (with_reducible refine Blk.later (by assumption) ?_) | (with_reducible refine Blk.alloc ?_) | (with_reducible refine Blk.drewN ?_) | (with_reducible refine Blk.drew ?_) | (with_reducible refine Blk.other ?_ (by first | omega | (simp; done) | (simp; omega)))))
            have nk1 : Blk Wp (bW) #[.int .i64 F, .int .i64 L] 81 := by rw [← hWp]; (repeat' (first | (with_reducible assumption) | ((with_reducible refine Blk.new ?_); first | rfl | (simp; done)) | (with_reducible refine Blk.later (by assumption) ?_) | (with_reducible refine Blk.alloc ?_) | (with_reducible refine Blk.drewN ?_) | (with_reducible refine Blk.drew ?_) | (with_reducible refine Blk.other ?_ (by first | omega | (simp; done) | (simp; omega)))))
            have nk2 : Blk Wp (wr.heap.size) #[.int .i64 q1, .int .i64 q2, .int .u8 q3, .bool q4] 43 := by rw [← hWp]; (repeat' (first | (with_reducible assumption) | ((with_reducible refine Blk.new ?_); first | rfl | (simp; done)) | (with_reducible refine Blk.later (by assumption) ?_) | (with_reducible refine Blk.alloc ?_) | (with_reducible refine Blk.drewN ?_) | (with_reducible refine Blk.drew ?_) | (with_reducible refine Blk.other ?_ (by first | omega | (simp; done) | (simp; omega)))))
            have nhB : Below w.heap.size w Wp := by rw [← hWp]; (repeat' (first | (with_reducible exact Below.refl _ _) | (with_reducible assumption) | (with_reducible refine belowThru ?_ (by assumption)) | (with_reducible refine belowAlloc ?_) | (with_reducible refine Below.setCell ?_ (by first | omega | (simp; done) | (simp; omega)) _) | (with_reducible refine Below.drew ?_) | (with_reducible refine below_drewN ?_ _)))
            rw [hWp]; clear hWp
            clear k0 k1 a0 b0 a1 b1 y0 y1
            have y0 := nk0.lt; have y1 := nk1.lt; have y2 := nk2.lt
            go_region_held3 (fun w' => (Blk w' (w.heap.size) #[.int .i64 s, .int .i64 p, .int .i64 g, .int .i64 l, .int .i64 c, .int .i64 nx, .slice (some ⟨bb, oo, none⟩) n cap] 26 ∧ (∀ i : Nat, w'.cell? ⟨w.heap.size, i, none⟩ = (#[.int .i64 s, .int .i64 p, .int .i64 g, .int .i64 l, .int .i64 c, .int .i64 nx, .slice (some ⟨bb, oo, none⟩) n cap] : Array Value)[i]?)) ∧ (Blk w' (bW) #[.int .i64 F, .int .i64 L] 81 ∧ (∀ i : Nat, w'.cell? ⟨bW, i, none⟩ = (#[.int .i64 F, .int .i64 L] : Array Value)[i]?)) ∧ (Blk w' (wr.heap.size) #[.int .i64 q1, .int .i64 q2, .int .u8 q3, .bool q4] 43 ∧ (∀ i : Nat, w'.cell? ⟨wr.heap.size, i, none⟩ = (#[.int .i64 q1, .int .i64 q2, .int .u8 q3, .bool q4] : Array Value)[i]?)) ∧ Below Wp.heap.size Wp w')
              (((first | (apply hold3; (focus assumption); intro p0 p1 p2 pB) | skip); refine ⟨Blk.full ?_, Blk.full ?_, Blk.full ?_, ?_⟩; all_goals (first | ((repeat' (first | (with_reducible assumption) | ((with_reducible refine Blk.new ?_); first | rfl | (simp; done)) | (with_reducible refine Blk.later (by assumption) ?_) | (with_reducible refine Blk.alloc ?_) | (with_reducible refine Blk.drewN ?_) | (with_reducible refine Blk.drew ?_) | (with_reducible refine Blk.other ?_ (by first | omega | (simp; done) | (simp; omega))))); done) | ((repeat' (first | (with_reducible exact Below.refl _ _) | (with_reducible assumption) | (with_reducible refine belowThru ?_ (by assumption)) | (with_reducible refine belowAlloc ?_) | (with_reducible refine Below.setCell ?_ (by first | omega | (simp; done) | (simp; omega)) _) | (with_reducible refine Below.drew ?_) | (with_reducible refine below_drewN ?_ _))); done) | exact Below.refl _ _)))
              (first
              | (go_at_call 39; (with_reducible refine (HAb.out _).mono ?_); rintro e w1 ⟨rfl, hb⟩)
              | (go_at_call 39; (with_reducible refine (HE.out _).mono ?_); rintro e w1 ⟨rfl, hb⟩)
              | (go_at_call 35; (with_reducible refine (HF.out _).mono ?_); rintro e w1 ⟨rfl, hb⟩)
              | (go_at_call 40; (with_reducible refine (HG.out _).mono ?_); rintro e w1 ⟨rfl, hb⟩))
            all_goals
              apply hold3; (focus assumption); intro p0 p1 p2 pB
              obtain ⟨a2, b2⟩ := p2.read
              obtain ⟨a0, b0⟩ := p0.read
              go_wp2_with fail
              go_quiet (fail)
              go_wp2
              go_roundw
              case rel => exact ⟨k + 1, q1, q2, hlt, by go_num, rfl, rfl, ⟨gl, gr⟩, ⟨hl, hr⟩, ht', by (repeat' (first | (with_reducible assumption) | ((with_reducible refine Blk.new ?_); first | rfl | (simp; done)) | (with_reducible refine Blk.later (by assumption) ?_) | (with_reducible refine Blk.alloc ?_) | (with_reducible refine Blk.drewN ?_) | (with_reducible refine Blk.drew ?_) | (with_reducible refine Blk.other ?_ (by first | omega | (simp; done) | (simp; omega))))), by (repeat' (first | (with_reducible assumption) | ((with_reducible refine Blk.new ?_); first | rfl | (simp; done)) | (with_reducible refine Blk.later (by assumption) ?_) | (with_reducible refine Blk.alloc ?_) | (with_reducible refine Blk.drewN ?_) | (with_reducible refine Blk.drew ?_) | (with_reducible refine Blk.other ?_ (by first | omega | (simp; done) | (simp; omega))))), by (repeat' (first | (with_reducible exact Below.refl _ _) | (with_reducible assumption) | (with_reducible refine belowThru ?_ (by assumption)) | (with_reducible refine belowAlloc ?_) | (with_reducible refine Below.setCell ?_ (by first | omega | (simp; done) | (simp; omega)) _) | (with_reducible refine Below.drew ?_) | (with_reducible refine below_drewN ?_ _)))⟩
              case measure => simp [intOf]; omega
          · rw [decide_eq_false g3] at HG
            have hz : R = 8 := HQ.out.2 (fun h => by have h2 := ht.out.1 h; rw [HD.out] at h2; exact g3 ⟨h2.1.2.2.1, h2.1.2.2.2.1, h2.1.2.2.2.2⟩)
            clear ht HD g1 g2 g3
            go_wp2_with fail
            obtain ⟨Wp, hWp⟩ : ∃ Wp, wr.alloc (.cells #[.int .i64 q1, .int .i64 q2, .int .u8 q3, .bool q4] 43) = Wp := ⟨_, rfl⟩
            have nk0 : Blk Wp (w.heap.size) #[.int .i64 s, .int .i64 p, .int .i64 g, .int .i64 l, .int .i64 c, .int .i64 nx, .slice (some ⟨bb, oo, none⟩) n cap] 26 := by rw [← hWp]; (repeat' (first | (with_reducible assumption) | ((with_reducible refine Blk.new ?_); first | rfl | (simp; done)) | (with_reducible refine Blk.later (by assumption) ?_) | (with_reducible refine Blk.alloc ?_) | (with_reducible refine Blk.drewN ?_) | (with_reducible refine Blk.drew ?_) | (with_reducible refine Blk.other ?_ (by first | omega | (simp; done) | (simp; omega)))))
            have nk1 : Blk Wp (bW) #[.int .i64 F, .int .i64 L] 81 := by rw [← hWp]; (repeat' (first | (with_reducible assumption) | ((with_reducible refine Blk.new ?_); first | rfl | (simp; done)) | (with_reducible refine Blk.later (by assumption) ?_) | (with_reducible refine Blk.alloc ?_) | (with_reducible refine Blk.drewN ?_) | (with_reducible refine Blk.drew ?_) | (with_reducible refine Blk.other ?_ (by first | omega | (simp; done) | (simp; omega)))))
            have nk2 : Blk Wp (wr.heap.size) #[.int .i64 q1, .int .i64 q2, .int .u8 q3, .bool q4] 43 := by rw [← hWp]; (repeat' (first | (with_reducible assumption) | ((with_reducible refine Blk.new ?_); first | rfl | (simp; done)) | (with_reducible refine Blk.later (by assumption) ?_) | (with_reducible refine Blk.alloc ?_) | (with_reducible refine Blk.drewN ?_) | (with_reducible refine Blk.drew ?_) | (with_reducible refine Blk.other ?_ (by first | omega | (simp; done) | (simp; omega)))))
            have nhB : Below w.heap.size w Wp := by rw [← hWp]; (repeat' (first | (with_reducible exact Below.refl _ _) | (with_reducible assumption) | (with_reducible refine belowThru ?_ (by assumption)) | (with_reducible refine belowAlloc ?_) | (with_reducible refine Below.setCell ?_ (by first | omega | (simp; done) | (simp; omega)) _) | (with_reducible refine Below.drew ?_) | (with_reducible refine below_drewN ?_ _)))
            rw [hWp]; clear hWp
            clear k0 k1 a0 b0 a1 b1 y0 y1
            have y0 := nk0.lt; have y1 := nk1.lt; have y2 := nk2.lt
            go_region_held3 (fun w' => (Blk w' (w.heap.size) #[.int .i64 s, .int .i64 p, .int .i64 g, .int .i64 l, .int .i64 c, .int .i64 nx, .slice (some ⟨bb, oo, none⟩) n cap] 26 ∧ (∀ i : Nat, w'.cell? ⟨w.heap.size, i, none⟩ = (#[.int .i64 s, .int .i64 p, .int .i64 g, .int .i64 l, .int .i64 c, .int .i64 nx, .slice (some ⟨bb, oo, none⟩) n cap] : Array Value)[i]?)) ∧ (Blk w' (bW) #[.int .i64 F, .int .i64 L] 81 ∧ (∀ i : Nat, w'.cell? ⟨bW, i, none⟩ = (#[.int .i64 F, .int .i64 L] : Array Value)[i]?)) ∧ (Blk w' (wr.heap.size) #[.int .i64 q1, .int .i64 q2, .int .u8 q3, .bool q4] 43 ∧ (∀ i : Nat, w'.cell? ⟨wr.heap.size, i, none⟩ = (#[.int .i64 q1, .int .i64 q2, .int .u8 q3, .bool q4] : Array Value)[i]?)) ∧ Below Wp.heap.size Wp w')
              (((first | (apply hold3; (focus assumption); intro p0 p1 p2 pB) | skip); refine ⟨Blk.full ?_, Blk.full ?_, Blk.full ?_, ?_⟩; all_goals (first | ((repeat' (first | (with_reducible assumption) | ((with_reducible refine Blk.new ?_); first | rfl | (simp; done)) | (with_reducible refine Blk.later (by assumption) ?_) | (with_reducible refine Blk.alloc ?_) | (with_reducible refine Blk.drewN ?_) | (with_reducible refine Blk.drew ?_) | (with_reducible refine Blk.other ?_ (by first | omega | (simp; done) | (simp; omega))))); done) | ((repeat' (first | (with_reducible exact Below.refl _ _) | (with_reducible assumption) | (with_reducible refine belowThru ?_ (by assumption)) | (with_reducible refine belowAlloc ?_) | (with_reducible refine Below.setCell ?_ (by first | omega | (simp; done) | (simp; omega)) _) | (with_reducible refine Below.drew ?_) | (with_reducible refine below_drewN ?_ _))); done) | exact Below.refl _ _)))
              (first
              | (go_at_call 39; (with_reducible refine (HAb.out _).mono ?_); rintro e w1 ⟨rfl, hb⟩)
              | (go_at_call 39; (with_reducible refine (HE.out _).mono ?_); rintro e w1 ⟨rfl, hb⟩)
              | (go_at_call 35; (with_reducible refine (HF.out _).mono ?_); rintro e w1 ⟨rfl, hb⟩)
              | (go_at_call 40; (with_reducible refine (HG.out _).mono ?_); rintro e w1 ⟨rfl, hb⟩))
            all_goals
              apply hold3; (focus assumption); intro p0 p1 p2 pB
              go_wp2_with fail
              go_ret
              exact ⟨by rw [hz]; rfl, belowThru nhB pB⟩
        · have HE := Lib.hid (vwithin_no q2 (A + 1) c g2)
          have hz : R = 8 := HQ.out.2 (fun h => by have h2 := ht.out.1 h; rw [HD.out] at h2; exact g2 h2.1.2.1)
          clear ht HD g1 g2
          go_wp2_with fail
          obtain ⟨Wp, hWp⟩ : ∃ Wp, wr.alloc (.cells #[.int .i64 q1, .int .i64 q2, .int .u8 q3, .bool q4] 43) = Wp := ⟨_, rfl⟩
          have nk0 : Blk Wp (w.heap.size) #[.int .i64 s, .int .i64 p, .int .i64 g, .int .i64 l, .int .i64 c, .int .i64 nx, .slice (some ⟨bb, oo, none⟩) n cap] 26 := by rw [← hWp]; (repeat' (first | (with_reducible assumption) | ((with_reducible refine Blk.new ?_); first | rfl | (simp; done)) | (with_reducible refine Blk.later (by assumption) ?_) | (with_reducible refine Blk.alloc ?_) | (with_reducible refine Blk.drewN ?_) | (with_reducible refine Blk.drew ?_) | (with_reducible refine Blk.other ?_ (by first | omega | (simp; done) | (simp; omega)))))
          have nk1 : Blk Wp (bW) #[.int .i64 F, .int .i64 L] 81 := by rw [← hWp]; (repeat' (first | (with_reducible assumption) | ((with_reducible refine Blk.new ?_); first | rfl | (simp; done)) | (with_reducible refine Blk.later (by assumption) ?_) | (with_reducible refine Blk.alloc ?_) | (with_reducible refine Blk.drewN ?_) | (with_reducible refine Blk.drew ?_) | (with_reducible refine Blk.other ?_ (by first | omega | (simp; done) | (simp; omega)))))
          have nk2 : Blk Wp (wr.heap.size) #[.int .i64 q1, .int .i64 q2, .int .u8 q3, .bool q4] 43 := by rw [← hWp]; (repeat' (first | (with_reducible assumption) | ((with_reducible refine Blk.new ?_); first | rfl | (simp; done)) | (with_reducible refine Blk.later (by assumption) ?_) | (with_reducible refine Blk.alloc ?_) | (with_reducible refine Blk.drewN ?_) | (with_reducible refine Blk.drew ?_) | (with_reducible refine Blk.other ?_ (by first | omega | (simp; done) | (simp; omega)))))
          have nhB : Below w.heap.size w Wp := by rw [← hWp]; (repeat' (first | (with_reducible exact Below.refl _ _) | (with_reducible assumption) | (with_reducible refine belowThru ?_ (by assumption)) | (with_reducible refine belowAlloc ?_) | (with_reducible refine Below.setCell ?_ (by first | omega | (simp; done) | (simp; omega)) _) | (with_reducible refine Below.drew ?_) | (with_reducible refine below_drewN ?_ _)))
          rw [hWp]; clear hWp
          clear k0 k1 a0 b0 a1 b1 y0 y1
          have y0 := nk0.lt; have y1 := nk1.lt; have y2 := nk2.lt
          obtain ⟨a0, b0⟩ := nk0.read; obtain ⟨a1, b1⟩ := nk1.read; obtain ⟨a2, b2⟩ := nk2.read
          go_quiet ((first | (go_at_call 39; with_reducible exact Calls.quiet_of_same ((HA.out _).mono fun e w1 h => ⟨h.1, h.2.symm⟩)) | (go_at_call 39; with_reducible exact Calls.quiet_of_same ((HE.out _).mono fun e w1 h => ⟨h.1, h.2.symm⟩))))
          go_wp2
          go_ret
          exact ⟨by rw [hz]; rfl, by (repeat' (first | (with_reducible exact Below.refl _ _) | (with_reducible assumption) | (with_reducible refine belowThru ?_ (by assumption)) | (with_reducible refine belowAlloc ?_) | (with_reducible refine Below.setCell ?_ (by first | omega | (simp; done) | (simp; omega)) _) | (with_reducible refine Below.drew ?_) | (with_reducible refine below_drewN ?_ _)))⟩
      · have HA := Lib.hid (vwithin_no q1 (I + 1) (nx - 1) g1)
        have hz : R = 8 := HQ.out.2 (fun h => by have h2 := ht.out.1 h; rw [HD.out] at h2; exact g1 h2.1.1)
        clear ht HD g1
        go_wp2_with fail
        obtain ⟨Wp, hWp⟩ : ∃ Wp, wr.alloc (.cells #[.int .i64 q1, .int .i64 q2, .int .u8 q3, .bool q4] 43) = Wp := ⟨_, rfl⟩
        have nk0 : Blk Wp (w.heap.size) #[.int .i64 s, .int .i64 p, .int .i64 g, .int .i64 l, .int .i64 c, .int .i64 nx, .slice (some ⟨bb, oo, none⟩) n cap] 26 := by rw [← hWp]; (repeat' (first | (with_reducible assumption) | ((with_reducible refine Blk.new ?_); first | rfl | (simp; done)) | (with_reducible refine Blk.later (by assumption) ?_) | (with_reducible refine Blk.alloc ?_) | (with_reducible refine Blk.drewN ?_) | (with_reducible refine Blk.drew ?_) | (with_reducible refine Blk.other ?_ (by first | omega | (simp; done) | (simp; omega)))))
        have nk1 : Blk Wp (bW) #[.int .i64 F, .int .i64 L] 81 := by rw [← hWp]; (repeat' (first | (with_reducible assumption) | ((with_reducible refine Blk.new ?_); first | rfl | (simp; done)) | (with_reducible refine Blk.later (by assumption) ?_) | (with_reducible refine Blk.alloc ?_) | (with_reducible refine Blk.drewN ?_) | (with_reducible refine Blk.drew ?_) | (with_reducible refine Blk.other ?_ (by first | omega | (simp; done) | (simp; omega)))))
        have nk2 : Blk Wp (wr.heap.size) #[.int .i64 q1, .int .i64 q2, .int .u8 q3, .bool q4] 43 := by rw [← hWp]; (repeat' (first | (with_reducible assumption) | ((with_reducible refine Blk.new ?_); first | rfl | (simp; done)) | (with_reducible refine Blk.later (by assumption) ?_) | (with_reducible refine Blk.alloc ?_) | (with_reducible refine Blk.drewN ?_) | (with_reducible refine Blk.drew ?_) | (with_reducible refine Blk.other ?_ (by first | omega | (simp; done) | (simp; omega)))))
        have nhB : Below w.heap.size w Wp := by rw [← hWp]; (repeat' (first | (with_reducible exact Below.refl _ _) | (with_reducible assumption) | (with_reducible refine belowThru ?_ (by assumption)) | (with_reducible refine belowAlloc ?_) | (with_reducible refine Below.setCell ?_ (by first | omega | (simp; done) | (simp; omega)) _) | (with_reducible refine Below.drew ?_) | (with_reducible refine below_drewN ?_ _)))
        rw [hWp]; clear hWp
        clear k0 k1 a0 b0 a1 b1 y0 y1
        have y0 := nk0.lt; have y1 := nk1.lt; have y2 := nk2.lt
        obtain ⟨a0, b0⟩ := nk0.read; obtain ⟨a1, b1⟩ := nk1.read; obtain ⟨a2, b2⟩ := nk2.read
        go_quiet ((first | (go_at_call 39; with_reducible exact Calls.quiet_of_same ((HA.out _).mono fun e w1 h => ⟨h.1, h.2.symm⟩))))
        go_wp2
        go_ret
        exact ⟨by rw [hz]; rfl, by (repeat' (first | (with_reducible exact Below.refl _ _) | (with_reducible assumption) | (with_reducible refine belowThru ?_ (by assumption)) | (with_reducible refine belowAlloc ?_) | (with_reducible refine Below.setCell ?_ (by first | omega | (simp; done) | (simp; omega)) _) | (with_reducible refine Below.drew ?_) | (with_reducible refine below_drewN ?_ _)))⟩
    · have hz : R = 0 := HQ.out.1 (ht.out.2 (by rw [List.drop_eq_nil_of_le (by rw [HX.out]; omega)]; trivial))
      clear ht
      go_wp2
      go_ret
      exact ⟨by rw [hz]; rfl, by (repeat' (first | (with_reducible exact Below.refl _ _) | (with_reducible assumption) | (with_reducible refine belowThru ?_ (by assumption)) | (with_reducible refine belowAlloc ?_) | (with_reducible refine Below.setCell ?_ (by first | omega | (simp; done) | (simp; omega)) _) | (with_reducible refine Below.drew ?_) | (with_reducible refine below_drewN ?_ _)))⟩
theorem fiB_la {s p g l : Int} (h : okB s p g l) : (1 ≤ fiB s p g ∧ fiB s p g ≤ 2000001) ∧ (1 ≤ laB s p l g ∧ laB s p l g ≤ 2000001) := by
  have f1 := fiB_bd h.1.1 h.2.1.1 h.2.2.1.1
  have f2 := laB_bd (s := s) (l := l) h.2.1.2 h.2.2.1.1 (by have := h.2.2.2.1; omega)
  have f4 := h.2.2.1.2
  have f5 := h.2.2.2.2
  omega
theorem ckT_any (s p g l c nx : Int) (a : Option Addr) (n cap : Nat) (xs : List Sn) (hn : n ≤ maxLen) (w : World) (hR : RowK 4 sn1 w a n xs) :
    Calls Try.prog 14 #[.agg #[.int .i64 s, .int .i64 p, .int .i64 g, .int .i64 l, .int .i64 c, .int .i64 nx, .slice a n cap]] w fun e w' => e = .returned (.int .i64 (ckT s p g l c nx xs)) ∧ Below w.heap.size w w' := by
  by_cases hB : okB s p g l
  · have HC := HCk s p g l 0 (if_pos hB)
    have hlen := hR.1
    by_cases hs : (0 ≤ c ∧ c ≤ 1099511627776) ∧ (0 ≤ nx ∧ nx ≤ 1099511627776) ∧ n ≤ 32
    · obtain ⟨h1, h2, h3⟩ := hs
      have e : ckT s p g l c nx xs = if okPs (fiB s p g) (laB s p l g) nx c (-1) (-1) xs then 0 else 8 := by
        unfold ckT
        rw [if_pos hB]
        congr 1
        unfold okT
        rw [hlen]
        simp [hB, h1, h2, h3]
      rw [e]
      obtain ⟨hF, hL⟩ := fiB_la hB
      exact ckT_loop s p g l c nx a n cap _ _ xs h3 h1 h2 hF hL w hR HC (fun w => by have := isCount_any c w; rwa [decide_eq_true h1] at this) (fun w => by have := isCount_any nx w; rwa [decide_eq_true h2] at this) (windowOf_any s p g l g hB hB.2.2.1.1 hB.2.2.1.2)
    · have e : ckT s p g l c nx xs = 8 := (if_pos hB).trans (if_neg fun k => hs ⟨k.2.1, k.2.2.1, by rw [← hlen]; exact k.2.2.2.1⟩)
      rw [e]
      refine ckT_size s p g l c nx a n cap _ _ hn ?_ w HC (isCount_any c) (isCount_any nx)
      by_cases h1 : 0 ≤ c ∧ c ≤ 1099511627776
      · by_cases h2 : 0 ≤ nx ∧ nx ≤ 1099511627776
        · exact .inr (.inr ⟨decide_eq_true h1, decide_eq_true h2, by have : ¬ n ≤ 32 := fun k => hs ⟨h1, h2, k⟩; omega⟩)
        · exact .inr (.inl ⟨decide_eq_true h1, decide_eq_false h2⟩)
      · exact .inl (decide_eq_false h1)
  · have e : ckT s p g l c nx xs = 90 := if_neg hB
    rw [e]
    exact ckT_belt s p g l c nx a n cap 90 (by decide) w (HCk s p g l 90 (if_neg hB))
theorem HCt (s p g l c nx : Int) (a : Option Addr) (n cap : Nat) (xs : List Sn) (hn : n ≤ maxLen) (E : Int) (h : ckT s p g l c nx xs = E) : Hid (∀ w, RowK 4 sn1 w a n xs → Calls Try.prog 14 #[.agg #[.int .i64 s, .int .i64 p, .int .i64 g, .int .i64 l, .int .i64 c, .int .i64 nx, .slice a n cap]] w fun e w' => e = .returned (.int .i64 E) ∧ Below w.heap.size w w') := fun w hR => by
  have := ckT_any s p g l c nx a n cap xs hn w hR
  rwa [h] at this
end Go.Proofs.Ytnkpejinnbiocaa
