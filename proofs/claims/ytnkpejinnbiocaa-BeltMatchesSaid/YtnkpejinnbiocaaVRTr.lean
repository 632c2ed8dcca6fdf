/-
  Layer 9: whether a track is valid, by the document's own.
-/
import Derived.Test.YtnkpejinnbiocaaVRef
import Derived.Test.YtnkpejinnbiocaaVApi
namespace Go.Proofs.Ytnkpejinnbiocaa
open Go.RowKit Go.Shelf
set_option linter.unusedVariables false
set_option linter.unusedSimpArgs false

/-- What the part before says. -/
def prevS (xs : List Sn) (k : Nat) (I A : Int) : Prop := (k = 0 ∧ I = -1 ∧ A = -1) ∨ ∃ (j : Nat) (q3 : Int) (q4 : Bool), k = j + 1 ∧ xs[j]? = some (I, A, q3, q4) ∧ 0 ≤ I ∧ 0 ≤ A
set_option maxRecDepth 100000 in
set_option maxHeartbeats 16000000 in
theorem rckT_belt (s p g l c nx : Int) (a : Option Addr) (n cap : Nat) (w : World) (HV : Hid (∀ w, Calls Try.prog 31 #[.agg #[.int .i64 s, .int .i64 p, .int .i64 g, .int .i64 l]] w fun e w' => e = .returned (.bool false) ∧ Below w.heap.size w w')) :
    Calls Try.prog 15 #[.agg #[.int .i64 s, .int .i64 p, .int .i64 g, .int .i64 l, .int .i64 c, .int .i64 nx, .slice a n cap]] w fun e w' => e = .returned (.int .i64 90) ∧ Below w.heap.size w w' := by
  go_enter Try.func15, Try.ntmps15
  go_wp2_with fail
  refine (HV.out _).mono ?_
  rintro e w1 ⟨rfl, hb⟩
  have k0 : Blk w1 w.heap.size #[.int .i64 s, .int .i64 p, .int .i64 g, .int .i64 l, .int .i64 c, .int .i64 nx, .slice a n cap] 26 := Blk.later hb (Blk.new rfl)
  have hB : Below w.heap.size w w1 := belowThru (belowAlloc (Below.refl _ _)) hb
  clear hb
  obtain ⟨a0, b0⟩ := k0.read; have y0 := k0.lt
  go_wp2_with fail
  go_ret
  exact ⟨rfl, by (repeat' (first | (with_reducible exact Below.refl _ _) | (with_reducible assumption) | (with_reducible refine belowThru ?_ (by assumption)) | (with_reducible refine belowAlloc ?_) | (with_reducible refine Below.setCell ?_ (by first | omega | (simp; done) | (simp; omega)) _) | (with_reducible refine Below.drew ?_) | (with_reducible refine below_drewN ?_ _)))⟩
set_option maxRecDepth 100000 in
set_option maxHeartbeats 16000000 in
theorem rckT_size (s p g l c nx : Int) (a : Option Addr) (n cap : Nat) (b1 b2 : Bool) (hn : n ≤ maxLen) (h : b1 = false ∨ b1 = true ∧ b2 = false ∨ b1 = true ∧ b2 = true ∧ 32 < n) (w : World) (HV : Hid (∀ w, Calls Try.prog 31 #[.agg #[.int .i64 s, .int .i64 p, .int .i64 g, .int .i64 l]] w fun e w' => e = .returned (.bool true) ∧ Below w.heap.size w w')) (H1 : Hid (∀ w, Calls Try.prog 41 #[.int .i64 c, .int .i64 0, .int .i64 1099511627776] w fun e w' => e = .returned (.bool b1) ∧ w = w')) (H2 : Hid (∀ w, Calls Try.prog 41 #[.int .i64 nx, .int .i64 0, .int .i64 1099511627776] w fun e w' => e = .returned (.bool b2) ∧ w = w')) :
    Calls Try.prog 15 #[.agg #[.int .i64 s, .int .i64 p, .int .i64 g, .int .i64 l, .int .i64 c, .int .i64 nx, .slice a n cap]] w fun e w' => e = .returned (.int .i64 8) ∧ Below w.heap.size w w' := by
  unfold maxLen at hn
  rcases h with rfl | ⟨rfl, rfl⟩ | ⟨rfl, rfl, hl⟩
  · go_enter Try.func15, Try.ntmps15
    go_wp2_with fail
    refine (HV.out _).mono ?_
    rintro e w1 ⟨rfl, hb⟩
    have k0 : Blk w1 w.heap.size #[.int .i64 s, .int .i64 p, .int .i64 g, .int .i64 l, .int .i64 c, .int .i64 nx, .slice a n cap] 26 := Blk.later hb (Blk.new rfl)
    have hB : Below w.heap.size w w1 := belowThru (belowAlloc (Below.refl _ _)) hb
    clear hb
    obtain ⟨a0, b0⟩ := k0.read; have y0 := k0.lt
    go_wp2_with (first
      | (go_at_call 41; ((with_reducible refine (H1.out _).mono ?_); rintro e w2 ⟨rfl, rfl⟩))
      | (go_at_call 41; ((with_reducible refine (H2.out _).mono ?_); rintro e w2 ⟨rfl, rfl⟩)))
    go_ret
    exact ⟨rfl, by (repeat' (first | (with_reducible exact Below.refl _ _) | (with_reducible assumption) | (with_reducible refine belowThru ?_ (by assumption)) | (with_reducible refine belowAlloc ?_) | (with_reducible refine Below.setCell ?_ (by first | omega | (simp; done) | (simp; omega)) _) | (with_reducible refine Below.drew ?_) | (with_reducible refine below_drewN ?_ _)))⟩
  · go_enter Try.func15, Try.ntmps15
    go_wp2_with fail
    refine (HV.out _).mono ?_
    rintro e w1 ⟨rfl, hb⟩
    have k0 : Blk w1 w.heap.size #[.int .i64 s, .int .i64 p, .int .i64 g, .int .i64 l, .int .i64 c, .int .i64 nx, .slice a n cap] 26 := Blk.later hb (Blk.new rfl)
    have hB : Below w.heap.size w w1 := belowThru (belowAlloc (Below.refl _ _)) hb
    clear hb
    obtain ⟨a0, b0⟩ := k0.read; have y0 := k0.lt
    go_wp2_with (first
      | (go_at_call 41; ((with_reducible refine (H1.out _).mono ?_); rintro e w2 ⟨rfl, rfl⟩))
      | (go_at_call 41; ((with_reducible refine (H2.out _).mono ?_); rintro e w2 ⟨rfl, rfl⟩)))
    go_ret
    exact ⟨rfl, by (repeat' (first | (with_reducible exact Below.refl _ _) | (with_reducible assumption) | (with_reducible refine belowThru ?_ (by assumption)) | (with_reducible refine belowAlloc ?_) | (with_reducible refine Below.setCell ?_ (by first | omega | (simp; done) | (simp; omega)) _) | (with_reducible refine Below.drew ?_) | (with_reducible refine below_drewN ?_ _)))⟩
  · have hd : decide ((32 : Int) < (n : Int)) = true := by simp; omega
    go_enter Try.func15, Try.ntmps15
    go_wp2_with fail
    refine (HV.out _).mono ?_
    rintro e w1 ⟨rfl, hb⟩
    have k0 : Blk w1 w.heap.size #[.int .i64 s, .int .i64 p, .int .i64 g, .int .i64 l, .int .i64 c, .int .i64 nx, .slice a n cap] 26 := Blk.later hb (Blk.new rfl)
    have hB : Below w.heap.size w w1 := belowThru (belowAlloc (Below.refl _ _)) hb
    clear hb
    obtain ⟨a0, b0⟩ := k0.read; have y0 := k0.lt
    go_wp2_with (first
      | (go_at_call 41; ((with_reducible refine (H1.out _).mono ?_); rintro e w2 ⟨rfl, rfl⟩))
      | (go_at_call 41; ((with_reducible refine (H2.out _).mono ?_); rintro e w2 ⟨rfl, rfl⟩)))
    go_ret
    exact ⟨rfl, by (repeat' (first | (with_reducible exact Below.refl _ _) | (with_reducible assumption) | (with_reducible refine belowThru ?_ (by assumption)) | (with_reducible refine belowAlloc ?_) | (with_reducible refine Below.setCell ?_ (by first | omega | (simp; done) | (simp; omega)) _) | (with_reducible refine Below.drew ?_) | (with_reducible refine below_drewN ?_ _)))⟩
set_option maxRecDepth 100000 in
set_option maxHeartbeats 16000000 in
theorem rckT_loop (s p g l c nx : Int) (a : Option Addr) (n cap : Nat) (F L : Int) (xs : List Sn) (hn : n ≤ 32) (hc : 0 ≤ c ∧ c ≤ 1099511627776) (hx : 0 ≤ nx ∧ nx ≤ 1099511627776) (hF : 1 ≤ F ∧ F ≤ 2000001) (hL : 1 ≤ L ∧ L ≤ 2000001) (w : World) (hR : RowK 4 sn1 w a n xs) (HV : Hid (∀ w, Calls Try.prog 31 #[.agg #[.int .i64 s, .int .i64 p, .int .i64 g, .int .i64 l]] w fun e w' => e = .returned (.bool true) ∧ Below w.heap.size w w')) (H1 : Hid (∀ w, Calls Try.prog 41 #[.int .i64 c, .int .i64 0, .int .i64 1099511627776] w fun e w' => e = .returned (.bool true) ∧ w = w')) (H2 : Hid (∀ w, Calls Try.prog 41 #[.int .i64 nx, .int .i64 0, .int .i64 1099511627776] w fun e w' => e = .returned (.bool true) ∧ w = w')) (HE : Hid (∀ w, Calls Try.prog 37 #[.agg #[.int .i64 s, .int .i64 p, .int .i64 g, .int .i64 l], .int .i64 g] w fun e w' => e = .returned (.tuple #[.int .i64 F, .int .i64 L]) ∧ Below w.heap.size w w')) :
    Calls Try.prog 15 #[.agg #[.int .i64 s, .int .i64 p, .int .i64 g, .int .i64 l, .int .i64 c, .int .i64 nx, .slice a n cap]] w fun e w' => e = .returned (.int .i64 (if okPs F L nx c (-1) (-1) xs then 0 else 8)) ∧ Below w.heap.size w w' := by
  have HR := Lib.hid hR
  clear hR
  obtain ⟨c1, c2⟩ := hc; obtain ⟨x1, x2⟩ := hx; obtain ⟨f1, f2⟩ := hF; obtain ⟨l1, l2⟩ := hL
  have hd : decide ((32 : Int) < (n : Int)) = false := by simp; omega
  obtain ⟨R, hRe⟩ : ∃ R : Int, (if okPs F L nx c (-1) (-1) xs then 0 else 8) = R := ⟨_, rfl⟩
  rw [hRe]
  have HQ : Hid ((okPs F L nx c (-1) (-1) xs → R = 0) ∧ (¬ okPs F L nx c (-1) (-1) xs → R = 8)) := ⟨fun h => by rw [← hRe, if_pos h], fun h => by rw [← hRe, if_neg h]⟩
  clear hRe
  go_enter Try.func15, Try.ntmps15
  go_wp2_with fail
  refine (HV.out _).mono ?_
  rintro e w1 ⟨rfl, hb⟩
  have k0 : Blk w1 w.heap.size #[.int .i64 s, .int .i64 p, .int .i64 g, .int .i64 l, .int .i64 c, .int .i64 nx, .slice a n cap] 26 := Blk.later hb (Blk.new rfl)
  have hB : Below w.heap.size w w1 := belowThru (belowAlloc (Below.refl _ _)) hb
  clear hb
  obtain ⟨a0, b0⟩ := k0.read; have y0 := k0.lt
  go_wp2_with (first
    | (go_at_call 41; ((with_reducible refine (H1.out _).mono ?_); rintro e w2 ⟨rfl, rfl⟩))
    | (go_at_call 41; ((with_reducible refine (H2.out _).mono ?_); rintro e w2 ⟨rfl, rfl⟩)))
  refine (HE.out _).mono ?_
  rintro e w3 ⟨rfl, hb3⟩
  clear hd a0 b0 y0 HE
  replace hB := belowThru hB hb3
  replace k0 := Blk.later hb3 k0
  clear hb3
  obtain ⟨a0, b0⟩ := k0.read; have y0 := k0.lt
  go_wp2_with fail
  go_loopw [5] (fun j wr => ∃ (k : Nat) (I A : Int), k ≤ n ∧ j = .int .i64 k ∧ Hid (prevS xs k I A) ∧ Hid (okPs F L nx c (-1) (-1) xs ↔ okPs F L nx c I A (xs.drop k)) ∧ Blk wr w.heap.size #[.int .i64 s, .int .i64 p, .int .i64 g, .int .i64 l, .int .i64 c, .int .i64 nx, .slice a n cap] 26 ∧ Below w.heap.size w wr) (fun j _ => n - (intOf j).toNat)
  case atStart => exact ⟨0, -1, -1, Nat.zero_le _, rfl, .inl ⟨rfl, rfl, rfl⟩, (Iff.rfl : okPs F L nx c (-1) (-1) xs ↔ okPs F L nx c (-1) (-1) (xs.drop 0)), k0, hB⟩
  case round =>
    clear k0 hB a0 b0 y0
    obtain ⟨k, I, A, hk, rfl, hS, ht, k0, hB⟩ := hrel
    obtain ⟨a0, b0⟩ := k0.read
    have y0 := k0.lt
    by_cases hlt : k < n
    · obtain ⟨bb, oo, q1, q2, q3, q4, rfl, hbb, hxk, d0, d1, d2, d3⟩ := HR.out.seen hlt
      have d0 := cell_later hB d0
      have d1 := cell_later hB d1
      have d2 := cell_later hB d2
      have d3 := cell_later hB d3
      have p0 : (0 : Int) ≤ (k : Int) := by omega
      have p1 : (k : Int) < (n : Int) := by omega
      have HD := Lib.hid (drop_at hxk)
      have HX := Lib.hid hxk
      clear hxk
      have v3 : IntKind.i64.wrap (nx - 1) = nx - 1 := IntWalk.i64_in _ (by omega)
      go_wp2_with fail
      obtain ⟨Wp, hWp⟩ : ∃ Wp, wr.alloc (.cells #[.int .i64 q1, .int .i64 q2, .int .u8 q3, .bool q4] 43) = Wp := ⟨_, rfl⟩
      have nk0 : Blk Wp w.heap.size #[.int .i64 s, .int .i64 p, .int .i64 g, .int .i64 l, .int .i64 c, .int .i64 nx, .slice (some ⟨bb, oo, none⟩) n cap] 26 := by rw [← hWp]; exact k0.alloc
      have nk2 : Blk Wp wr.heap.size #[.int .i64 q1, .int .i64 q2, .int .u8 q3, .bool q4] 43 := by rw [← hWp]; exact Blk.new rfl
      have nhB : Below w.heap.size w Wp := by rw [← hWp]; exact belowAlloc hB
      rw [hWp]; clear hWp
      clear k0 a0 b0 y0 d0 d1 d2 d3 hB
      have y0 := nk0.lt; have y2 := nk2.lt
      obtain ⟨a0, b0⟩ := nk0.read; obtain ⟨a2, b2⟩ := nk2.read
      rcases hS.out with ⟨rfl, rfl, rfl⟩ | ⟨j, r3, r4, rfl, hxj, hI, hA⟩
      · clear hS
        have z1 : decide ((0 : Int) < ((0 : Nat) : Int)) = false := by decide
        have z2 : decide ((0 : Int) < 0) = false := by decide
        by_cases g1 : 0 ≤ q1 ∧ q1 ≤ nx - 1
        · by_cases g2 : 0 ≤ q2 ∧ q2 ≤ c
          · have HA := HRw q1 0 (nx - 1) true (decide_eq_true g1)
            have HE := HRw q2 0 c true (decide_eq_true g2)
            have HZ : Hid (¬ (c < q2 + L ∧ q3 ≤ 3 ∧ ¬ (q4 = true ∧ c < q2 + F)) → R = 8) := fun hz => HQ.out.2 (fun h => by have h2 := ht.out.1 h; rw [HD.out] at h2; exact hz ⟨h2.1.2.2.1, h2.1.2.2.2.1, h2.1.2.2.2.2⟩)
            have HT : Hid (c < q2 + L ∧ q3 ≤ 3 ∧ ¬ (q4 = true ∧ c < q2 + F) → (okPs F L nx c (-1) (-1) xs ↔ okPs F L nx c q1 q2 (xs.drop (0 + 1)))) := fun g3 => by
              refine (ht.out).trans ?_
              rw [HD.out]
              exact ⟨fun h => h.2, fun h => ⟨⟨⟨by show (-1 : Int) + 1 ≤ q1; omega, g1.2⟩, ⟨by show (-1 : Int) + 1 ≤ q2; omega, g2.2⟩, g3.1, g3.2.1, g3.2.2⟩, h⟩⟩
            have HS : Hid (prevS xs (0 + 1) q1 q2) := .inr ⟨0, q3, q4, rfl, HX.out, g1.1, g2.1⟩
            obtain ⟨g1a, g1b⟩ := g1; obtain ⟨g2a, g2b⟩ := g2
            have v4 : IntKind.i64.wrap (q2 + L) = q2 + L := IntWalk.i64_in _ (by omega)
            have v5 : IntKind.i64.wrap (q2 + F) = q2 + F := IntWalk.i64_in _ (by omega)
            clear ht HD HX
            go_quiet ((first | (go_at_call 41; with_reducible exact Calls.quiet_of_same ((HA.out _).mono fun e w1 h => ⟨h.1, h.2.symm⟩)) | (go_at_call 41; with_reducible exact Calls.quiet_of_same ((HE.out _).mono fun e w1 h => ⟨h.1, h.2.symm⟩))))
            obtain ⟨W2, hW2⟩ : ∃ W, Wp.drewN nq = W := ⟨_, rfl⟩
            have m0 : Blk W2 w.heap.size #[.int .i64 s, .int .i64 p, .int .i64 g, .int .i64 l, .int .i64 c, .int .i64 nx, .slice (some ⟨bb, oo, none⟩) n cap] 26 := by rw [← hW2]; exact nk0.drewN
            have m2 : Blk W2 wr.heap.size #[.int .i64 q1, .int .i64 q2, .int .u8 q3, .bool q4] 43 := by rw [← hW2]; exact nk2.drewN
            have mB : Below w.heap.size w W2 := by rw [← hW2]; exact below_drewN nhB _
            rw [hW2]
            clear hW2 nk0 nk2 nhB a0 b0 a2 b2
            have y0 := m0.lt; have y2 := m2.lt
            obtain ⟨a0, b0⟩ := m0.read; obtain ⟨a2, b2⟩ := m2.read
            by_cases r1 : q2 + L ≤ c
            · have e1 : decide (q2 + L ≤ c) = true := decide_eq_true r1
              have hz := Lib.hid (HZ.out (fun h => absurd h.1 (by omega)))
              clear HZ HT r1
              go_wp2_with fail
              go_ret
              exact ⟨by rw [hz.out]; rfl, by (repeat' (first | (with_reducible exact Below.refl _ _) | (with_reducible assumption) | (with_reducible refine belowThru ?_ (by assumption)) | (with_reducible refine belowAlloc ?_) | (with_reducible refine Below.setCell ?_ (by first | omega | (simp; done) | (simp; omega)) _) | (with_reducible refine Below.drew ?_) | (with_reducible refine below_drewN ?_ _)))⟩
            have e1 : decide (q2 + L ≤ c) = false := decide_eq_false r1
            by_cases r2 : 3 < q3
            · have e2 : decide (3 < q3) = true := decide_eq_true r2
              have hz := Lib.hid (HZ.out (fun h => absurd h.2.1 (by omega)))
              clear HZ HT r1 r2
              go_wp2_with fail
              go_ret
              exact ⟨by rw [hz.out]; rfl, by (repeat' (first | (with_reducible exact Below.refl _ _) | (with_reducible assumption) | (with_reducible refine belowThru ?_ (by assumption)) | (with_reducible refine belowAlloc ?_) | (with_reducible refine Below.setCell ?_ (by first | omega | (simp; done) | (simp; omega)) _) | (with_reducible refine Below.drew ?_) | (with_reducible refine below_drewN ?_ _)))⟩
            have e2 : decide (3 < q3) = false := decide_eq_false r2
            cases q4 with
            | true =>
              by_cases r3 : c < q2 + F
              · have e3 : decide (c < q2 + F) = true := decide_eq_true r3
                have hz := Lib.hid (HZ.out (fun h => absurd ⟨rfl, r3⟩ h.2.2))
                clear HZ HT r1 r2 r3
                go_wp2_with fail
                go_ret
                exact ⟨by rw [hz.out]; rfl, by (repeat' (first | (with_reducible exact Below.refl _ _) | (with_reducible assumption) | (with_reducible refine belowThru ?_ (by assumption)) | (with_reducible refine belowAlloc ?_) | (with_reducible refine Below.setCell ?_ (by first | omega | (simp; done) | (simp; omega)) _) | (with_reducible refine Below.drew ?_) | (with_reducible refine below_drewN ?_ _)))⟩
              have e3 : decide (c < q2 + F) = false := decide_eq_false r3
              have ht' := Lib.hid (HT.out ⟨by omega, by omega, fun h => r3 h.2⟩)
              clear HZ HT r1 r2 r3
              go_wp2_with fail
              go_roundw
              case rel => exact ⟨0 + 1, q1, q2, hlt, by go_num, HS, ht', m0, by (repeat' (first | (with_reducible exact Below.refl _ _) | (with_reducible assumption) | (with_reducible refine belowThru ?_ (by assumption)) | (with_reducible refine belowAlloc ?_) | (with_reducible refine Below.setCell ?_ (by first | omega | (simp; done) | (simp; omega)) _) | (with_reducible refine Below.drew ?_) | (with_reducible refine below_drewN ?_ _)))⟩
              case measure => simp [intOf]; omega
            | false =>
              have ht' := Lib.hid (HT.out ⟨by omega, by omega, fun h => by cases h.1⟩)
              clear HZ HT r1 r2
              go_wp2_with fail
              go_roundw
              case rel => exact ⟨0 + 1, q1, q2, hlt, by go_num, HS, ht', m0, by (repeat' (first | (with_reducible exact Below.refl _ _) | (with_reducible assumption) | (with_reducible refine belowThru ?_ (by assumption)) | (with_reducible refine belowAlloc ?_) | (with_reducible refine Below.setCell ?_ (by first | omega | (simp; done) | (simp; omega)) _) | (with_reducible refine Below.drew ?_) | (with_reducible refine below_drewN ?_ _)))⟩
              case measure => simp [intOf]; omega
          · have hz : R = 8 := HQ.out.2 (fun h => by have h2 := ht.out.1 h; rw [HD.out] at h2; have h3 : (-1 : Int) + 1 ≤ q2 ∧ q2 ≤ c := h2.1.2.1; exact g2 ⟨by omega, h3.2⟩)
            have HA := HRw q1 0 (nx - 1) true (decide_eq_true g1)
            have HE := HRw q2 0 c false (decide_eq_false g2)
            clear g1 g2
            clear ht HD
            go_quiet ((first | (go_at_call 41; with_reducible exact Calls.quiet_of_same ((HA.out _).mono fun e w1 h => ⟨h.1, h.2.symm⟩)) | (go_at_call 41; with_reducible exact Calls.quiet_of_same ((HE.out _).mono fun e w1 h => ⟨h.1, h.2.symm⟩))))
            go_wp2
            go_ret
            exact ⟨by rw [hz]; rfl, by (repeat' (first | (with_reducible exact Below.refl _ _) | (with_reducible assumption) | (with_reducible refine belowThru ?_ (by assumption)) | (with_reducible refine belowAlloc ?_) | (with_reducible refine Below.setCell ?_ (by first | omega | (simp; done) | (simp; omega)) _) | (with_reducible refine Below.drew ?_) | (with_reducible refine below_drewN ?_ _)))⟩
        · have hz : R = 8 := HQ.out.2 (fun h => by have h2 := ht.out.1 h; rw [HD.out] at h2; have h3 : (-1 : Int) + 1 ≤ q1 ∧ q1 ≤ nx - 1 := h2.1.1; exact g1 ⟨by omega, h3.2⟩)
          have HA := HRw q1 0 (nx - 1) false (decide_eq_false g1)
          clear g1
          clear ht HD
          go_quiet ((first | (go_at_call 41; with_reducible exact Calls.quiet_of_same ((HA.out _).mono fun e w1 h => ⟨h.1, h.2.symm⟩)) | (go_at_call 41; with_reducible exact Calls.quiet_of_same ((HE.out _).mono fun e w1 h => ⟨h.1, h.2.symm⟩))))
          go_wp2
          go_ret
          exact ⟨by rw [hz]; rfl, by (repeat' (first | (with_reducible exact Below.refl _ _) | (with_reducible assumption) | (with_reducible refine belowThru ?_ (by assumption)) | (with_reducible refine belowAlloc ?_) | (with_reducible refine Below.setCell ?_ (by first | omega | (simp; done) | (simp; omega)) _) | (with_reducible refine Below.drew ?_) | (with_reducible refine below_drewN ?_ _)))⟩
      · clear hS
        obtain ⟨bx, ox, i1, i2, i3, i4, ee, hbx, hxj2, zz0, zz1, zz2, zz3⟩ := HR.out.seen (show j < n by omega)
        cases ee
        rw [hxj] at hxj2
        cases hxj2
        have zz1' := cell_later nhB zz0
        have zz2' := cell_later nhB zz1
        clear zz0 zz1 zz2 zz3 hbx
        have zz1 := zz1'; have zz2 := zz2'
        clear zz1' zz2'
        have vq : IntKind.i64.wrap (((j + 1 : Nat) : Int) - 1) = (j : Int) := (IntWalk.i64_in _ (by omega)).trans (by omega)
        have vq2 : IntKind.i64.wrap ((j : Int) + 1 - 1) = (j : Int) := (IntWalk.i64_in _ (by omega)).trans (by omega)
        have vq3 : ((j : Int) + 1 - 1) = (j : Int) := by omega
        have s0 : (0 : Int) ≤ (j : Int) := by omega
        have s1 : (j : Int) < (n : Int) := by omega
        have s3 : decide ((0 : Int) < (j : Int) + 1) = true := decide_eq_true (by omega)
        have s4 : decide ((0 : Int) < ((j + 1 : Nat) : Int)) = true := decide_eq_true (by omega)
        clear hxj
        by_cases g1 : 0 ≤ q1 ∧ q1 ≤ nx - 1
        · by_cases g2 : 0 ≤ q2 ∧ q2 ≤ c
          · by_cases u1 : q1 ≤ I
            · have e5 : decide (q1 ≤ I) = true := decide_eq_true u1
              have hz : R = 8 := HQ.out.2 (fun h => by have h2 := ht.out.1 h; rw [HD.out] at h2; have h3 : I + 1 ≤ q1 ∧ q1 ≤ nx - 1 := h2.1.1; omega)
              have HA := HRw q1 0 (nx - 1) true (decide_eq_true g1)
              have HE := HRw q2 0 c true (decide_eq_true g2)
              clear g1 g2 u1
              clear ht HD
              go_quiet ((first | (go_at_call 41; with_reducible exact Calls.quiet_of_same ((HA.out _).mono fun e w1 h => ⟨h.1, h.2.symm⟩)) | (go_at_call 41; with_reducible exact Calls.quiet_of_same ((HE.out _).mono fun e w1 h => ⟨h.1, h.2.symm⟩))))
              go_wp2
              go_ret
              exact ⟨by rw [hz]; rfl, by (repeat' (first | (with_reducible exact Below.refl _ _) | (with_reducible assumption) | (with_reducible refine belowThru ?_ (by assumption)) | (with_reducible refine belowAlloc ?_) | (with_reducible refine Below.setCell ?_ (by first | omega | (simp; done) | (simp; omega)) _) | (with_reducible refine Below.drew ?_) | (with_reducible refine below_drewN ?_ _)))⟩
            have e5 : decide (q1 ≤ I) = false := decide_eq_false u1
            by_cases u2 : q2 ≤ A
            · have e6 : decide (q2 ≤ A) = true := decide_eq_true u2
              have hz : R = 8 := HQ.out.2 (fun h => by have h2 := ht.out.1 h; rw [HD.out] at h2; have h3 : A + 1 ≤ q2 ∧ q2 ≤ c := h2.1.2.1; omega)
              have HA := HRw q1 0 (nx - 1) true (decide_eq_true g1)
              have HE := HRw q2 0 c true (decide_eq_true g2)
              clear g1 g2 u1 u2
              clear ht HD
              go_quiet ((first | (go_at_call 41; with_reducible exact Calls.quiet_of_same ((HA.out _).mono fun e w1 h => ⟨h.1, h.2.symm⟩)) | (go_at_call 41; with_reducible exact Calls.quiet_of_same ((HE.out _).mono fun e w1 h => ⟨h.1, h.2.symm⟩))))
              go_wp2
              go_ret
              exact ⟨by rw [hz]; rfl, by (repeat' (first | (with_reducible exact Below.refl _ _) | (with_reducible assumption) | (with_reducible refine belowThru ?_ (by assumption)) | (with_reducible refine belowAlloc ?_) | (with_reducible refine Below.setCell ?_ (by first | omega | (simp; done) | (simp; omega)) _) | (with_reducible refine Below.drew ?_) | (with_reducible refine below_drewN ?_ _)))⟩
            have e6 : decide (q2 ≤ A) = false := decide_eq_false u2
            have HA := HRw q1 0 (nx - 1) true (decide_eq_true g1)
            have HE := HRw q2 0 c true (decide_eq_true g2)
            have HZ : Hid (¬ (c < q2 + L ∧ q3 ≤ 3 ∧ ¬ (q4 = true ∧ c < q2 + F)) → R = 8) := fun hz => HQ.out.2 (fun h => by have h2 := ht.out.1 h; rw [HD.out] at h2; exact hz ⟨h2.1.2.2.1, h2.1.2.2.2.1, h2.1.2.2.2.2⟩)
            have HT : Hid (c < q2 + L ∧ q3 ≤ 3 ∧ ¬ (q4 = true ∧ c < q2 + F) → (okPs F L nx c (-1) (-1) xs ↔ okPs F L nx c q1 q2 (xs.drop ((j + 1) + 1)))) := fun g3 => by
              refine (ht.out).trans ?_
              rw [HD.out]
              exact ⟨fun h => h.2, fun h => ⟨⟨⟨by show I + 1 ≤ q1; omega, g1.2⟩, ⟨by show A + 1 ≤ q2; omega, g2.2⟩, g3.1, g3.2.1, g3.2.2⟩, h⟩⟩
            have HS : Hid (prevS xs ((j + 1) + 1) q1 q2) := .inr ⟨(j + 1), q3, q4, rfl, HX.out, g1.1, g2.1⟩
            obtain ⟨g1a, g1b⟩ := g1; obtain ⟨g2a, g2b⟩ := g2
            have v4 : IntKind.i64.wrap (q2 + L) = q2 + L := IntWalk.i64_in _ (by omega)
            have v5 : IntKind.i64.wrap (q2 + F) = q2 + F := IntWalk.i64_in _ (by omega)
            clear ht HD HX u1 u2
            go_quiet ((first | (go_at_call 41; with_reducible exact Calls.quiet_of_same ((HA.out _).mono fun e w1 h => ⟨h.1, h.2.symm⟩)) | (go_at_call 41; with_reducible exact Calls.quiet_of_same ((HE.out _).mono fun e w1 h => ⟨h.1, h.2.symm⟩))))
            obtain ⟨W2, hW2⟩ : ∃ W, Wp.drewN nq = W := ⟨_, rfl⟩
            have m0 : Blk W2 w.heap.size #[.int .i64 s, .int .i64 p, .int .i64 g, .int .i64 l, .int .i64 c, .int .i64 nx, .slice (some ⟨bb, oo, none⟩) n cap] 26 := by rw [← hW2]; exact nk0.drewN
            have m2 : Blk W2 wr.heap.size #[.int .i64 q1, .int .i64 q2, .int .u8 q3, .bool q4] 43 := by rw [← hW2]; exact nk2.drewN
            have mB : Below w.heap.size w W2 := by rw [← hW2]; exact below_drewN nhB _
            rw [hW2]
            clear hW2 nk0 nk2 nhB a0 b0 a2 b2 zz1 zz2
            have y0 := m0.lt; have y2 := m2.lt
            obtain ⟨a0, b0⟩ := m0.read; obtain ⟨a2, b2⟩ := m2.read
            by_cases r1 : q2 + L ≤ c
            · have e1 : decide (q2 + L ≤ c) = true := decide_eq_true r1
              have hz := Lib.hid (HZ.out (fun h => absurd h.1 (by omega)))
              clear HZ HT r1
              go_wp2_with fail
              go_ret
              exact ⟨by rw [hz.out]; rfl, by (repeat' (first | (with_reducible exact Below.refl _ _) | (with_reducible assumption) | (with_reducible refine belowThru ?_ (by assumption)) | (with_reducible refine belowAlloc ?_) | (with_reducible refine Below.setCell ?_ (by first | omega | (simp; done) | (simp; omega)) _) | (with_reducible refine Below.drew ?_) | (with_reducible refine below_drewN ?_ _)))⟩
            have e1 : decide (q2 + L ≤ c) = false := decide_eq_false r1
            by_cases r2 : 3 < q3
            · have e2 : decide (3 < q3) = true := decide_eq_true r2
              have hz := Lib.hid (HZ.out (fun h => absurd h.2.1 (by omega)))
              clear HZ HT r1 r2
              go_wp2_with fail
              go_ret
              exact ⟨by rw [hz.out]; rfl, by (repeat' (first | (with_reducible exact Below.refl _ _) | (with_reducible assumption) | (with_reducible refine belowThru ?_ (by assumption)) | (with_reducible refine belowAlloc ?_) | (with_reducible refine Below.setCell ?_ (by first | omega | (simp; done) | (simp; omega)) _) | (with_reducible refine Below.drew ?_) | (with_reducible refine below_drewN ?_ _)))⟩
            have e2 : decide (3 < q3) = false := decide_eq_false r2
            cases q4 with
            | true =>
              by_cases r3 : c < q2 + F
              · have e3 : decide (c < q2 + F) = true := decide_eq_true r3
                have hz := Lib.hid (HZ.out (fun h => absurd ⟨rfl, r3⟩ h.2.2))
                clear HZ HT r1 r2 r3
                go_wp2_with fail
                go_ret
                exact ⟨by rw [hz.out]; rfl, by (repeat' (first | (with_reducible exact Below.refl _ _) | (with_reducible assumption) | (with_reducible refine belowThru ?_ (by assumption)) | (with_reducible refine belowAlloc ?_) | (with_reducible refine Below.setCell ?_ (by first | omega | (simp; done) | (simp; omega)) _) | (with_reducible refine Below.drew ?_) | (with_reducible refine below_drewN ?_ _)))⟩
              have e3 : decide (c < q2 + F) = false := decide_eq_false r3
              have ht' := Lib.hid (HT.out ⟨by omega, by omega, fun h => r3 h.2⟩)
              clear HZ HT r1 r2 r3
              go_wp2_with fail
              go_roundw
              case rel => exact ⟨(j + 1) + 1, q1, q2, hlt, by go_num, HS, ht', m0, by (repeat' (first | (with_reducible exact Below.refl _ _) | (with_reducible assumption) | (with_reducible refine belowThru ?_ (by assumption)) | (with_reducible refine belowAlloc ?_) | (with_reducible refine Below.setCell ?_ (by first | omega | (simp; done) | (simp; omega)) _) | (with_reducible refine Below.drew ?_) | (with_reducible refine below_drewN ?_ _)))⟩
              case measure => simp [intOf]; omega
            | false =>
              have ht' := Lib.hid (HT.out ⟨by omega, by omega, fun h => by cases h.1⟩)
              clear HZ HT r1 r2
              go_wp2_with fail
              go_roundw
              case rel => exact ⟨(j + 1) + 1, q1, q2, hlt, by go_num, HS, ht', m0, by (repeat' (first | (with_reducible exact Below.refl _ _) | (with_reducible assumption) | (with_reducible refine belowThru ?_ (by assumption)) | (with_reducible refine belowAlloc ?_) | (with_reducible refine Below.setCell ?_ (by first | omega | (simp; done) | (simp; omega)) _) | (with_reducible refine Below.drew ?_) | (with_reducible refine below_drewN ?_ _)))⟩
              case measure => simp [intOf]; omega
          · have hz : R = 8 := HQ.out.2 (fun h => by have h2 := ht.out.1 h; rw [HD.out] at h2; have h3 : A + 1 ≤ q2 ∧ q2 ≤ c := h2.1.2.1; exact g2 ⟨by omega, h3.2⟩)
            have HA := HRw q1 0 (nx - 1) true (decide_eq_true g1)
            have HE := HRw q2 0 c false (decide_eq_false g2)
            clear g1 g2
            clear ht HD
            go_quiet ((first | (go_at_call 41; with_reducible exact Calls.quiet_of_same ((HA.out _).mono fun e w1 h => ⟨h.1, h.2.symm⟩)) | (go_at_call 41; with_reducible exact Calls.quiet_of_same ((HE.out _).mono fun e w1 h => ⟨h.1, h.2.symm⟩))))
            go_wp2
            go_ret
            exact ⟨by rw [hz]; rfl, by (repeat' (first | (with_reducible exact Below.refl _ _) | (with_reducible assumption) | (with_reducible refine belowThru ?_ (by assumption)) | (with_reducible refine belowAlloc ?_) | (with_reducible refine Below.setCell ?_ (by first | omega | (simp; done) | (simp; omega)) _) | (with_reducible refine Below.drew ?_) | (with_reducible refine below_drewN ?_ _)))⟩
        · have hz : R = 8 := HQ.out.2 (fun h => by have h2 := ht.out.1 h; rw [HD.out] at h2; have h3 : I + 1 ≤ q1 ∧ q1 ≤ nx - 1 := h2.1.1; exact g1 ⟨by omega, h3.2⟩)
          have HA := HRw q1 0 (nx - 1) false (decide_eq_false g1)
          clear g1
          clear ht HD
          go_quiet ((first | (go_at_call 41; with_reducible exact Calls.quiet_of_same ((HA.out _).mono fun e w1 h => ⟨h.1, h.2.symm⟩)) | (go_at_call 41; with_reducible exact Calls.quiet_of_same ((HE.out _).mono fun e w1 h => ⟨h.1, h.2.symm⟩))))
          go_wp2
          go_ret
          exact ⟨by rw [hz]; rfl, by (repeat' (first | (with_reducible exact Below.refl _ _) | (with_reducible assumption) | (with_reducible refine belowThru ?_ (by assumption)) | (with_reducible refine belowAlloc ?_) | (with_reducible refine Below.setCell ?_ (by first | omega | (simp; done) | (simp; omega)) _) | (with_reducible refine Below.drew ?_) | (with_reducible refine below_drewN ?_ _)))⟩
    · obtain rfl : k = n := by omega
      have hz : R = 0 := HQ.out.1 (ht.out.2 (by rw [List.drop_eq_nil_of_le (by rw [HR.out.1]; exact Nat.le_refl _)]; trivial))
      clear ht hS
      go_wp2_with fail
      go_ret
      exact ⟨by rw [hz]; rfl, by (repeat' (first | (with_reducible exact Below.refl _ _) | (with_reducible assumption) | (with_reducible refine belowThru ?_ (by assumption)) | (with_reducible refine belowAlloc ?_) | (with_reducible refine Below.setCell ?_ (by first | omega | (simp; done) | (simp; omega)) _) | (with_reducible refine Below.drew ?_) | (with_reducible refine below_drewN ?_ _)))⟩
/-- Whatever the track is. -/
theorem rckT_any (s p g l c nx : Int) (a : Option Addr) (n cap : Nat) (xs : List Sn) (hn : n ≤ maxLen) (w : World) (hR : RowK 4 sn1 w a n xs) :
    Calls Try.prog 15 #[.agg #[.int .i64 s, .int .i64 p, .int .i64 g, .int .i64 l, .int .i64 c, .int .i64 nx, .slice a n cap]] w fun e w' => e = .returned (.int .i64 (ckT s p g l c nx xs)) ∧ Below w.heap.size w w' := by
  by_cases h : okB s p g l
  · have HV := HRv s p g l true (decide_eq_true h)
    have e0 : ckT s p g l c nx xs = if okT s p g l c nx xs then 0 else 8 := if_pos h
    rw [e0]
    by_cases h1 : 0 ≤ c ∧ c ≤ 1099511627776
    · have H1 := HRw c 0 1099511627776 true (decide_eq_true h1)
      by_cases h2 : 0 ≤ nx ∧ nx ≤ 1099511627776
      · have H2 := HRw nx 0 1099511627776 true (decide_eq_true h2)
        by_cases h3 : n ≤ 32
        · have e1 : (if okT s p g l c nx xs then (0 : Int) else 8) = if okPs (fiB s p g) (laB s p l g) nx c (-1) (-1) xs then 0 else 8 := by
            by_cases h4 : okPs (fiB s p g) (laB s p l g) nx c (-1) (-1) xs
            · rw [if_pos h4, if_pos ⟨h, h1, h2, by rw [hR.1]; exact h3, h4⟩]
            · rw [if_neg h4, if_neg (fun k => h4 k.2.2.2.2)]
          rw [e1]
          exact rckT_loop s p g l c nx a n cap _ _ xs h3 h1 h2 (fiB_la h).1 (fiB_la h).2 w hR HV H1 H2 (fun w => ends_any s p g l g h h.2.2.1.1 h.2.2.1.2 w)
        · rw [if_neg (fun k => h3 (by rw [← hR.1]; exact k.2.2.2.1))]
          exact rckT_size s p g l c nx a n cap true true hn (.inr (.inr ⟨rfl, rfl, by omega⟩)) w HV H1 H2
      · rw [if_neg (fun k => h2 k.2.2.1)]
        exact rckT_size s p g l c nx a n cap true false hn (.inr (.inl ⟨rfl, rfl⟩)) w HV H1 (HRw nx 0 1099511627776 false (decide_eq_false h2))
    · rw [if_neg (fun k => h1 k.2.1)]
      exact rckT_size s p g l c nx a n cap false _ hn (.inl rfl) w HV (HRw c 0 1099511627776 false (decide_eq_false h1)) (rvwithin_any nx 0 1099511627776)
  · rw [show ckT s p g l c nx xs = 90 from if_neg h]
    exact rckT_belt s p g l c nx a n cap w (HRv s p g l false (decide_eq_false h))
theorem HRck (s p g l c nx : Int) (a : Option Addr) (n cap : Nat) (xs : List Sn) (hn : n ≤ maxLen) (E : Int) (h : ckT s p g l c nx xs = E) : Hid (∀ w, RowK 4 sn1 w a n xs → Calls Try.prog 15 #[.agg #[.int .i64 s, .int .i64 p, .int .i64 g, .int .i64 l, .int .i64 c, .int .i64 nx, .slice a n cap]] w fun e w' => e = .returned (.int .i64 E) ∧ Below w.heap.size w w') := fun w hR => by
  rw [← h]
  exact rckT_any s p g l c nx a n cap xs hn w hR
end Go.Proofs.Ytnkpejinnbiocaa
