/-
  Layer 4: both sides answer alike: corrected and distorted places, corrected spans; a copy of a table.
-/
import Derived.Test.YtcafmmhjlecgpaaSpan
import Derived.Test.YtcafmmhjlecgpaaRefS
import Derived.Test.YtcafmmhjlecgpaaJTabs
namespace Go.Proofs.Ytcafmmhjlecgpaa
open Go.RowKit
set_option linter.unusedVariables false
set_option linter.unusedSimpArgs false

/-- A call with a table, whatever slice it is. -/
def CalK (F : FuncId) (ks : List (Int × Int)) (arg : List Value) (v : Value) : Prop :=
  ∀ (a : Option Addr) (n c : Nat) (w : World), n ≤ 1000 → KRow w a n ks → Calls Try.prog F (#[.slice a n c] ++ arg.toArray) w fun e w' => e = .returned v ∧ Below w.heap.size w w'
def M64 (a : Int) : Prop := -9223372036854775808 ≤ a ∧ a ≤ 9223372036854775807

theorem seg_num {P Q S T X D : Int} : S * D * (Q - P) + (X - P * D) * (T - S) = S * (Q - P) * D + (X - P * D) * (T - S) := by
  rw [Int.mul_assoc, Int.mul_comm D, ← Int.mul_assoc]
theorem both_corrected {ks : List (Int × Int)} {X D : Int} (hk : okT ks) (hx : okX ks X D) : ∃ M N : Int,
    CalK 51 ks [.agg #[.int .i64 X, .int .i64 D]] (.agg #[.int .i64 M, .int .i64 N]) ∧ CalK 54 ks [.agg #[.int .i64 X, .int .i64 D]] (.agg #[.int .i64 M, .int .i64 N]) := by
  obtain ⟨hD, hXb⟩ := hx.bounds hk
  have hl := hk.1
  obtain ⟨i, hs⟩ := seg_ex hk hx.2.2.2
  have hi2 := hs.1
  have t0 := hk.inT (i := i) (by omega)
  have t1 := hk.inT (i := i + 1) (by omega)
  have hlt := (hk.lt (i := i) (by omega)).1
  obtain ⟨⟨⟨g1, g2⟩, g3, g4⟩, ⟨g5, g6⟩, ⟨g7, g8⟩, ⟨g9, g10⟩, ⟨g11, g12⟩, ⟨g13, g14⟩, ⟨g15, g16⟩, g17, g18⟩ := seg_bounds t0.1 t1.1 t0.2 t1.2 hD hXb
  have hd0 : (at1 ks (i + 1) - at1 ks i) * D ≠ 0 := by
    have := Int.mul_pos (show 0 < at1 ks (i + 1) - at1 ks i by omega) (show 0 < D by omega)
    omega
  obtain ⟨x, hxx⟩ : ∃ x, x = mkR (to1 ks i * (at1 ks (i + 1) - at1 ks i) * D + (X - at1 ks i * D) * (to1 ks (i + 1) - to1 ks i)) ((at1 ks (i + 1) - at1 ks i) * D) := ⟨_, rfl⟩
  refine ⟨rn x, rd x, fun a n c w hn hR => ?_, fun a n c w hn hR => ?_⟩
  rotate_left
  · obtain ⟨bb, oo, rfl, hb, hc⟩ := hR.cells (by have := hR.1; omega)
    refine rcorrected_walk i n c bb oo ks X D (rn x) (rd x) (re x) w hk hx hs hR.1 hb hc (Lib.hid fun w => ?_)
    rw [seg_num, Int.mul_comm D]
    rw [hxx]
    exact made_any _ _ _ _ _ w (Lib.hid fun w => rmake_q _ _ w (by omega) (by omega) (by omega) (by omega) hd0)
  · obtain ⟨bb, oo, rfl, hb, hc⟩ := hR.cells (by have := hR.1; omega)
    obtain ⟨m, rfl⟩ : ∃ m, n = m + 2 := ⟨n - 2, by have := hR.1; omega⟩
    have hlm : ks.length = m + 2 := hR.1
    refine corrected_walk i m c bb oo X D (at1 ks i) (at1 ks (i + 1)) (to1 ks i) (to1 ks (i + 1)) (rn x) (rd x) (re x) w (by omega) (by omega) g1 g2 g3 g4 g5 g6 g7 g8 g9 g10 g11 g12 g13 g14 g15 g16
      (Lib.hid (hc i (by omega)).1) (Lib.hid (hc i (by omega)).2) (Lib.hid (hc (i + 1) (by omega)).1) (Lib.hid (hc (i + 1) (by omega)).2) (Lib.hid fun w1 kA kB hB => ?_)
      (Lib.hid fun w => by rw [hxx]; exact make_q _ _ w (by omega) (by omega) (by omega) (by omega) hd0)
    refine search_any 92 #[.pointer (some ⟨w.heap.size + 1, 0, none⟩), .pointer (some ⟨w.heap.size, 0, none⟩)] m i (fun t => decide (X ≤ at1 ks (t + 1) * D)) w1 (fun _ _ => by kernel_rfl) (by omega) (by omega) (fun w2 t hB2 ht => ?_) (fun t ht => decide_eq_false (by have := hs.2.1 t ht; omega)) (fun t h1 h2 => decide_eq_true (hs.later hk (by omega) h1 (by omega)))
    have kA2 := Blk.later hB2 kA
    have kB2 := Blk.later hB2 kB
    have tt := (hk.inT (i := t + 1) (by omega)).1
    have hq := mul_bd (A := 4096) (B := 1048576) (a := at1 ks (t + 1)) (b := D) tt.1 tt.2 (by omega) hD.2
    exact corF_any t (m + 2) c bb oo w.heap.size (w.heap.size + 1) X D (at1 ks (t + 1)) (by omega) (by omega) (by omega) (by omega) w2 (by rw [kB2.cells]; rfl) (by rw [kB2.cells]; rfl) (by rw [kA2.cells]; rfl)
      (cell_later (belowThru hB hB2) (hc (t + 1) (by omega)).1)
theorem both_on {ks : List (Int × Int)} {X D : Int} (hk : okT ks) (hX : M64 X) : ∃ v : Bool, (v = true ↔ okX ks X D) ∧
    CalK 50 ks [.agg #[.int .i64 X, .int .i64 D]] (.bool v) ∧ CalK 53 ks [.agg #[.int .i64 X, .int .i64 D]] (.bool v) := by
  have hl := hk.1
  obtain ⟨p, hp, hv⟩ := valid_cases X D hX.1 hX.2
  by_cases hf : okF X D
  · obtain rfl : p = true := hp.2 hf
    have hck : ∀ w, Calls Try.prog 76 #[.agg #[.int .i64 X, .int .i64 D]] w fun e w' => e = .returned (.int .i64 0) ∧ Below w.heap.size w w' := fun w => by have := check_any X D w; rwa [ck_ok hf] at this
    by_cases hD : D ≤ 1048576
    · have hD1 : 1 ≤ D := hf.1
      have t0 := (hk.inT (i := 0) (by omega)).1
      have t1 := (hk.inT (i := ks.length - 1) (by omega)).1
      have q0 := mul_bd (A := 4096) (B := 1048576) (a := at1 ks 0) (b := D) t0.1 t0.2 (by omega) hD
      have q1 := mul_bd (A := 4096) (B := 1048576) (a := at1 ks (ks.length - 1)) (b := D) t1.1 t1.2 (by omega) hD
      refine ⟨decide (at1 ks 0 * D ≤ X ∧ X ≤ at1 ks (ks.length - 1) * D), ⟨fun h => ⟨hf, hD, of_decide_eq_true h⟩, fun h => decide_eq_true h.2.2⟩, fun a n c w hn hR => ?_, fun a n c w hn hR => ?_⟩
      · obtain ⟨bb, oo, rfl, hb, hc⟩ := hR.cells (by have := hR.1; omega)
        obtain ⟨m, rfl⟩ : ∃ m, n = m + 1 := ⟨n - 1, by have := hR.1; omega⟩
        have hlm : ks.length = m + 1 := hR.1
        have hm : ks.length - 1 = m := by omega
        rw [hm] at q1 ⊢
        have h0 := (hc 0 (by omega)).1
        rw [Nat.zero_mul, Nat.add_zero] at h0
        exact covers_walk m c bb oo X D (at1 ks 0) (at1 ks m) _ w (by omega) hD (by omega) (by omega) (by omega) (by omega) (Lib.hid h0) (Lib.hid (hc m (by omega)).1) (Lib.hid hck) (Lib.hid fun B w h => jwithin_one _ _ X B w h)
      · obtain ⟨bb, oo, rfl, hb, hc⟩ := hR.cells (by have := hR.1; omega)
        obtain ⟨m, rfl⟩ : ∃ m, n = m + 1 := ⟨n - 1, by have := hR.1; omega⟩
        have hlm : ks.length = m + 1 := hR.1
        have hm : ks.length - 1 = m := by omega
        rw [hm] at q1 ⊢
        have h0 := (hc 0 (by omega)).1
        rw [Nat.zero_mul, Nat.add_zero] at h0
        exact on_walk m c bb oo X D (at1 ks 0) (at1 ks m) _ w (by omega) hD (by omega) (by omega) (by omega) (by omega) hb h0 (hc m (by omega)).1 rfl (Lib.hid hv)
    · refine ⟨false, ⟨fun h => Bool.noConfusion h, fun h => absurd h.2.1 hD⟩, fun a n c w hn hR => covers_den a n c X D w (by omega) (Lib.hid hck), fun a n c w hn hR => on_den a n c X D w (by omega) (Lib.hid hv)⟩
  · obtain rfl : p = false := by cases p; rfl; exact absurd (hp.1 rfl) hf
    have hck : ∀ w, Calls Try.prog 76 #[.agg #[.int .i64 X, .int .i64 D]] w fun e w' => e = .returned (.int .i64 8) ∧ Below w.heap.size w w' := fun w => by have := check_any X D w; rwa [ck_no hf] at this
    exact ⟨false, ⟨fun h => Bool.noConfusion h, fun h => absurd h.1 hf⟩, fun a n c w hn hR => covers_bad a n c X D w (Lib.hid hck), fun a n c w hn hR => on_bad a n c X D w (Lib.hid hv)⟩
/-- Both answers of Correct, and what the error says. -/
theorem both_cor (ks : List (Int × Int)) (X D : Int) (hX : M64 X) : ∃ M N E : Int,
    CalK 15 ks [.agg #[.int .i64 X, .int .i64 D]] (.tuple #[.agg #[.int .i64 M, .int .i64 N], .int .i64 E]) ∧ CalK 16 ks [.agg #[.int .i64 X, .int .i64 D]] (.tuple #[.agg #[.int .i64 M, .int .i64 N], .int .i64 E]) := by
  by_cases hk : okT ks
  · obtain ⟨v, hv, h1, h2⟩ := both_on hk hX (D := D)
    by_cases hx : okX ks X D
    · obtain rfl : v = true := hv.2 hx
      obtain ⟨M, N, h3, h4⟩ := both_corrected hk hx
      exact ⟨M, N, 0, fun a n c w hn hR => cor_ok a n c ks X D M N w (Lib.hid hR) (Lib.hid fun w h => checkKnots_yes hk w h) (Lib.hid fun w h => h1 a n c w hn h) (Lib.hid fun w h => h3 a n c w hn h),
        fun a n c w hn hR => rcor_ok a n c ks X D M N w (Lib.hid hR) (Lib.hid fun w h => validKnots_yes hk w h) (Lib.hid fun w h => h2 a n c w hn h) (Lib.hid fun w h => h4 a n c w hn h)⟩
    · obtain rfl : v = false := by cases v; rfl; exact absurd (hv.1 rfl) hx
      exact ⟨0, 0, 2, fun a n c w hn hR => cor_x a n c ks X D w (Lib.hid hR) (Lib.hid fun w h => checkKnots_yes hk w h) (Lib.hid fun w h => h1 a n c w hn h),
        fun a n c w hn hR => rcor_x a n c ks X D w (Lib.hid hR) (Lib.hid fun w h => validKnots_yes hk w h) (Lib.hid fun w h => h2 a n c w hn h)⟩
  · exact ⟨0, 0, 40, fun a n c w hn hR => cor_t a n c ks X D w (Lib.hid hR) (Lib.hid fun w h => checkKnots_no (by unfold maxLen; omega) hk w h),
      fun a n c w hn hR => rcor_t a n c ks X D w (Lib.hid hR) (Lib.hid fun w h => validKnots_no (by unfold maxLen; omega) hk w h)⟩
theorem swp_get (ks : List (Int × Int)) (i : Nat) : (ks.map swp)[i]? = ks[i]?.map swp := by simp
theorem swp_swp (ks : List (Int × Int)) : (ks.map swp).map swp = ks := by
  induction ks with
  | nil => rfl
  | cons p ks ih => simp only [List.map_cons, ih]; rfl
theorem okT_swp {ks : List (Int × Int)} : okT (ks.map swp) ↔ okT ks := by
  have key : ∀ ks : List (Int × Int), okT ks → okT (ks.map swp) := by
    intro ks h
    refine ⟨by simpa using h.1, fun i p hi hp => ?_, fun i p q hi hp hq => ?_⟩
    · rw [swp_get] at hp
      rw [List.length_map] at hi
      obtain ⟨r, hr, rfl⟩ := Option.map_eq_some_iff.1 hp
      have := h.2.1 i r hi hr
      exact ⟨this.2, this.1⟩
    · rw [swp_get] at hp hq
      rw [List.length_map] at hi
      obtain ⟨r, hr, rfl⟩ := Option.map_eq_some_iff.1 hp
      obtain ⟨s, hs, rfl⟩ := Option.map_eq_some_iff.1 hq
      have := h.2.2 i r s hi hr hs
      exact ⟨this.2, this.1⟩
  refine ⟨fun h => ?_, key ks⟩
  have := key _ h
  rwa [swp_swp] at this
theorem both_dis (ks : List (Int × Int)) (X D : Int) (hX : M64 X) (hl : ks.length ≤ 1000) : ∃ M N E : Int,
    CalK 17 ks [.agg #[.int .i64 X, .int .i64 D]] (.tuple #[.agg #[.int .i64 M, .int .i64 N], .int .i64 E]) ∧ CalK 18 ks [.agg #[.int .i64 X, .int .i64 D]] (.tuple #[.agg #[.int .i64 M, .int .i64 N], .int .i64 E]) := by
  have hlm : (ks.map swp).length ≤ 1000 := by simpa using hl
  by_cases hk : okT ks
  · obtain ⟨M, N, E, h1, h2⟩ := both_cor (ks.map swp) X D hX
    exact ⟨M, N, E, fun a n c w hn hR => dis_ok a n c ks _ X D M N E w (Lib.hid hR) (Lib.hid fun w h => exchanged_any a n c ks hn w h) (Lib.hid fun a c w h => h1 a _ c w hlm h),
      fun a n c w hn hR => rdis_ok a n c ks _ X D M N E w (Lib.hid hR) (Lib.hid fun w h => turned_any a n c ks hn w h) (Lib.hid fun a c w h => h2 a _ c w hlm h) (Lib.hid fun w h => validKnots_yes hk w h)⟩
  · have hk' : ¬ okT (ks.map swp) := fun h => hk (okT_swp.1 h)
    exact ⟨0, 0, 40, fun a n c w hn hR => dis_ok a n c ks _ X D 0 0 40 w (Lib.hid hR) (Lib.hid fun w h => exchanged_any a n c ks hn w h) (Lib.hid fun a c w h => cor_t a _ c _ X D w (Lib.hid h) (Lib.hid fun w h => checkKnots_no (by unfold maxLen; omega) hk' w h)),
      fun a n c w hn hR => rdis_t a n c ks X D w (Lib.hid hR) (Lib.hid fun w h => validKnots_no (by unfold maxLen; omega) hk w h)⟩
theorem both_csp (ks : List (Int × Int)) (X D Y F : Int) (hX : M64 X) (hY : M64 Y) : ∃ M N O Q E : Int,
    CalK 19 ks [.agg #[.int .i64 X, .int .i64 D, .int .i64 Y, .int .i64 F]] (.tuple #[.agg #[.int .i64 M, .int .i64 N, .int .i64 O, .int .i64 Q], .int .i64 E]) ∧ CalK 20 ks [.agg #[.int .i64 X, .int .i64 D, .int .i64 Y, .int .i64 F]] (.tuple #[.agg #[.int .i64 M, .int .i64 N, .int .i64 O, .int .i64 Q], .int .i64 E]) := by
  by_cases hk : okT ks
  · obtain ⟨v, hv, h1, h2⟩ := both_on hk hX (D := D)
    obtain ⟨u, hu, h3, h4⟩ := both_on hk hY (D := F)
    obtain ⟨s, hs, h5⟩ := rvalidSpan X D Y F hX.1 hX.2 hY.1 hY.2
    have ky : ∀ {a : Option Addr} {n c : Nat} (w : World), KRow w a n ks → _ := fun {a n c} w h => checkKnots_yes (a := a) (n := n) (c := c) hk w h
    have kv' : ∀ {a : Option Addr} {n c : Nat} (w : World), KRow w a n ks → _ := fun {a n c} w h => validKnots_yes (a := a) (n := n) (c := c) hk w h
    by_cases hx : okX ks X D
    · obtain rfl : v = true := hv.2 hx
      obtain ⟨M, N, h6, h7⟩ := both_corrected hk hx
      by_cases hy : okX ks Y F
      · obtain rfl : u = true := hu.2 hy
        obtain ⟨O, Q, h8, h9⟩ := both_corrected hk hy
        by_cases hsp : okS X D Y F
        · obtain rfl : s = true := hs.2 hsp
          exact ⟨M, N, O, Q, 0, fun a n c w hn hR => csp_ok a n c ks X D Y F M N O Q 0 w (Lib.hid hR)
              (Lib.hid fun w h => cor_ok a n c ks X D M N w (Lib.hid h) (Lib.hid fun w h => ky w h) (Lib.hid fun w h => h1 a n c w hn h) (Lib.hid fun w h => h6 a n c w hn h))
              (Lib.hid fun w h => cor_ok a n c ks Y F O Q w (Lib.hid h) (Lib.hid fun w h => ky w h) (Lib.hid fun w h => h3 a n c w hn h) (Lib.hid fun w h => h8 a n c w hn h))
              (Lib.hid fun w => by have := checkSpan_any X D Y F w; rwa [okS_ck hsp] at this),
            fun a n c w hn hR => rcsp_ok a n c ks X D Y F M N O Q w (Lib.hid hR) (Lib.hid fun w h => kv' w h) (Lib.hid h5) (Lib.hid fun w h => h2 a n c w hn h) (Lib.hid fun w h => h4 a n c w hn h) (Lib.hid fun w h => h7 a n c w hn h) (Lib.hid fun w h => h9 a n c w hn h)⟩
        · obtain rfl : s = false := by cases s; rfl; exact absurd (hs.1 rfl) hsp
          exact ⟨0, 0, 0, 0, 2, fun a n c w hn hR => csp_s a n c ks X D Y F M N O Q 0 w (Lib.hid hR)
              (Lib.hid fun w h => cor_ok a n c ks X D M N w (Lib.hid h) (Lib.hid fun w h => ky w h) (Lib.hid fun w h => h1 a n c w hn h) (Lib.hid fun w h => h6 a n c w hn h))
              (Lib.hid fun w h => cor_ok a n c ks Y F O Q w (Lib.hid h) (Lib.hid fun w h => ky w h) (Lib.hid fun w h => h3 a n c w hn h) (Lib.hid fun w h => h8 a n c w hn h))
              (Lib.hid fun w => by have := checkSpan_any X D Y F w; rwa [ckS_no hsp] at this),
            fun a n c w hn hR => rcsp_s a n c ks X D Y F 0 0 0 0 w (Lib.hid hR) (Lib.hid fun w h => kv' w h) (Lib.hid h5)⟩
      · obtain rfl : u = false := by cases u; rfl; exact absurd (hu.1 rfl) hy
        refine ⟨0, 0, 0, 0, 2, fun a n c w hn hR => csp_hi a n c ks X D Y F M N 0 0 2 w (Lib.hid hR) rfl
              (Lib.hid fun w h => cor_ok a n c ks X D M N w (Lib.hid h) (Lib.hid fun w h => ky w h) (Lib.hid fun w h => h1 a n c w hn h) (Lib.hid fun w h => h6 a n c w hn h))
              (Lib.hid fun w h => cor_x a n c ks Y F w (Lib.hid h) (Lib.hid fun w h => ky w h) (Lib.hid fun w h => h3 a n c w hn h)), fun a n c w hn hR => ?_⟩
        cases s
        · exact rcsp_s a n c ks X D Y F 0 0 0 0 w (Lib.hid hR) (Lib.hid fun w h => kv' w h) (Lib.hid h5)
        · exact rcsp_hi a n c ks X D Y F 0 0 0 0 w (Lib.hid hR) (Lib.hid fun w h => kv' w h) (Lib.hid h5) (Lib.hid fun w h => h2 a n c w hn h) (Lib.hid fun w h => h4 a n c w hn h)
    · obtain rfl : v = false := by cases v; rfl; exact absurd (hv.1 rfl) hx
      refine ⟨0, 0, 0, 0, 2, fun a n c w hn hR => csp_lo a n c ks X D Y F 0 0 0 0 2 w (Lib.hid hR) rfl
              (Lib.hid fun w h => cor_x a n c ks X D w (Lib.hid h) (Lib.hid fun w h => ky w h) (Lib.hid fun w h => h1 a n c w hn h)), fun a n c w hn hR => ?_⟩
      cases s
      · exact rcsp_s a n c ks X D Y F 0 0 0 0 w (Lib.hid hR) (Lib.hid fun w h => kv' w h) (Lib.hid h5)
      · exact rcsp_lo a n c ks X D Y F 0 0 0 0 w (Lib.hid hR) (Lib.hid fun w h => kv' w h) (Lib.hid h5) (Lib.hid fun w h => h2 a n c w hn h)
  · exact ⟨0, 0, 0, 0, 40, fun a n c w hn hR => csp_lo a n c ks X D Y F 0 0 0 0 40 w (Lib.hid hR) rfl
        (Lib.hid fun w h => cor_t a n c ks X D w (Lib.hid h) (Lib.hid fun w h => checkKnots_no (by unfold maxLen; omega) hk w h)),
      fun a n c w hn hR => rcsp_t a n c ks X D Y F 0 0 0 0 w (Lib.hid hR) (Lib.hid fun w h => validKnots_no (by unfold maxLen; omega) hk w h)⟩
theorem both_ck (ks : List (Int × Int)) : ∃ E : Int, CalK 21 ks [] (.int .i64 E) ∧ CalK 22 ks [] (.int .i64 E) := by
  by_cases hk : okT ks
  · exact ⟨0, fun a n c w hn hR => checkKnots_yes hk w hR, fun a n c w hn hR => rckKnots a n c ks true 0 (.inl ⟨rfl, rfl⟩) w (Lib.hid hR) (Lib.hid fun w h => validKnots_yes hk w h)⟩
  · exact ⟨40, fun a n c w hn hR => checkKnots_no (by unfold maxLen; omega) hk w hR, fun a n c w hn hR => rckKnots a n c ks false 40 (.inr ⟨rfl, rfl⟩) w (Lib.hid hR) (Lib.hid fun w h => validKnots_no (by unfold maxLen; omega) hk w h)⟩

/-- What append makes of an empty slice of the call's own and a table. -/
theorem run_append_tab (ty : TypeId) (a : Option Addr) (n c B g : Nat) (ks : List (Int × Int)) (h8 : n ≤ 1000) (w : World) (hg : Blk w g #[] 37) (hB : B ≤ g) (hR : KRow w a n ks) :
    ∃ (a' : Option Addr) (c' : Nat) (w' : World), (Builtin.append_ #[22, 22] ty #[.slice (some ⟨g, 0, none⟩) 0 0, .slice a n c]).run Try.prog w = .ok (.slice a' n c') w' ∧ KRow w' a' n ks ∧ Below B w w' := by
  obtain ⟨i0, hi, hz0, hz1, hz2⟩ := info_parts info_knot
  have hlen : ks.length = n := hR.1
  rcases a with _ | ad
  · have hn : n = 0 := by
      rcases Nat.eq_zero_or_pos n with h | h
      · exact h
      · obtain ⟨b, off, e, -⟩ := hR.2 h; cases e
    subst hn
    obtain rfl : ks = [] := List.eq_nil_of_length_eq_zero hlen
    refine ⟨some ⟨g, 0, none⟩, 0, w, ?_, ⟨rfl, fun h => absurd h (Nat.lt_irrefl 0)⟩, Below.refl _ _⟩
    simp [Builtin.append_, run_underlying Try.underlying22, sizeOf, typeInfo, hi, Builtin.lenOf, Builtin.firstCells, storeCells]
  · have hc : ∀ j u, (kv ks)[j]? = some u → w.cell? (ad.add j) = some u := by
      intro j u hu
      have hj : j < (kv ks).length := (List.getElem?_eq_some_iff.1 hu).1
      rw [kv_length] at hj
      obtain ⟨b, off, e, -, hc⟩ := hR.cells (by omega)
      cases e
      have hk := kv_get ks (j / 2) (by omega)
      have hcc := hc (j / 2) (by omega)
      rw [add_plus]
      rcases Nat.mod_two_eq_zero_or_one j with h | h
      · have ej : j = j / 2 * 2 := by omega
        rw [← ej] at hk hcc
        rw [hcc.1, ← hk.1, hu]
      · have ej : j = j / 2 * 2 + 1 := by omega
        rw [← ej] at hk
        rw [show off + j = off + j / 2 * 2 + 1 by omega, hcc.2, ← hk.2, hu]
    have hlt := hg.lt
    obtain ⟨v', w', hrun, hown, hgr, -, -⟩ := run_append_own_at (P := Try.prog) w B 22 ty 37 i0 (.agg #[.int .i64 0, .int .i64 0]) 2 16 Try.underlying22 hi hz0 hz1 hz2 rfl (by omega) (.slice (some ⟨g, 0, none⟩) 0 0) 0 [] ⟨rfl, .inr ⟨g, 0, #[], rfl, hB, hg, Nat.le_refl _, Nat.zero_le _, rfl, rfl⟩⟩ ad n c (kv ks) (by rw [kv_length, hlen]) hc (oneCell_kv ks) (by unfold maxLen; omega) (by omega) (by omega)
    have hBe : Below B w w' := (Below.refl _ w).grown hgr (by omega) (fun k hk => by simp [Value.ownBlock] at hk; omega)
    simp only [Nat.zero_add, List.nil_append] at hown
    obtain ⟨a', c', rfl, hr⟩ := ownsRow_krow (ks := ks) (by rw [hlen]; exact hown)
    rw [hlen] at hr hrun
    exact ⟨a', c', w', hrun, hr, hBe⟩
theorem wp_append_slot {P : Program} {o : Oper} {act : Act} {K : Act → World → Prop} {Q : Exit → Act → World → Prop} {w : World} (s x : Operand) (t : TypeId) (R : Value → World → Prop)
    (ho : o.op = .call { callee := .builtin .append, args := #[s, x], argTypes := #[t, t] }) (v u : Value) (hs : act.eval s = v) (hx : act.eval x = u)
    (hr : ∃ r w', (Builtin.append_ #[t, t] o.type #[v, u]).run P w = .ok r w' ∧ R r w')
    (h : ∀ r w', R r w' → K (act.put o.dst r) w') : o.wp P act w K Q := by
  obtain ⟨r, w', hrun, hR⟩ := hr
  unfold Oper.wp execOp
  simp only [ho, resolve, invoke, builtin, Sem.run_bind, Sem.run_pure, Result.andThen_ok, List.map_toArray, List.map_cons, List.map_nil, hs, hx, hrun]
  exact h r w' hR
theorem wpList_append_slot {P : Program} {ops : Array Oper} {rest : List Oper} {o : Oper} {act : Act} {Q : Exit → Act → World → Prop} {w : World} (hgd : o.guard = none) (s x : Operand) (t : TypeId) (R : Value → World → Prop)
    (ho : o.op = .call { callee := .builtin .append, args := #[s, x], argTypes := #[t, t] }) (v u : Value) (hs : act.eval s = v) (hx : act.eval x = u)
    (hr : ∃ r w', (Builtin.append_ #[t, t] o.type #[v, u]).run P w = .ok r w' ∧ R r w')
    (h : ∀ r w', R r w' → wpList P ops Q rest (act.put o.dst r) w') : wpList P ops Q (o :: rest) act w :=
  wpList_plain hgd fun _ hK => wp_append_slot s x t R ho v u hs hx hr fun r w' hR => hK _ _ (h r w' hR)
end Go.Proofs.Ytcafmmhjlecgpaa
