/-
  Layer 2: Dilate and Erode, by the code; both sides.
-/
import Derived.Test.YtefphhhmibnjiaaIMor
import Derived.Test.YtefphhhmibnjiaaILawWarps
namespace Go.Proofs.Ytefphhhmibnjiaa
open Go.RowKit
set_option linter.unusedVariables false
set_option linter.unusedSimpArgs false

theorem pixAt_ok {W H : Int} {zs : List Int} (hI : okI W H zs) (x y : Int) : okV (pixAt W zs x y) := by
  unfold pixAt
  cases h : zs[(y * W + x).toNat]? with
  | none => exact ⟨by decide, by decide⟩
  | some z => exact hI.2.2 z (List.mem_of_getElem? h)

def stpD (W H : Int) (zs : List Int) (SW SH : Int) (bs : List Bool) (x y : Int) (p : Int) (k : Nat) : Int :=
  if bs[k]?.getD false = true ∧ inP W H (x - ((k : Int) % SW - SW / 2)) (y - ((k : Int) / SW - SH / 2)) then (if p < pixAt W zs (x - ((k : Int) % SW - SW / 2)) (y - ((k : Int) / SW - SH / 2)) then pixAt W zs (x - ((k : Int) % SW - SW / 2)) (y - ((k : Int) / SW - SH / 2)) else p) else p
theorem exD_fold (W H : Int) (zs : List Int) (SW SH : Int) (bs : List Bool) (x y : Int) (m : Nat) : (List.range m).foldl (stpD W H zs SW SH bs x y) (-2147483648) = exD W H zs SW SH bs x y m := by
  induction m with
  | zero => rfl
  | succ m ih => rw [List.range_succ, List.foldl_append, ih]; rfl
theorem exD_ok {W H : Int} {zs : List Int} (hI : okI W H zs) (SW SH : Int) (bs : List Bool) (x y : Int) (m : Nat) : okV (exD W H zs SW SH bs x y m) := by
  induction m with
  | zero => show okV (-2147483648); exact ⟨by decide, by decide⟩
  | succ k ih =>
    have hp := pixAt_ok hI (x - ((k : Int) % SW - SW / 2)) (y - ((k : Int) / SW - SH / 2))
    unfold exD
    split
    · split
      · exact hp
      · exact ih
    · exact ih
set_option maxHeartbeats 400000 in
theorem dilate1_any (p q : Int) (w : World) : Calls Try.prog 80 #[.int .i64 p, .int .i64 q] w fun e w' => e = .returned (.int .i64 (if p < q then q else p)) ∧ Below w.heap.size w w' := by
  go_enter Try.func80, Try.ntmps80
  go_wp2
  all_goals
    go_ret
    exact ⟨rfl, by (repeat' (first | (with_reducible exact Below.refl _ _) | (with_reducible assumption) | (with_reducible refine belowThru ?_ (by assumption)) | (with_reducible refine belowAlloc ?_) | (with_reducible refine Below.setCell ?_ (by first | omega | (simp; done) | (simp; omega)) _) | (with_reducible refine Below.drew ?_) | (with_reducible refine below_drewN ?_ _)))⟩
set_option maxHeartbeats 2000000 in
theorem dilate_of (W H SW SH W2 H2 E2 : Int) (Z2 : List Int) (a a' : Option Addr) (n c m c' : Nat) (zs : List Int) (bs : List Bool) (w : World) (hR : Row w a n (iv zs)) (hT : Row w a' m (bv bs))
    (HX : Hid (∀ w, Row w a n (iv zs) → Row w a' m (bv bs) → Calls Try.prog 77 #[.agg #[.int .i64 W, .int .i64 H, .slice a n c], .agg #[.int .i64 SW, .int .i64 SH, .slice a' m c'], .func (.func 76) #[] #[], .int .i64 (-2147483648), .func (.func 80) #[] #[]] w (RetI W2 H2 Z2 E2 w))) :
    Calls Try.prog 25 #[.agg #[.int .i64 W, .int .i64 H, .slice a n c], .agg #[.int .i64 SW, .int .i64 SH, .slice a' m c']] w (RetI W2 H2 Z2 E2 w) := by
  have HR := Lib.hid hR
  have HT := Lib.hid hT
  clear hR hT
  go_enter Try.func25, Try.ntmps25
  go_wp2_with fail
  refine (HX.out _ (HR.out.later (by (repeat' (first | (with_reducible exact Below.refl _ _) | (with_reducible assumption) | (with_reducible refine belowThru ?_ (by assumption)) | (with_reducible refine belowAlloc ?_) | (with_reducible refine Below.setCell ?_ (by first | omega | (simp; done) | (simp; omega)) _) | (with_reducible refine Below.drew ?_) | (with_reducible refine below_drewN ?_ _))))) (HT.out.later (by (repeat' (first | (with_reducible exact Below.refl _ _) | (with_reducible assumption) | (with_reducible refine belowThru ?_ (by assumption)) | (with_reducible refine belowAlloc ?_) | (with_reducible refine Below.setCell ?_ (by first | omega | (simp; done) | (simp; omega)) _) | (with_reducible refine Below.drew ?_) | (with_reducible refine below_drewN ?_ _)))))).mono ?_
  rintro e w2 ⟨ax, nx, cx, rfl, hNx, hb⟩
  (first | ((with_reducible have k0 := Blk.later hb (Blk.alloc (Blk.alloc (Blk.new rfl)))); (with_reducible have k1 := Blk.later hb (Blk.alloc (Blk.new rfl))); (with_reducible have k2 := Blk.later hb (Blk.new rfl)); simp only [World.size_alloc] at k1 k2; obtain ⟨a0, b0⟩ := k0.read; have zl := k0.lt; obtain ⟨a1, b1⟩ := k1.read; have zl := k1.lt; obtain ⟨a2, b2⟩ := k2.read; have zl := k2.lt) | ((try (have zk := k0.lt; (first | ((with_reducible refine Blk.keepG hb k0 (fun h => ?_) ?_); (focus ((repeat' (first | (with_reducible assumption) | ((with_reducible refine Blk.new ?_); first | rfl | (simp; done)) | (with_reducible refine Blk.later (by assumption) ?_) | (with_reducible refine Blk.alloc ?_) | (with_reducible refine Blk.drewN ?_) | (with_reducible refine Blk.drew ?_) | (with_reducible refine Blk.other ?_ (by first | omega | (simp; done) | (simp; omega))))); done)); clear k0; intro k0) | (with_reducible replace k0 := Blk.later hb (Blk.set (Blk.set k0))) | (with_reducible replace k0 := Blk.later hb (Blk.set k0))); clear a0 b0; obtain ⟨a0, b0⟩ := k0.read; have zl := k0.lt)); (try (have zk := k1.lt; (first | ((with_reducible refine Blk.keepG hb k1 (fun h => ?_) ?_); (focus ((repeat' (first | (with_reducible assumption) | ((with_reducible refine Blk.new ?_); first | rfl | (simp; done)) | (with_reducible refine Blk.later (by assumption) ?_) | (with_reducible refine Blk.alloc ?_) | (with_reducible refine Blk.drewN ?_) | (with_reducible refine Blk.drew ?_) | (with_reducible refine Blk.other ?_ (by first | omega | (simp; done) | (simp; omega))))); done)); clear k1; intro k1) | (with_reducible replace k1 := Blk.later hb (Blk.set (Blk.set k1))) | (with_reducible replace k1 := Blk.later hb (Blk.set k1))); clear a1 b1; obtain ⟨a1, b1⟩ := k1.read; have zl := k1.lt)); (try (have zk := k2.lt; (first | ((with_reducible refine Blk.keepG hb k2 (fun h => ?_) ?_); (focus ((repeat' (first | (with_reducible assumption) | ((with_reducible refine Blk.new ?_); first | rfl | (simp; done)) | (with_reducible refine Blk.later (by assumption) ?_) | (with_reducible refine Blk.alloc ?_) | (with_reducible refine Blk.drewN ?_) | (with_reducible refine Blk.drew ?_) | (with_reducible refine Blk.other ?_ (by first | omega | (simp; done) | (simp; omega))))); done)); clear k2; intro k2) | (with_reducible replace k2 := Blk.later hb (Blk.set (Blk.set k2))) | (with_reducible replace k2 := Blk.later hb (Blk.set k2))); clear a2 b2; obtain ⟨a2, b2⟩ := k2.read; have zl := k2.lt))))
  have HX2 := Lib.hid (New.mono (B' := w.heap.size) (by first | omega | (simp; omega)) hNx)
  have HBw : Hid (Below w.heap.size w w2) := by show Below _ _ _; (repeat' (first | (with_reducible exact Below.refl _ _) | (with_reducible assumption) | (with_reducible refine belowThru ?_ (by assumption)) | (with_reducible refine belowAlloc ?_) | (with_reducible refine Below.setCell ?_ (by first | omega | (simp; done) | (simp; omega)) _) | (with_reducible refine Below.drew ?_) | (with_reducible refine below_drewN ?_ _)))
  clear hb hNx HX
  go_wp2_with fail
  have hBw := HBw.out
  exact bodyPost_ret (v := .tuple #[.agg #[.int .i64 W2, .int .i64 H2, .slice ax nx cx], .int .i64 E2]) (by simp only [results, Try.results25]; go_simp) rfl ⟨ax, nx, cx, rfl, New.set3 HX2.out k2 (by decide) _ _ _, by (repeat' (first | (with_reducible exact Below.refl _ _) | (with_reducible assumption) | (with_reducible refine belowThru ?_ (by assumption)) | (with_reducible refine belowAlloc ?_) | (with_reducible refine Below.setCell ?_ (by first | omega | (simp; done) | (simp; omega)) _) | (with_reducible refine Below.drew ?_) | (with_reducible refine below_drewN ?_ _)))⟩
theorem both_dilate (W H SW SH : Int) (n m : Nat) (zs : List Int) (bs : List Bool) (hl : zs.length = n) (hn : n ≤ maxLen) (hm : m ≤ maxLen) :
    ∃ (W2 H2 E2 : Int) (Z2 : List Int), Z2.length ≤ 1000 ∧ (∀ (a a' : Option Addr) (c c' : Nat) (w : World), Row w a n (iv zs) → Row w a' m (bv bs) → Calls Try.prog 25 #[.agg #[.int .i64 W, .int .i64 H, .slice a n c], .agg #[.int .i64 SW, .int .i64 SH, .slice a' m c']] w (RetI W2 H2 Z2 E2 w)) ∧
      (∀ (a a' : Option Addr) (c c' : Nat) (w : World), Row w a n (iv zs) → Row w a' m (bv bs) → Calls Try.prog 42 #[.agg #[.int .i64 W, .int .i64 H, .slice a n c], .agg #[.int .i64 SW, .int .i64 SH, .slice a' m c']] w (RetI W2 H2 Z2 E2 w)) := by
  by_cases hI : okI W H zs
  · by_cases hS : okSh SW SH bs
    · have hmm := okS_mul hI.1.1 hI.1.2
      have hN : W * H = (n : Int) := by rw [← hl]; exact hI.2.1.symm
      refine ⟨_, _, _, _, ?_, fun a a' c c' w hR hT => dilate_of W H SW SH _ _ _ _ a a' n c m c' zs bs w hR hT (Lib.hid (fun w hR hT => extremes_ok W H SW SH (-2147483648) 76 80 (fun p q => (if p < q then q else p)) (fun x y (k : Nat) => (x - ((k : Int) % SW - SW / 2))) (fun x y (k : Nat) => (y - ((k : Int) / SW - SH / 2))) (fun k => exD W H zs SW SH bs ((k : Int) % W) ((k : Int) / W) m) a a' n c m c' zs bs (fun (j : Nat) => stpD W H zs SW SH bs ((j : Int) % W) ((j : Int) / W)) hI hS hn hm w hR hT (enters_of Try.func76 (by kernel_rfl) rfl) (enters_of Try.func80 (by kernel_rfl) rfl) ?_ (Lib.hid (fun p q w => dilate1_any p q w)) ?_ ?_ ?_)), fun a a' c c' w hR hT => rdilate_ok W H SW SH a a' n c m c' zs bs hI hS hn hm w hR hT⟩
      · rw [made_length]; omega
      · refine Lib.hid (fun j hj k hk w => ?_)
        have hp := place_in hI.1.1 hI.1.2 hN hj
        have h1 := hI.1.1.2; have h2 := hI.1.2.2
        have s1 : 1 ≤ SW ∧ SW ≤ 5 := by have := hS.1.1; unfold okK at this; omega
        have s2 : 1 ≤ SH ∧ SH ≤ 5 := by have := hS.1.2; unfold okK at this; omega
        have hb : bs.length = m := by have := hT.1; rwa [bv_length] at this
        have hm2 : m ≤ 25 := by have := okK_mul hS.1.1 hS.1.2; have := hS.2.1; omega
        have := small_div k SW s1.1 (by omega)
        exact minus_any _ _ _ _ (by omega) (by omega) (by omega) (by omega) w
      · exact Lib.hid (fun j p k h1 h2 => if_pos ⟨by rw [h1]; rfl, h2⟩)
      · exact Lib.hid (fun j p k h => if_neg (fun ⟨h1, h2⟩ => h.elim (fun e => by rw [e] at h1; cases h1) (fun e => e h2)))
      · exact Lib.hid (fun j _ => ⟨exD_fold W H zs SW SH bs _ _ m, exD_ok hI SW SH bs _ _ m⟩)
    · exact ⟨_, _, _, _, by simp, fun a a' c c' w hR hT => dilate_of W H SW SH _ _ _ _ a a' n c m c' zs bs w hR hT (Lib.hid (fun w hR hT => extremes_arg W H SW SH _ _ _ a a' n c m c' zs bs hI hS hn hm w hR hT)), fun a a' c c' w hR hT => rdilate_arg W H SW SH a a' n c m c' zs bs hI hS hn hm w hR hT⟩
  · exact ⟨_, _, _, _, by simp, fun a a' c c' w hR hT => dilate_of W H SW SH _ _ _ _ a a' n c m c' zs bs w hR hT (Lib.hid (fun w hR hT => extremes_no W H SW SH _ _ _ a a' n c m c' zs hI hn w hR)), fun a a' c c' w hR hT => rdilate_no W H SW SH a a' n c m c' zs bs hI hn w hR⟩

def stpE (W H : Int) (zs : List Int) (SW SH : Int) (bs : List Bool) (x y : Int) (p : Int) (k : Nat) : Int :=
  if bs[k]?.getD false = true ∧ inP W H (x + ((k : Int) % SW - SW / 2)) (y + ((k : Int) / SW - SH / 2)) then (if pixAt W zs (x + ((k : Int) % SW - SW / 2)) (y + ((k : Int) / SW - SH / 2)) < p then pixAt W zs (x + ((k : Int) % SW - SW / 2)) (y + ((k : Int) / SW - SH / 2)) else p) else p
theorem exE_fold (W H : Int) (zs : List Int) (SW SH : Int) (bs : List Bool) (x y : Int) (m : Nat) : (List.range m).foldl (stpE W H zs SW SH bs x y) 2147483648 = exE W H zs SW SH bs x y m := by
  induction m with
  | zero => rfl
  | succ m ih => rw [List.range_succ, List.foldl_append, ih]; rfl
theorem exE_ok {W H : Int} {zs : List Int} (hI : okI W H zs) (SW SH : Int) (bs : List Bool) (x y : Int) (m : Nat) : okV (exE W H zs SW SH bs x y m) := by
  induction m with
  | zero => show okV 2147483648; exact ⟨by decide, by decide⟩
  | succ k ih =>
    have hp := pixAt_ok hI (x + ((k : Int) % SW - SW / 2)) (y + ((k : Int) / SW - SH / 2))
    unfold exE
    split
    · split
      · exact hp
      · exact ih
    · exact ih
set_option maxHeartbeats 400000 in
theorem erode1_any (p q : Int) (w : World) : Calls Try.prog 79 #[.int .i64 p, .int .i64 q] w fun e w' => e = .returned (.int .i64 (if q < p then q else p)) ∧ Below w.heap.size w w' := by
  go_enter Try.func79, Try.ntmps79
  go_wp2
  all_goals
    go_ret
    exact ⟨rfl, by (repeat' (first | (with_reducible exact Below.refl _ _) | (with_reducible assumption) | (with_reducible refine belowThru ?_ (by assumption)) | (with_reducible refine belowAlloc ?_) | (with_reducible refine Below.setCell ?_ (by first | omega | (simp; done) | (simp; omega)) _) | (with_reducible refine Below.drew ?_) | (with_reducible refine below_drewN ?_ _)))⟩
set_option maxHeartbeats 2000000 in
theorem erode_of (W H SW SH W2 H2 E2 : Int) (Z2 : List Int) (a a' : Option Addr) (n c m c' : Nat) (zs : List Int) (bs : List Bool) (w : World) (hR : Row w a n (iv zs)) (hT : Row w a' m (bv bs))
    (HX : Hid (∀ w, Row w a n (iv zs) → Row w a' m (bv bs) → Calls Try.prog 77 #[.agg #[.int .i64 W, .int .i64 H, .slice a n c], .agg #[.int .i64 SW, .int .i64 SH, .slice a' m c'], .func (.func 78) #[] #[], .int .i64 2147483648, .func (.func 79) #[] #[]] w (RetI W2 H2 Z2 E2 w))) :
    Calls Try.prog 24 #[.agg #[.int .i64 W, .int .i64 H, .slice a n c], .agg #[.int .i64 SW, .int .i64 SH, .slice a' m c']] w (RetI W2 H2 Z2 E2 w) := by
  have HR := Lib.hid hR
  have HT := Lib.hid hT
  clear hR hT
  go_enter Try.func24, Try.ntmps24
  go_wp2_with fail
  refine (HX.out _ (HR.out.later (by (repeat' (first | (with_reducible exact Below.refl _ _) | (with_reducible assumption) | (with_reducible refine belowThru ?_ (by assumption)) | (with_reducible refine belowAlloc ?_) | (with_reducible refine Below.setCell ?_ (by first | omega | (simp; done) | (simp; omega)) _) | (with_reducible refine Below.drew ?_) | (with_reducible refine below_drewN ?_ _))))) (HT.out.later (by (repeat' (first | (with_reducible exact Below.refl _ _) | (with_reducible assumption) | (with_reducible refine belowThru ?_ (by assumption)) | (with_reducible refine belowAlloc ?_) | (with_reducible refine Below.setCell ?_ (by first | omega | (simp; done) | (simp; omega)) _) | (with_reducible refine Below.drew ?_) | (with_reducible refine below_drewN ?_ _)))))).mono ?_
  rintro e w2 ⟨ax, nx, cx, rfl, hNx, hb⟩
  (first | ((with_reducible have k0 := Blk.later hb (Blk.alloc (Blk.alloc (Blk.new rfl)))); (with_reducible have k1 := Blk.later hb (Blk.alloc (Blk.new rfl))); (with_reducible have k2 := Blk.later hb (Blk.new rfl)); simp only [World.size_alloc] at k1 k2; obtain ⟨a0, b0⟩ := k0.read; have zl := k0.lt; obtain ⟨a1, b1⟩ := k1.read; have zl := k1.lt; obtain ⟨a2, b2⟩ := k2.read; have zl := k2.lt) | ((try (have zk := k0.lt; (first | ((with_reducible refine Blk.keepG hb k0 (fun h => ?_) ?_); (focus ((repeat' (first | (with_reducible assumption) | ((with_reducible refine Blk.new ?_); first | rfl | (simp; done)) | (with_reducible refine Blk.later (by assumption) ?_) | (with_reducible refine Blk.alloc ?_) | (with_reducible refine Blk.drewN ?_) | (with_reducible refine Blk.drew ?_) | (with_reducible refine Blk.other ?_ (by first | omega | (simp; done) | (simp; omega))))); done)); clear k0; intro k0) | (with_reducible replace k0 := Blk.later hb (Blk.set (Blk.set k0))) | (with_reducible replace k0 := Blk.later hb (Blk.set k0))); clear a0 b0; obtain ⟨a0, b0⟩ := k0.read; have zl := k0.lt)); (try (have zk := k1.lt; (first | ((with_reducible refine Blk.keepG hb k1 (fun h => ?_) ?_); (focus ((repeat' (first | (with_reducible assumption) | ((with_reducible refine Blk.new ?_); first | rfl | (simp; done)) | (with_reducible refine Blk.later (by assumption) ?_) | (with_reducible refine Blk.alloc ?_) | (with_reducible refine Blk.drewN ?_) | (with_reducible refine Blk.drew ?_) | (with_reducible refine Blk.other ?_ (by first | omega | (simp; done) | (simp; omega))))); done)); clear k1; intro k1) | (with_reducible replace k1 := Blk.later hb (Blk.set (Blk.set k1))) | (with_reducible replace k1 := Blk.later hb (Blk.set k1))); clear a1 b1; obtain ⟨a1, b1⟩ := k1.read; have zl := k1.lt)); (try (have zk := k2.lt; (first | ((with_reducible refine Blk.keepG hb k2 (fun h => ?_) ?_); (focus ((repeat' (first | (with_reducible assumption) | ((with_reducible refine Blk.new ?_); first | rfl | (simp; done)) | (with_reducible refine Blk.later (by assumption) ?_) | (with_reducible refine Blk.alloc ?_) | (with_reducible refine Blk.drewN ?_) | (with_reducible refine Blk.drew ?_) | (with_reducible refine Blk.other ?_ (by first | omega | (simp; done) | (simp; omega))))); done)); clear k2; intro k2) | (with_reducible replace k2 := Blk.later hb (Blk.set (Blk.set k2))) | (with_reducible replace k2 := Blk.later hb (Blk.set k2))); clear a2 b2; obtain ⟨a2, b2⟩ := k2.read; have zl := k2.lt))))
  have HX2 := Lib.hid (New.mono (B' := w.heap.size) (by first | omega | (simp; omega)) hNx)
  have HBw : Hid (Below w.heap.size w w2) := by show Below _ _ _; (repeat' (first | (with_reducible exact Below.refl _ _) | (with_reducible assumption) | (with_reducible refine belowThru ?_ (by assumption)) | (with_reducible refine belowAlloc ?_) | (with_reducible refine Below.setCell ?_ (by first | omega | (simp; done) | (simp; omega)) _) | (with_reducible refine Below.drew ?_) | (with_reducible refine below_drewN ?_ _)))
  clear hb hNx HX
  go_wp2_with fail
  have hBw := HBw.out
  exact bodyPost_ret (v := .tuple #[.agg #[.int .i64 W2, .int .i64 H2, .slice ax nx cx], .int .i64 E2]) (by simp only [results, Try.results24]; go_simp) rfl ⟨ax, nx, cx, rfl, New.set3 HX2.out k2 (by decide) _ _ _, by (repeat' (first | (with_reducible exact Below.refl _ _) | (with_reducible assumption) | (with_reducible refine belowThru ?_ (by assumption)) | (with_reducible refine belowAlloc ?_) | (with_reducible refine Below.setCell ?_ (by first | omega | (simp; done) | (simp; omega)) _) | (with_reducible refine Below.drew ?_) | (with_reducible refine below_drewN ?_ _)))⟩
theorem both_erode (W H SW SH : Int) (n m : Nat) (zs : List Int) (bs : List Bool) (hl : zs.length = n) (hn : n ≤ maxLen) (hm : m ≤ maxLen) :
    ∃ (W2 H2 E2 : Int) (Z2 : List Int), Z2.length ≤ 1000 ∧ (∀ (a a' : Option Addr) (c c' : Nat) (w : World), Row w a n (iv zs) → Row w a' m (bv bs) → Calls Try.prog 24 #[.agg #[.int .i64 W, .int .i64 H, .slice a n c], .agg #[.int .i64 SW, .int .i64 SH, .slice a' m c']] w (RetI W2 H2 Z2 E2 w)) ∧
      (∀ (a a' : Option Addr) (c c' : Nat) (w : World), Row w a n (iv zs) → Row w a' m (bv bs) → Calls Try.prog 43 #[.agg #[.int .i64 W, .int .i64 H, .slice a n c], .agg #[.int .i64 SW, .int .i64 SH, .slice a' m c']] w (RetI W2 H2 Z2 E2 w)) := by
  by_cases hI : okI W H zs
  · by_cases hS : okSh SW SH bs
    · have hmm := okS_mul hI.1.1 hI.1.2
      have hN : W * H = (n : Int) := by rw [← hl]; exact hI.2.1.symm
      refine ⟨_, _, _, _, ?_, fun a a' c c' w hR hT => erode_of W H SW SH _ _ _ _ a a' n c m c' zs bs w hR hT (Lib.hid (fun w hR hT => extremes_ok W H SW SH 2147483648 78 79 (fun p q => (if q < p then q else p)) (fun x y (k : Nat) => (x + ((k : Int) % SW - SW / 2))) (fun x y (k : Nat) => (y + ((k : Int) / SW - SH / 2))) (fun k => exE W H zs SW SH bs ((k : Int) % W) ((k : Int) / W) m) a a' n c m c' zs bs (fun (j : Nat) => stpE W H zs SW SH bs ((j : Int) % W) ((j : Int) / W)) hI hS hn hm w hR hT (enters_of Try.func78 (by kernel_rfl) rfl) (enters_of Try.func79 (by kernel_rfl) rfl) ?_ (Lib.hid (fun p q w => erode1_any p q w)) ?_ ?_ ?_)), fun a a' c c' w hR hT => rerode_ok W H SW SH a a' n c m c' zs bs hI hS hn hm w hR hT⟩
      · rw [made_length]; omega
      · refine Lib.hid (fun j hj k hk w => ?_)
        have hp := place_in hI.1.1 hI.1.2 hN hj
        have h1 := hI.1.1.2; have h2 := hI.1.2.2
        have s1 : 1 ≤ SW ∧ SW ≤ 5 := by have := hS.1.1; unfold okK at this; omega
        have s2 : 1 ≤ SH ∧ SH ≤ 5 := by have := hS.1.2; unfold okK at this; omega
        have hb : bs.length = m := by have := hT.1; rwa [bv_length] at this
        have hm2 : m ≤ 25 := by have := okK_mul hS.1.1 hS.1.2; have := hS.2.1; omega
        have := small_div k SW s1.1 (by omega)
        exact plus_any _ _ _ _ (by omega) (by omega) (by omega) (by omega) w
      · exact Lib.hid (fun j p k h1 h2 => if_pos ⟨by rw [h1]; rfl, h2⟩)
      · exact Lib.hid (fun j p k h => if_neg (fun ⟨h1, h2⟩ => h.elim (fun e => by rw [e] at h1; cases h1) (fun e => e h2)))
      · exact Lib.hid (fun j _ => ⟨exE_fold W H zs SW SH bs _ _ m, exE_ok hI SW SH bs _ _ m⟩)
    · exact ⟨_, _, _, _, by simp, fun a a' c c' w hR hT => erode_of W H SW SH _ _ _ _ a a' n c m c' zs bs w hR hT (Lib.hid (fun w hR hT => extremes_arg W H SW SH _ _ _ a a' n c m c' zs bs hI hS hn hm w hR hT)), fun a a' c c' w hR hT => rerode_arg W H SW SH a a' n c m c' zs bs hI hS hn hm w hR hT⟩
  · exact ⟨_, _, _, _, by simp, fun a a' c c' w hR hT => erode_of W H SW SH _ _ _ _ a a' n c m c' zs bs w hR hT (Lib.hid (fun w hR hT => extremes_no W H SW SH _ _ _ a a' n c m c' zs hI hn w hR)), fun a a' c c' w hR hT => rerode_no W H SW SH a a' n c m c' zs bs hI hn w hR⟩
end Go.Proofs.Ytefphhhmibnjiaa
