/-
  Layer 1: products, quotients, and Make.
-/
import Derived.Test.YtcafmmhjlecgpaaTimes
namespace Go.Proofs.Ytcafmmhjlecgpaa
open Go.RowKit

theorem tdiv_in (t s : Int) (h1 : -4611686018427387903 ≤ t) (h2 : t ≤ 4611686018427387903) : -4611686018427387903 ≤ t.tdiv s ∧ t.tdiv s ≤ 4611686018427387903 := by
  have h1 : (t.tdiv s).natAbs ≤ t.natAbs := by
    rw [Int.natAbs_tdiv]; exact Nat.div_le_self _ _
  omega

theorem times_q (q r : Rat) (hq : fits q) (hr : fits r) (w : World) :
    Calls Try.prog 125 #[.agg #[.int .i64 (fn q), .int .i64 (fd q)], .agg #[.int .i64 (fn r), .int .i64 (fd r)]] w fun e w' => e = .returned (.tuple #[.agg #[.int .i64 (rn (q * r)), .int .i64 (rd (q * r))], .int .i64 (re (q * r))]) ∧ Below w.heap.size w w' := by
  have hq' := hq; have hr' := hr
  have fq := hq; have fr' := hr; unfold fits at fq fr'; obtain ⟨q1, q2, q3⟩ := fq; obtain ⟨r1, r2, r3⟩ := fr'; have q4 := fd_pos q; have r4 := fd_pos r
  have mg : ∀ x y, gcdI (mag x) y = gcdI x y := by
    intro x y; unfold gcdI; rw [mag_natAbs, Int.gcd_eq_natAbs_gcd_natAbs, Int.gcd_eq_natAbs_gcd_natAbs, Int.natAbs_natCast]
  obtain ⟨g, hg⟩ : ∃ g, g = gcdI (fn q) (fd r) := ⟨_, rfl⟩
  obtain ⟨h, hh⟩ : ∃ h, h = gcdI (fn r) (fd q) := ⟨_, rfl⟩
  obtain ⟨p1, p2⟩ := mul_parts q r g h hg hh
  have g1 : 0 < g := by rw [hg]; exact gcdI_pos_right _ _ (by omega)
  have g2 : g ≤ fd r := by rw [hg]; exact gcdI_le_right _ _ (by omega)
  have h1 : 0 < h := by rw [hh]; exact gcdI_pos_right _ _ (by omega)
  have h2 : h ≤ fd q := by rw [hh]; exact gcdI_le_right _ _ (by omega)
  have ba := tdiv_in (fn q) g q1 q2
  have bb := tdiv_in (fn r) h r1 r2
  have bc := div_bounds (fd q) h (by omega) h1 h2
  have bd := div_bounds (fd r) g (by omega) g1 g2
  have m0 := mag_lo (fn q); have m1 := mag_le (fn q) (by omega) (by omega); have m2 := mag_lo (fn r); have m3 := mag_le (fn r) (by omega) (by omega)
  have t1 := mul_bound ((fn q).tdiv g) ((fn r).tdiv h) 4611686018427387903 4611686018427387903 ba bb (by omega) (by omega)
  have t2 := mul_bound (fd q / h) (fd r / g) 4611686018427387903 4611686018427387903 ⟨by omega, by omega⟩ ⟨by omega, by omega⟩ (by omega) (by omega)
  refine times_walk q r hq' hr' g h _ _ (fd q / h) (fd r / g) _ _ _ w ?_ (by omega) (by omega) ?_ (by omega) (by omega) (IntWalk.i64_in _ ⟨by omega, by omega⟩) (IntWalk.i64_in _ ⟨by omega, by omega⟩) ?_ ?_ ba.1 ba.2 bb.1 bb.2 (by omega) (by omega) (by omega) (by omega) ?_
  · intro w; rw [hg, ← mg]; exact divisor_any _ _ (by omega) (by omega) (by omega) (by omega) w
  · intro w; rw [hh, ← mg]; exact divisor_any _ _ (by omega) (by omega) (by omega) (by omega) w
  · rw [Int.tdiv_eq_ediv_of_nonneg (by omega)]; exact IntWalk.i64_in _ ⟨by omega, by omega⟩
  · rw [Int.tdiv_eq_ediv_of_nonneg (by omega)]; exact IntWalk.i64_in _ ⟨by omega, by omega⟩
  · intro w; exact fraction_q (q * r) _ _ p1 p2 w (by omega) (by omega) (by omega)

theorem fits_inv (r : Rat) (h : fits r) (h0 : fn r ≠ 0) : fits r⁻¹ := by
  obtain ⟨a, b⟩ := inv_parts r h0
  have := fd_pos r
  unfold fits at *
  rcases (show fn r < 0 ∨ 0 ≤ fn r by omega) with k | k
  · obtain ⟨a1, a2⟩ := a k; rw [a1, a2]; omega
  · obtain ⟨a1, a2⟩ := b k; rw [a1, a2]; omega

set_option maxHeartbeats 1000000 in
theorem inverse_q (r : Rat) (hr : fits r) (h0 : fn r ≠ 0) (w : World) :
    Calls Try.prog 111 #[.agg #[.int .i64 (fn r), .int .i64 (fd r)]] w fun e w' => e = .returned (.agg #[.int .i64 (fn r⁻¹), .int .i64 (fd r⁻¹)]) ∧ Below w.heap.size w w' := by
  obtain ⟨a, b⟩ := inv_parts r h0
  have f4 := fd_pos r
  have hf := hr
  unfold fits at hf
  obtain ⟨f1, f2, f3⟩ := hf
  rcases (show fn r < 0 ∨ 0 ≤ fn r by omega) with k | k
  · obtain ⟨a1, a2⟩ := a k
    rw [a1, a2]
    clear a b a1 a2 h0
    go_enter Try.func111, Try.ntmps111
    go_wp2
    exact bodyPost_ret (v := .agg #[.int .i64 (-fd r), .int .i64 (-fn r)]) (by simp only [results, Try.results111]; go_simp) rfl ⟨rfl, by (repeat' (first | (with_reducible exact Below.refl _ _) | (with_reducible assumption) | (with_reducible refine belowThru ?_ (by assumption)) | (with_reducible refine belowAlloc ?_) | (with_reducible refine Below.setCell ?_ (by first | omega | (simp; done) | (simp; omega)) _) | (with_reducible refine Below.drew ?_) | (with_reducible refine below_drewN ?_ _)))⟩
  · obtain ⟨a1, a2⟩ := b k
    rw [a1, a2]
    clear a b a1 a2 h0
    go_enter Try.func111, Try.ntmps111
    go_wp2
    exact bodyPost_ret (v := .agg #[.int .i64 (fd r), .int .i64 (fn r)]) (by simp only [results, Try.results111]; go_simp) rfl ⟨rfl, by (repeat' (first | (with_reducible exact Below.refl _ _) | (with_reducible assumption) | (with_reducible refine belowThru ?_ (by assumption)) | (with_reducible refine belowAlloc ?_) | (with_reducible refine Below.setCell ?_ (by first | omega | (simp; done) | (simp; omega)) _) | (with_reducible refine Below.drew ?_) | (with_reducible refine below_drewN ?_ _)))⟩

set_option maxRecDepth 100000 in
set_option maxHeartbeats 4000000 in
theorem make_walk (n d g x y t N M E : Int) (w : World) (n1 : -9223372036854775808 ≤ n) (n2 : n ≤ 9223372036854775807) (d1 : -9223372036854775808 ≤ d) (d2 : d ≤ 9223372036854775807) (d0 : (d == 0) = false)
    (HG : Hid (∀ w, Calls Try.prog 105 #[.int .u64 (mag n), .int .u64 (mag d)] w fun e w' => e = .returned (.int .u64 g) ∧ Below w.heap.size w w')) (g1 : 1 ≤ g) (g2 : g ≤ 9223372036854775808)
    (ex : IntKind.u64.wrap ((mag n).tdiv g) = x) (ey : IntKind.u64.wrap ((mag d).tdiv g) = y) (x0 : 0 ≤ x) (x1 : x ≤ 18446744073709551615) (_y0 : 0 ≤ y) (_y1 : y ≤ 18446744073709551615)
    (ht : Hid (t = if (!(decide (n < 0) == decide (d < 0))) = true then -x else x))
    (HR : Hid (∀ w, Calls Try.prog 108 #[.agg #[.int .u64 (whi t), .int .u64 (wlo t)], .agg #[.int .u64 0, .int .u64 y]] w fun e w' => e = .returned (.tuple #[.agg #[.int .i64 N, .int .i64 M], .int .i64 E]) ∧ Below w.heap.size w w')) :
    Calls Try.prog 83 #[.int .i64 n, .int .i64 d] w fun e w' => e = .returned (.tuple #[.agg #[.int .i64 N, .int .i64 M], .int .i64 E]) ∧ Below w.heap.size w w' := by
  have HA : Hid (∀ w, Calls Try.prog 106 #[.int .i64 n] w fun e w' => e = .returned (.int .u64 (mag n)) ∧ w = w') := size_any n n1 n2
  have HB : Hid (∀ w, Calls Try.prog 106 #[.int .i64 d] w fun e w' => e = .returned (.int .u64 (mag d)) ∧ w = w') := size_any d d1 d2
  have v3 : ¬ g = 0 := by omega
  have m0 := mag_lo n; have m1 := mag_le n n1 n2; have m2 := mag_lo d; have m3 := mag_le d d1 d2
  go_enter Try.func83, Try.ntmps83
  go_upto_region 3 with fail
  go_cut [6] (fun s6 wx => s6 = .int .u64 g ∧ Blk wx w.heap.size #[.int .i64 0, .int .i64 0] 24 ∧ Below w.heap.size w wx)
  case first =>
    go_wp2_with (first
      | (go_at_call 106; (with_reducible refine (HA.out _).mono ?_); rintro e w1 ⟨rfl, rfl⟩)
      | (go_at_call 106; (with_reducible refine (HB.out _).mono ?_); rintro e w1 ⟨rfl, rfl⟩)
      | (go_at_call 105; (with_reducible refine (HG.out _).mono ?_); rintro e w1 ⟨rfl, hb⟩))
    go_meet
    exact ⟨rfl, by (repeat' (first | (with_reducible assumption) | ((with_reducible refine Blk.new ?_); first | rfl | (simp; done)) | (with_reducible refine Blk.later (by assumption) ?_) | (with_reducible refine Blk.alloc ?_) | (with_reducible refine Blk.drewN ?_) | (with_reducible refine Blk.drew ?_) | (with_reducible refine Blk.other ?_ (by first | omega | (simp; done) | (simp; omega))))), by (repeat' (first | (with_reducible exact Below.refl _ _) | (with_reducible assumption) | (with_reducible refine belowThru ?_ (by assumption)) | (with_reducible refine belowAlloc ?_) | (with_reducible refine Below.setCell ?_ (by first | omega | (simp; done) | (simp; omega)) _) | (with_reducible refine Below.drew ?_) | (with_reducible refine below_drewN ?_ _)))⟩
  case rest =>
    obtain ⟨rfl, k0, hB⟩ := hcut
    obtain ⟨a0, b0⟩ := k0.read
    have z0 := k0.lt
    go_upto_region 4 with fail
    go_cut [7, 8] (fun s7 s8 wx => At2 wx (w.heap.size + 1) #[.int .u64 0, .int .u64 x] #[.int .u64 0, .int .u64 y] 141 s7 s8 ∧ Blk wx w.heap.size #[.int .i64 0, .int .i64 0] 24 ∧ Below w.heap.size w wx)
    case first =>
      have v5 : IntKind.u64.wrap ((mag n).tdiv g) = x := ex
      go_region_held3 (fun w' => (Blk w' w.heap.size #[.int .i64 0, .int .i64 0] 24 ∧ (∀ i : Nat, w'.cell? ⟨w.heap.size, i, none⟩ = (#[.int .i64 0, .int .i64 0] : Array Value)[i]?)) ∧ Below w.heap.size w w')
        (((first | (apply hold1; (focus assumption); intro p0 pB) | skip); refine ⟨Blk.full ?_, ?_⟩; all_goals (first | ((repeat' (first | (with_reducible assumption) | ((with_reducible refine Blk.new ?_); first | rfl | (simp; done)) | (with_reducible refine Blk.later (by assumption) ?_) | (with_reducible refine Blk.alloc ?_) | (with_reducible refine Blk.drewN ?_) | (with_reducible refine Blk.drew ?_) | (with_reducible refine Blk.other ?_ (by first | omega | (simp; done) | (simp; omega))))); done) | ((repeat' (first | (with_reducible exact Below.refl _ _) | (with_reducible assumption) | (with_reducible refine belowThru ?_ (by assumption)) | (with_reducible refine belowAlloc ?_) | (with_reducible refine Below.setCell ?_ (by first | omega | (simp; done) | (simp; omega)) _) | (with_reducible refine Below.drew ?_) | (with_reducible refine below_drewN ?_ _))); done))))
        (first
        | (go_at_call 106; (with_reducible refine (HA.out _).mono ?_); rintro e w1 ⟨rfl, rfl⟩)
        | (go_at_call 106; (with_reducible refine (HB.out _).mono ?_); rintro e w1 ⟨rfl, rfl⟩))
      all_goals
        go_wp2_with fail
        go_meet
        refine ⟨At2.mk (by omega) (by omega) (by omega) ?_ ?_, ?_, ?_⟩
        · (repeat' (first | (with_reducible assumption) | ((with_reducible refine Blk.new ?_); first | rfl | (simp; done)) | (with_reducible refine Blk.later (by assumption) ?_) | (with_reducible refine Blk.alloc ?_) | (with_reducible refine Blk.drewN ?_) | (with_reducible refine Blk.drew ?_) | (with_reducible refine Blk.other ?_ (by first | omega | (simp; done) | (simp; omega)))))
        · (repeat' (first | (with_reducible assumption) | ((with_reducible refine Blk.new ?_); first | rfl | (simp; done)) | (with_reducible refine Blk.later (by assumption) ?_) | (with_reducible refine Blk.alloc ?_) | (with_reducible refine Blk.drewN ?_) | (with_reducible refine Blk.drew ?_) | (with_reducible refine Blk.other ?_ (by first | omega | (simp; done) | (simp; omega)))))
        · (repeat' (first | (with_reducible assumption) | ((with_reducible refine Blk.new ?_); first | rfl | (simp; done)) | (with_reducible refine Blk.later (by assumption) ?_) | (with_reducible refine Blk.alloc ?_) | (with_reducible refine Blk.drewN ?_) | (with_reducible refine Blk.drew ?_) | (with_reducible refine Blk.other ?_ (by first | omega | (simp; done) | (simp; omega)))))
        · (repeat' (first | (with_reducible exact Below.refl _ _) | (with_reducible assumption) | (with_reducible refine belowThru ?_ (by assumption)) | (with_reducible refine belowAlloc ?_) | (with_reducible refine Below.setCell ?_ (by first | omega | (simp; done) | (simp; omega)) _) | (with_reducible refine Below.drew ?_) | (with_reducible refine below_drewN ?_ _)))
    case rest =>
      obtain ⟨⟨p1, p2, rfl, rfl, l1, l2, hn, k1, k2⟩, k0, hB⟩ := hcut
      obtain ⟨a0, b0⟩ := k0.read; obtain ⟨a1, b1⟩ := k1.read; obtain ⟨a2, b2⟩ := k2.read
      have z0 := k0.lt; have z1 := k1.lt; have z2 := k2.lt
      have w1 := whi_of x x0 x1; have w2 := wlo_of x x0 x1
      have hs : (!(decide (n < 0) == decide (d < 0))) = true ∨ (!(decide (n < 0) == decide (d < 0))) = false := by
        cases (!(decide (n < 0) == decide (d < 0))) <;> simp
      rcases hs with hs | hs
      · have ht' := ht.out
        rw [if_pos hs] at ht'
        have HO : Hid (∀ w, Calls Try.prog 107 #[.agg #[.int .u64 0, .int .u64 x]] w fun e w' => e = .returned (.agg #[.int .u64 (whi t), .int .u64 (wlo t)]) ∧ Below w.heap.size w w') := by
          intro w; have := opposite_any x w; rw [w1, w2, ← ht'] at this; exact this
        clear w1 w2 ht' ht
        go_wp2_with (first
          | (go_at_call 107; (with_reducible refine (HO.out _).mono ?_); rintro e w1 ⟨rfl, hb⟩; (try (have zk := k0.lt; (first | ((with_reducible refine Blk.keepG hb k0 (fun h => ?_) ?_); (focus ((repeat' (first | (with_reducible assumption) | ((with_reducible refine Blk.new ?_); first | rfl | (simp; done)) | (with_reducible refine Blk.later (by assumption) ?_) | (with_reducible refine Blk.alloc ?_) | (with_reducible refine Blk.drewN ?_) | (with_reducible refine Blk.drew ?_) | (with_reducible refine Blk.other ?_ (by first | omega | (simp; done) | (simp; omega))))); done)); clear k0; intro k0) | (with_reducible replace k0 := Blk.later hb (Blk.set (Blk.set k0))) | (with_reducible replace k0 := Blk.later hb (Blk.set k0))); clear a0 b0; obtain ⟨a0, b0⟩ := k0.read; have zl := k0.lt)); (try (have zk := k1.lt; (first | ((with_reducible refine Blk.keepG hb k1 (fun h => ?_) ?_); (focus ((repeat' (first | (with_reducible assumption) | ((with_reducible refine Blk.new ?_); first | rfl | (simp; done)) | (with_reducible refine Blk.later (by assumption) ?_) | (with_reducible refine Blk.alloc ?_) | (with_reducible refine Blk.drewN ?_) | (with_reducible refine Blk.drew ?_) | (with_reducible refine Blk.other ?_ (by first | omega | (simp; done) | (simp; omega))))); done)); clear k1; intro k1) | (with_reducible replace k1 := Blk.later hb (Blk.set (Blk.set k1))) | (with_reducible replace k1 := Blk.later hb (Blk.set k1))); clear a1 b1; obtain ⟨a1, b1⟩ := k1.read; have zl := k1.lt)); (try (have zk := k2.lt; (first | ((with_reducible refine Blk.keepG hb k2 (fun h => ?_) ?_); (focus ((repeat' (first | (with_reducible assumption) | ((with_reducible refine Blk.new ?_); first | rfl | (simp; done)) | (with_reducible refine Blk.later (by assumption) ?_) | (with_reducible refine Blk.alloc ?_) | (with_reducible refine Blk.drewN ?_) | (with_reducible refine Blk.drew ?_) | (with_reducible refine Blk.other ?_ (by first | omega | (simp; done) | (simp; omega))))); done)); clear k2; intro k2) | (with_reducible replace k2 := Blk.later hb (Blk.set (Blk.set k2))) | (with_reducible replace k2 := Blk.later hb (Blk.set k2))); clear a2 b2; obtain ⟨a2, b2⟩ := k2.read; have zl := k2.lt)); (first | (have zk := kn.lt; (first | ((with_reducible refine Blk.keepG hb kn (fun h => ?_) ?_); (focus ((repeat' (first | (with_reducible assumption) | ((with_reducible refine Blk.new ?_); first | rfl | (simp; done)) | (with_reducible refine Blk.later (by assumption) ?_) | (with_reducible refine Blk.alloc ?_) | (with_reducible refine Blk.drewN ?_) | (with_reducible refine Blk.drew ?_) | (with_reducible refine Blk.other ?_ (by first | omega | (simp; done) | (simp; omega))))); done)); clear kn; intro kn) | (with_reducible replace kn := Blk.later hb (Blk.set (Blk.set kn))) | (with_reducible replace kn := Blk.later hb (Blk.set kn))); clear an bn; obtain ⟨an, bn⟩ := kn.read; have zl := kn.lt) | ((first | (with_reducible have kn := Blk.later hb (Blk.new rfl)) | (with_reducible have kn := Blk.later hb (Blk.drew (Blk.new rfl))) | (with_reducible have kn := Blk.later hb (Blk.drewN (Blk.new rfl)))); (try simp only [World.size_alloc, World.size_drew, World.heap_drewN] at kn); obtain ⟨an, bn⟩ := kn.read; have zl := kn.lt) | skip))
          | (go_at_call 108; (with_reducible refine (HR.out _).mono ?_); rintro e w1 ⟨rfl, hb⟩; (try (have zk := k0.lt; (first | ((with_reducible refine Blk.keepG hb k0 (fun h => ?_) ?_); (focus ((repeat' (first | (with_reducible assumption) | ((with_reducible refine Blk.new ?_); first | rfl | (simp; done)) | (with_reducible refine Blk.later (by assumption) ?_) | (with_reducible refine Blk.alloc ?_) | (with_reducible refine Blk.drewN ?_) | (with_reducible refine Blk.drew ?_) | (with_reducible refine Blk.other ?_ (by first | omega | (simp; done) | (simp; omega))))); done)); clear k0; intro k0) | (with_reducible replace k0 := Blk.later hb (Blk.set (Blk.set k0))) | (with_reducible replace k0 := Blk.later hb (Blk.set k0))); clear a0 b0; obtain ⟨a0, b0⟩ := k0.read; have zl := k0.lt)); (try (have zk := k1.lt; (first | ((with_reducible refine Blk.keepG hb k1 (fun h => ?_) ?_); (focus ((repeat' (first | (with_reducible assumption) | ((with_reducible refine Blk.new ?_); first | rfl | (simp; done)) | (with_reducible refine Blk.later (by assumption) ?_) | (with_reducible refine Blk.alloc ?_) | (with_reducible refine Blk.drewN ?_) | (with_reducible refine Blk.drew ?_) | (with_reducible refine Blk.other ?_ (by first | omega | (simp; done) | (simp; omega))))); done)); clear k1; intro k1) | (with_reducible replace k1 := Blk.later hb (Blk.set (Blk.set k1))) | (with_reducible replace k1 := Blk.later hb (Blk.set k1))); clear a1 b1; obtain ⟨a1, b1⟩ := k1.read; have zl := k1.lt)); (try (have zk := k2.lt; (first | ((with_reducible refine Blk.keepG hb k2 (fun h => ?_) ?_); (focus ((repeat' (first | (with_reducible assumption) | ((with_reducible refine Blk.new ?_); first | rfl | (simp; done)) | (with_reducible refine Blk.later (by assumption) ?_) | (with_reducible refine Blk.alloc ?_) | (with_reducible refine Blk.drewN ?_) | (with_reducible refine Blk.drew ?_) | (with_reducible refine Blk.other ?_ (by first | omega | (simp; done) | (simp; omega))))); done)); clear k2; intro k2) | (with_reducible replace k2 := Blk.later hb (Blk.set (Blk.set k2))) | (with_reducible replace k2 := Blk.later hb (Blk.set k2))); clear a2 b2; obtain ⟨a2, b2⟩ := k2.read; have zl := k2.lt)); (first | (have zk := kn.lt; (first | ((with_reducible refine Blk.keepG hb kn (fun h => ?_) ?_); (focus ((repeat' (first | (with_reducible assumption) | ((with_reducible refine Blk.new ?_); first | rfl | (simp; done)) | (with_reducible refine Blk.later (by assumption) ?_) | (with_reducible refine Blk.alloc ?_) | (with_reducible refine Blk.drewN ?_) | (with_reducible refine Blk.drew ?_) | (with_reducible refine Blk.other ?_ (by first | omega | (simp; done) | (simp; omega))))); done)); clear kn; intro kn) | (with_reducible replace kn := Blk.later hb (Blk.set (Blk.set kn))) | (with_reducible replace kn := Blk.later hb (Blk.set kn))); clear an bn; obtain ⟨an, bn⟩ := kn.read; have zl := kn.lt) | ((first | (with_reducible have kn := Blk.later hb (Blk.new rfl)) | (with_reducible have kn := Blk.later hb (Blk.drew (Blk.new rfl))) | (with_reducible have kn := Blk.later hb (Blk.drewN (Blk.new rfl)))); (try simp only [World.size_alloc, World.size_drew, World.heap_drewN] at kn); obtain ⟨an, bn⟩ := kn.read; have zl := kn.lt) | skip)))
        exact bodyPost_ret (v := .tuple #[.agg #[.int .i64 N, .int .i64 M], .int .i64 E]) (by simp only [results, Try.results83]; go_simp) rfl ⟨rfl, by (repeat' (first | (with_reducible exact Below.refl _ _) | (with_reducible assumption) | (with_reducible refine belowThru ?_ (by assumption)) | (with_reducible refine belowAlloc ?_) | (with_reducible refine Below.setCell ?_ (by first | omega | (simp; done) | (simp; omega)) _) | (with_reducible refine Below.drew ?_) | (with_reducible refine below_drewN ?_ _)))⟩
      · have ht' := ht.out
        rw [if_neg (by rw [hs]; decide)] at ht'
        have HQ : Hid (∀ w, Calls Try.prog 108 #[.agg #[.int .u64 0, .int .u64 x], .agg #[.int .u64 0, .int .u64 y]] w fun e w' => e = .returned (.tuple #[.agg #[.int .i64 N, .int .i64 M], .int .i64 E]) ∧ Below w.heap.size w w') := by
          intro w; have := HR.out w; rw [ht', w1, w2] at this; exact this
        clear w1 w2 ht' ht
        go_wp2_with (go_at_call 108; (with_reducible refine (HQ.out _).mono ?_); rintro e w1 ⟨rfl, hb⟩; (try (have zk := k0.lt; (first | ((with_reducible refine Blk.keepG hb k0 (fun h => ?_) ?_); (focus ((repeat' (first | (with_reducible assumption) | ((with_reducible refine Blk.new ?_); first | rfl | (simp; done)) | (with_reducible refine Blk.later (by assumption) ?_) | (with_reducible refine Blk.alloc ?_) | (with_reducible refine Blk.drewN ?_) | (with_reducible refine Blk.drew ?_) | (with_reducible refine Blk.other ?_ (by first | omega | (simp; done) | (simp; omega))))); done)); clear k0; intro k0) | (with_reducible replace k0 := Blk.later hb (Blk.set (Blk.set k0))) | (with_reducible replace k0 := Blk.later hb (Blk.set k0))); clear a0 b0; obtain ⟨a0, b0⟩ := k0.read; have zl := k0.lt)); (try (have zk := k1.lt; (first | ((with_reducible refine Blk.keepG hb k1 (fun h => ?_) ?_); (focus ((repeat' (first | (with_reducible assumption) | ((with_reducible refine Blk.new ?_); first | rfl | (simp; done)) | (with_reducible refine Blk.later (by assumption) ?_) | (with_reducible refine Blk.alloc ?_) | (with_reducible refine Blk.drewN ?_) | (with_reducible refine Blk.drew ?_) | (with_reducible refine Blk.other ?_ (by first | omega | (simp; done) | (simp; omega))))); done)); clear k1; intro k1) | (with_reducible replace k1 := Blk.later hb (Blk.set (Blk.set k1))) | (with_reducible replace k1 := Blk.later hb (Blk.set k1))); clear a1 b1; obtain ⟨a1, b1⟩ := k1.read; have zl := k1.lt)); (try (have zk := k2.lt; (first | ((with_reducible refine Blk.keepG hb k2 (fun h => ?_) ?_); (focus ((repeat' (first | (with_reducible assumption) | ((with_reducible refine Blk.new ?_); first | rfl | (simp; done)) | (with_reducible refine Blk.later (by assumption) ?_) | (with_reducible refine Blk.alloc ?_) | (with_reducible refine Blk.drewN ?_) | (with_reducible refine Blk.drew ?_) | (with_reducible refine Blk.other ?_ (by first | omega | (simp; done) | (simp; omega))))); done)); clear k2; intro k2) | (with_reducible replace k2 := Blk.later hb (Blk.set (Blk.set k2))) | (with_reducible replace k2 := Blk.later hb (Blk.set k2))); clear a2 b2; obtain ⟨a2, b2⟩ := k2.read; have zl := k2.lt)); (first | (have zk := kn.lt; (first | ((with_reducible refine Blk.keepG hb kn (fun h => ?_) ?_); (focus ((repeat' (first | (with_reducible assumption) | ((with_reducible refine Blk.new ?_); first | rfl | (simp; done)) | (with_reducible refine Blk.later (by assumption) ?_) | (with_reducible refine Blk.alloc ?_) | (with_reducible refine Blk.drewN ?_) | (with_reducible refine Blk.drew ?_) | (with_reducible refine Blk.other ?_ (by first | omega | (simp; done) | (simp; omega))))); done)); clear kn; intro kn) | (with_reducible replace kn := Blk.later hb (Blk.set (Blk.set kn))) | (with_reducible replace kn := Blk.later hb (Blk.set kn))); clear an bn; obtain ⟨an, bn⟩ := kn.read; have zl := kn.lt) | ((first | (with_reducible have kn := Blk.later hb (Blk.new rfl)) | (with_reducible have kn := Blk.later hb (Blk.drew (Blk.new rfl))) | (with_reducible have kn := Blk.later hb (Blk.drewN (Blk.new rfl)))); (try simp only [World.size_alloc, World.size_drew, World.heap_drewN] at kn); obtain ⟨an, bn⟩ := kn.read; have zl := kn.lt) | skip))
        exact bodyPost_ret (v := .tuple #[.agg #[.int .i64 N, .int .i64 M], .int .i64 E]) (by simp only [results, Try.results83]; go_simp) rfl ⟨rfl, by (repeat' (first | (with_reducible exact Below.refl _ _) | (with_reducible assumption) | (with_reducible refine belowThru ?_ (by assumption)) | (with_reducible refine belowAlloc ?_) | (with_reducible refine Below.setCell ?_ (by first | omega | (simp; done) | (simp; omega)) _) | (with_reducible refine Below.drew ?_) | (with_reducible refine below_drewN ?_ _)))⟩
end Go.Proofs.Ytcafmmhjlecgpaa
