/-
  ExactMade: the walk.
-/
import Derived.Test.YtceccppmhfjklaaDoorAlive2
import Derived.Test.YtceccppmhfjklaaDoorQ2
namespace Go.Proofs.YtceccppmhfjklaaDoor
open Go.RowKit

theorem make_fit' (n d : Int) (d0 : d ≠ 0) (d1 : -4611686018427387903 ≤ d) (d2 : d ≤ 4611686018427387903) (n1 : -4611686018427387903 ≤ n) (n2 : n ≤ 4611686018427387903) (w : World) :
    Calls Tryd.prog 13 #[.int .i64 n, .int .i64 d] w fun e w' => e = .returned (.tuple #[.agg #[.int .i64 (fn (mkR n d)), .int .i64 (fd (mkR n d))], .int .i64 0]) ∧ Below w.heap.size w w' := by
  have h := make_q n d w (by omega) (by omega) (by omega) (by omega) d0
  have f := mkR_fits' n d d0 d1 d2 n1 n2
  rw [rn_yes f, rd_yes f, re_yes f] at h
  exact h

set_option maxRecDepth 100000 in
set_option maxHeartbeats 2000000 in
theorem made_zero (num n d : Int) (w : World) (hT : Tab w) :
    Calls Tryd.prog 5 #[.int .i64 num, .int .i64 0, .int .i64 n, .int .i64 d] w fun e w' => e = .returned (.bool true) ∧ Below w.heap.size w w' := by
  go_enter Tryd.func5, Tryd.ntmps5
  go_wp2_with (first
    | (go_at_call 18; (with_reducible refine (alive_true _ hT).mono ?_); rintro e w1 ⟨rfl, hb⟩)
    | (go_at_call 13; (with_reducible refine (make_zero num _).mono ?_); rintro e w1 ⟨rfl, hb⟩))
  go_ret
  exact ⟨rfl, by (repeat' (first | (with_reducible exact Below.refl _ _) | (with_reducible assumption) | (with_reducible refine belowThru ?_ (by assumption)) | (with_reducible refine belowAlloc ?_) | (with_reducible refine Below.setCell ?_ (by first | omega | (simp; done) | (simp; omega)) _) | (with_reducible refine Below.drew ?_) | (with_reducible refine below_drewN ?_ _)))⟩

set_option maxRecDepth 100000 in
set_option maxHeartbeats 2000000 in
theorem made_in (num den n d x y x' y' : Int) (w : World) (hT : Tab w) (n1 : -1073741824 ≤ num) (n2 : num ≤ 1073741824) (d1 : -1073741824 ≤ den) (d2 : den ≤ 1073741824) (m1 : -1073741824 ≤ n) (m2 : n ≤ 1073741824) (k1 : -1073741824 ≤ d) (k2 : d ≤ 1073741824)
    (hd : (den == 0) = false) (hd' : (d == 0) = false)
    (HX : Hid (∀ w, Calls Tryd.prog 13 #[.int .i64 num, .int .i64 den] w fun e w' => e = .returned (.tuple #[.agg #[.int .i64 x, .int .i64 y], .int .i64 0]) ∧ Below w.heap.size w w'))
    (HY : Hid (∀ w, Calls Tryd.prog 13 #[.int .i64 n, .int .i64 d] w fun e w' => e = .returned (.tuple #[.agg #[.int .i64 x', .int .i64 y'], .int .i64 0]) ∧ Below w.heap.size w w'))
    (HK : Hid (∀ w, Calls Tryd.prog 38 #[.agg #[.int .i64 x, .int .i64 y]] w fun e w' => e = .returned (.int .i64 0) ∧ Below w.heap.size w w'))
    (p r s : Int) (e1 : IntKind.i64.wrap (x * den) = p) (e2 : IntKind.i64.wrap (num * y) = p) (e3 : IntKind.i64.wrap (num * d) = r) (e4 : IntKind.i64.wrap (n * den) = s)
    (hs : (x = x' ∧ y = y' ∧ r = s) ∨ (¬ x = x' ∧ (r == s) = false) ∨ (x = x' ∧ ¬ y = y' ∧ (r == s) = false)) :
    Calls Tryd.prog 5 #[.int .i64 num, .int .i64 den, .int .i64 n, .int .i64 d] w fun e w' => e = .returned (.bool true) ∧ Below w.heap.size w w' := by
  rcases hs with ⟨rfl, rfl, rfl⟩ | ⟨h1, h2⟩ | ⟨rfl, h1, h2⟩
  all_goals
    go_enter Tryd.func5, Tryd.ntmps5
    go_wp2_with (first
      | (go_at_call 18; (with_reducible refine (alive_true _ hT).mono ?_); rintro e w1 ⟨rfl, hb⟩)
      | (go_at_call 13; (with_reducible refine (HX.out _).mono ?_); rintro e w1 ⟨rfl, hb⟩)
      | (go_at_call 13; (with_reducible refine (HY.out _).mono ?_); rintro e w1 ⟨rfl, hb⟩; ((with_reducible have k0 := Blk.later hb (Blk.new rfl)); (try simp only [World.size_alloc, World.size_drew, World.heap_drewN] at k0); obtain ⟨a0, b0⟩ := k0.read; have zl := k0.lt))
      | (go_at_call 38; (with_reducible refine (HK.out _).mono ?_); rintro e w1 ⟨rfl, hb⟩; (try (have zk := k0.lt; (first | ((with_reducible refine Blk.keepG hb k0 (fun h => ?_) ?_); (focus ((repeat' (first | (with_reducible assumption) | ((with_reducible refine Blk.new ?_); first | rfl | (simp; done)) | (with_reducible refine Blk.later (by assumption) ?_) | (with_reducible refine Blk.alloc ?_) | (with_reducible refine Blk.drewN ?_) | (with_reducible refine Blk.drew ?_) | (with_reducible refine Blk.other ?_ (by first | omega | (simp; done) | (simp; omega))))); done)); clear k0; intro k0) | (with_reducible replace k0 := Blk.later hb (Blk.set (Blk.set k0))) | (with_reducible replace k0 := Blk.later hb (Blk.set k0))); clear a0 b0; obtain ⟨a0, b0⟩ := k0.read; have zl := k0.lt)); (try (have zk := k1.lt; (first | ((with_reducible refine Blk.keepG hb k1 (fun h => ?_) ?_); (focus ((repeat' (first | (with_reducible assumption) | ((with_reducible refine Blk.new ?_); first | rfl | (simp; done)) | (with_reducible refine Blk.later (by assumption) ?_) | (with_reducible refine Blk.alloc ?_) | (with_reducible refine Blk.drewN ?_) | (with_reducible refine Blk.drew ?_) | (with_reducible refine Blk.other ?_ (by first | omega | (simp; done) | (simp; omega))))); done)); clear k1; intro k1) | (with_reducible replace k1 := Blk.later hb (Blk.set (Blk.set k1))) | (with_reducible replace k1 := Blk.later hb (Blk.set k1))); clear a1 b1; obtain ⟨a1, b1⟩ := k1.read; have zl := k1.lt)); (try (have zk := k2.lt; (first | ((with_reducible refine Blk.keepG hb k2 (fun h => ?_) ?_); (focus ((repeat' (first | (with_reducible assumption) | ((with_reducible refine Blk.new ?_); first | rfl | (simp; done)) | (with_reducible refine Blk.later (by assumption) ?_) | (with_reducible refine Blk.alloc ?_) | (with_reducible refine Blk.drewN ?_) | (with_reducible refine Blk.drew ?_) | (with_reducible refine Blk.other ?_ (by first | omega | (simp; done) | (simp; omega))))); done)); clear k2; intro k2) | (with_reducible replace k2 := Blk.later hb (Blk.set (Blk.set k2))) | (with_reducible replace k2 := Blk.later hb (Blk.set k2))); clear a2 b2; obtain ⟨a2, b2⟩ := k2.read; have zl := k2.lt)); (try (have zk := k3.lt; (first | ((with_reducible refine Blk.keepG hb k3 (fun h => ?_) ?_); (focus ((repeat' (first | (with_reducible assumption) | ((with_reducible refine Blk.new ?_); first | rfl | (simp; done)) | (with_reducible refine Blk.later (by assumption) ?_) | (with_reducible refine Blk.alloc ?_) | (with_reducible refine Blk.drewN ?_) | (with_reducible refine Blk.drew ?_) | (with_reducible refine Blk.other ?_ (by first | omega | (simp; done) | (simp; omega))))); done)); clear k3; intro k3) | (with_reducible replace k3 := Blk.later hb (Blk.set (Blk.set k3))) | (with_reducible replace k3 := Blk.later hb (Blk.set k3))); clear a3 b3; obtain ⟨a3, b3⟩ := k3.read; have zl := k3.lt)); (try (have zk := k4.lt; (first | ((with_reducible refine Blk.keepG hb k4 (fun h => ?_) ?_); (focus ((repeat' (first | (with_reducible assumption) | ((with_reducible refine Blk.new ?_); first | rfl | (simp; done)) | (with_reducible refine Blk.later (by assumption) ?_) | (with_reducible refine Blk.alloc ?_) | (with_reducible refine Blk.drewN ?_) | (with_reducible refine Blk.drew ?_) | (with_reducible refine Blk.other ?_ (by first | omega | (simp; done) | (simp; omega))))); done)); clear k4; intro k4) | (with_reducible replace k4 := Blk.later hb (Blk.set (Blk.set k4))) | (with_reducible replace k4 := Blk.later hb (Blk.set k4))); clear a4 b4; obtain ⟨a4, b4⟩ := k4.read; have zl := k4.lt)); (try (have zk := k5.lt; (first | ((with_reducible refine Blk.keepG hb k5 (fun h => ?_) ?_); (focus ((repeat' (first | (with_reducible assumption) | ((with_reducible refine Blk.new ?_); first | rfl | (simp; done)) | (with_reducible refine Blk.later (by assumption) ?_) | (with_reducible refine Blk.alloc ?_) | (with_reducible refine Blk.drewN ?_) | (with_reducible refine Blk.drew ?_) | (with_reducible refine Blk.other ?_ (by first | omega | (simp; done) | (simp; omega))))); done)); clear k5; intro k5) | (with_reducible replace k5 := Blk.later hb (Blk.set (Blk.set k5))) | (with_reducible replace k5 := Blk.later hb (Blk.set k5))); clear a5 b5; obtain ⟨a5, b5⟩ := k5.read; have zl := k5.lt)); ((with_reducible have k1 := Blk.later hb (Blk.new rfl)); (try simp only [World.size_alloc, World.size_drew, World.heap_drewN] at k1); obtain ⟨a1, b1⟩ := k1.read; have zl := k1.lt)))
    go_ret
    exact ⟨rfl, by (repeat' (first | (with_reducible exact Below.refl _ _) | (with_reducible assumption) | (with_reducible refine belowThru ?_ (by assumption)) | (with_reducible refine belowAlloc ?_) | (with_reducible refine Below.setCell ?_ (by first | omega | (simp; done) | (simp; omega)) _) | (with_reducible refine Below.drew ?_) | (with_reducible refine below_drewN ?_ _)))⟩

/-- out of range -/
theorem made_ways (num den n d : Int) (h : ¬ (-1073741824 ≤ num ∧ num ≤ 1073741824 ∧ -1073741824 ≤ den ∧ den ≤ 1073741824 ∧ -1073741824 ≤ n ∧ n ≤ 1073741824 ∧ -1073741824 ≤ d ∧ d ≤ 1073741824 ∧ d ≠ 0)) : (num < -1073741824) ∨ (-1073741824 ≤ num ∧ 1073741824 < num) ∨ (-1073741824 ≤ num ∧ num ≤ 1073741824 ∧ den < -1073741824) ∨ (-1073741824 ≤ num ∧ num ≤ 1073741824 ∧ -1073741824 ≤ den ∧ 1073741824 < den) ∨ (-1073741824 ≤ num ∧ num ≤ 1073741824 ∧ -1073741824 ≤ den ∧ den ≤ 1073741824 ∧ n < -1073741824) ∨ (-1073741824 ≤ num ∧ num ≤ 1073741824 ∧ -1073741824 ≤ den ∧ den ≤ 1073741824 ∧ -1073741824 ≤ n ∧ 1073741824 < n) ∨ (-1073741824 ≤ num ∧ num ≤ 1073741824 ∧ -1073741824 ≤ den ∧ den ≤ 1073741824 ∧ -1073741824 ≤ n ∧ n ≤ 1073741824 ∧ d < -1073741824) ∨ (-1073741824 ≤ num ∧ num ≤ 1073741824 ∧ -1073741824 ≤ den ∧ den ≤ 1073741824 ∧ -1073741824 ≤ n ∧ n ≤ 1073741824 ∧ -1073741824 ≤ d ∧ 1073741824 < d) ∨ (-1073741824 ≤ num ∧ num ≤ 1073741824 ∧ -1073741824 ≤ den ∧ den ≤ 1073741824 ∧ -1073741824 ≤ n ∧ n ≤ 1073741824 ∧ -1073741824 ≤ d ∧ d ≤ 1073741824 ∧ d = 0) := by
  by_cases h0 : num < -1073741824
  · exact .inl h0
  by_cases h1 : 1073741824 < num
  · exact .inr (.inl ⟨Int.not_lt.1 h0, h1⟩)
  by_cases h2 : den < -1073741824
  · exact .inr (.inr (.inl ⟨Int.not_lt.1 h0, Int.not_lt.1 h1, h2⟩))
  by_cases h3 : 1073741824 < den
  · exact .inr (.inr (.inr (.inl ⟨Int.not_lt.1 h0, Int.not_lt.1 h1, Int.not_lt.1 h2, h3⟩)))
  by_cases h4 : n < -1073741824
  · exact .inr (.inr (.inr (.inr (.inl ⟨Int.not_lt.1 h0, Int.not_lt.1 h1, Int.not_lt.1 h2, Int.not_lt.1 h3, h4⟩))))
  by_cases h5 : 1073741824 < n
  · exact .inr (.inr (.inr (.inr (.inr (.inl ⟨Int.not_lt.1 h0, Int.not_lt.1 h1, Int.not_lt.1 h2, Int.not_lt.1 h3, Int.not_lt.1 h4, h5⟩)))))
  by_cases h6 : d < -1073741824
  · exact .inr (.inr (.inr (.inr (.inr (.inr (.inl ⟨Int.not_lt.1 h0, Int.not_lt.1 h1, Int.not_lt.1 h2, Int.not_lt.1 h3, Int.not_lt.1 h4, Int.not_lt.1 h5, h6⟩))))))
  by_cases h7 : 1073741824 < d
  · exact .inr (.inr (.inr (.inr (.inr (.inr (.inr (.inl ⟨Int.not_lt.1 h0, Int.not_lt.1 h1, Int.not_lt.1 h2, Int.not_lt.1 h3, Int.not_lt.1 h4, Int.not_lt.1 h5, Int.not_lt.1 h6, h7⟩)))))))
  by_cases h8 : d = 0
  · exact .inr (.inr (.inr (.inr (.inr (.inr (.inr (.inr (⟨Int.not_lt.1 h0, Int.not_lt.1 h1, Int.not_lt.1 h2, Int.not_lt.1 h3, Int.not_lt.1 h4, Int.not_lt.1 h5, Int.not_lt.1 h6, Int.not_lt.1 h7, h8⟩))))))))
  exact absurd ⟨Int.not_lt.1 h0, Int.not_lt.1 h1, Int.not_lt.1 h2, Int.not_lt.1 h3, Int.not_lt.1 h4, Int.not_lt.1 h5, Int.not_lt.1 h6, Int.not_lt.1 h7, h8⟩ h
set_option maxRecDepth 100000 in
set_option maxHeartbeats 4000000 in
theorem made_out (num den n d x y c e : Int) (w : World) (hT : Tab w) (h : ¬ (-1073741824 ≤ num ∧ num ≤ 1073741824 ∧ -1073741824 ≤ den ∧ den ≤ 1073741824 ∧ -1073741824 ≤ n ∧ n ≤ 1073741824 ∧ -1073741824 ≤ d ∧ d ≤ 1073741824 ∧ d ≠ 0)) (hd : (den == 0) = false)
    (HX : Hid (∀ w, Calls Tryd.prog 13 #[.int .i64 num, .int .i64 den] w fun e' w' => e' = .returned (.tuple #[.agg #[.int .i64 x, .int .i64 y], .int .i64 e]) ∧ Below w.heap.size w w'))
    (HK : Hid (∀ w, Calls Tryd.prog 38 #[.agg #[.int .i64 x, .int .i64 y]] w fun e' w' => e' = .returned (.int .i64 c) ∧ Below w.heap.size w w'))
    (hc : e = 4 ∨ (e = 0 ∧ c = 0)) :
    Calls Tryd.prog 5 #[.int .i64 num, .int .i64 den, .int .i64 n, .int .i64 d] w fun e w' => e = .returned (.bool true) ∧ Below w.heap.size w w' := by
  have hs := made_ways num den n d h
  clear h
  rcases hs with c0 | ⟨g0, c1⟩ | ⟨g0, g1, c2⟩ | ⟨g0, g1, g2, c3⟩ | ⟨g0, g1, g2, g3, c4⟩ | ⟨g0, g1, g2, g3, g4, c5⟩ | ⟨g0, g1, g2, g3, g4, g5, c6⟩ | ⟨g0, g1, g2, g3, g4, g5, g6, c7⟩ | ⟨g0, g1, g2, g3, g4, g5, g6, g7, c8⟩
  all_goals
    rcases hc with rfl | ⟨rfl, rfl⟩
  all_goals
    (try have hd' : (d == 0) = true := (by simpa using c8))
    (try subst c8)
    go_enter Tryd.func5, Tryd.ntmps5
    go_wp2_with (first
      | (go_at_call 18; (with_reducible refine (alive_true _ hT).mono ?_); rintro e w1 ⟨rfl, hb⟩)
      | (go_at_call 13; (with_reducible refine (HX.out _).mono ?_); rintro e w1 ⟨rfl, hb⟩)
      | (go_at_call 38; (with_reducible refine (HK.out _).mono ?_); rintro e w1 ⟨rfl, hb⟩))
    go_ret
    exact ⟨rfl, by (repeat' (first | (with_reducible exact Below.refl _ _) | (with_reducible assumption) | (with_reducible refine belowThru ?_ (by assumption)) | (with_reducible refine belowAlloc ?_) | (with_reducible refine Below.setCell ?_ (by first | omega | (simp; done) | (simp; omega)) _) | (with_reducible refine Below.drew ?_) | (with_reducible refine below_drewN ?_ _)))⟩

theorem made_true (num den n d : Int) (w : World) (hT : Tab w) (n1 : -9223372036854775808 ≤ num) (n2 : num ≤ 9223372036854775807) (d1 : -9223372036854775808 ≤ den) (d2 : den ≤ 9223372036854775807) :
    Calls Tryd.prog 5 #[.int .i64 num, .int .i64 den, .int .i64 n, .int .i64 d] w fun e w' => e = .returned (.bool true) ∧ Below w.heap.size w w' := by
  by_cases hz : den = 0
  · subst hz; exact made_zero num n d w hT
  · by_cases h : -1073741824 ≤ num ∧ num ≤ 1073741824 ∧ -1073741824 ≤ den ∧ den ≤ 1073741824 ∧ -1073741824 ≤ n ∧ n ≤ 1073741824 ∧ -1073741824 ≤ d ∧ d ≤ 1073741824 ∧ d ≠ 0
    · obtain ⟨a1, a2, a3, a4, a5, a6, a7, a8, a9⟩ := h
      have F := mkR_fits' num den hz (by omega) (by omega) (by omega) (by omega)
      have c1 := mkR_cross num den hz
      have c2 := mkR_eq num den n d hz a9
      refine made_in num den n d _ _ _ _ w hT a1 a2 a3 a4 a5 a6 a7 a8 (by simpa using hz) (by simpa using a9) (make_fit' num den hz (by omega) (by omega) (by omega) (by omega)) (make_fit' n d a9 (by omega) (by omega) (by omega) (by omega)) ?_ (IntKind.i64.wrap (fn (mkR num den) * den)) (num * d) (n * den) rfl (by rw [c1]) (IntWalk.i64_in _ ?_) (IntWalk.i64_in _ ?_) ?_
      · intro w; have := check_any (fn (mkR num den)) (fd (mkR num den)) w; rw [ck_ok (okF_q F)] at this; exact this
      · have := mul_bound num d 1073741824 1073741824 ⟨a1, a2⟩ ⟨a7, a8⟩ (by omega) (by omega); omega
      · have := mul_bound n den 1073741824 1073741824 ⟨a5, a6⟩ ⟨a3, a4⟩ (by omega) (by omega); omega
      · by_cases h : num * d = n * den
        · rw [c2.2 h]; exact .inl ⟨rfl, rfl, h⟩
        · have hn : ¬ mkR num den = mkR n d := fun k => h (c2.1 k)
          have hb : (num * d == n * den) = false := by simpa using h
          by_cases k : fn (mkR num den) = fn (mkR n d)
          · exact .inr (.inr ⟨k, fun k' => hn (q_ext k k'), hb⟩)
          · exact .inr (.inl ⟨k, hb⟩)
    · by_cases hf : fits (mkR num den)
      · have hx := make_q num den (d1 := d1) (d2 := d2) (n1 := n1) (n2 := n2) (d0 := hz)
        refine made_out num den n d (rn (mkR num den)) (rd (mkR num den)) _ (re (mkR num den)) w hT h (by simpa using hz) hx (check_any _ _) (.inr ⟨re_yes hf, ?_⟩)
        rw [rn_yes hf, rd_yes hf]; exact ck_ok (okF_q hf)
      · have hx := make_q num den (d1 := d1) (d2 := d2) (n1 := n1) (n2 := n2) (d0 := hz)
        exact made_out num den n d (rn (mkR num den)) (rd (mkR num den)) _ (re (mkR num den)) w hT h (by simpa using hz) hx (check_any _ _) (.inl (re_no hf))
end Go.Proofs.YtceccppmhfjklaaDoor
