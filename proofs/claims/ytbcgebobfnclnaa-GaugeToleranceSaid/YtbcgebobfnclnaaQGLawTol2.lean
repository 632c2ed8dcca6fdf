/-
  The law GaugeTolerance for any arguments.
-/
import Derived.Test.YtbcgebobfnclnaaQGLawTol
import Derived.Test.YtbcgebobfnclnaaQGLawTolB
import Derived.Test.YtbcgebobfnclnaaQGLawTolC
import Derived.Test.YtbcgebobfnclnaaM7
namespace Go.Proofs.Ytbcgebobfnclnaa
open Go.RowKit Go.Shelf
set_option linter.unusedVariables false
set_option linter.unusedSimpArgs false

theorem tol_true (t n s1 s2 s3 s4 l1 l2 h1 h2 o1 o2 o3 o4 nz : Int) (a : Option Addr) (m c : Nat) (zs : List Int) (w : World) (hm : m ≤ maxLen) (hR : Row w a m (iv zs)) :
    Calls Try.prog 14 #[.agg #[.int .i64 t, .int .i64 n, .int .i64 s1, .int .i64 s2, .int .i64 s3, .int .i64 s4, .int .i64 l1, .int .i64 l2, .int .i64 h1, .int .i64 h2], .slice a m c, .agg #[.int .i64 o1, .int .i64 o2], .agg #[.int .i64 o3, .int .i64 o4], .int .i64 nz] w fun e w' => e = .returned (.bool true) ∧ Below w.heap.size w w' := by
  have hlen : zs.length = m := by have := hR.1; rwa [iv_length] at this
  by_cases hl : m ≤ 64
  case neg => exact tol_long t n s1 s2 s3 s4 l1 l2 h1 h2 o1 o2 o3 o4 nz a m c zs w hR hm (by omega)
  obtain ⟨Z1, Z2, Z3, Z4, V, E, H1, c1⟩ := mea_any t n s1 s2 s3 s4 l1 l2 h1 h2 a m c zs hm hlen
  obtain ⟨Y1, Y2, Y3, Y4, U, F, H2, c2⟩ := mea_any t n s1 s2 s3 s4 o1 o2 o3 o4 a m c zs hm hlen
  obtain ⟨X1, X2, X3, X4, C, G, H3, c3⟩ := mea_any t nz s1 s2 s3 s4 l1 l2 h1 h2 a m c zs hm hlen
  rcases c1 with ⟨-, rfl, -⟩ | ⟨-, -, rfl, -⟩ | ⟨g1, hz, rfl, r1⟩
  · exact tol_bad t n s1 s2 s3 s4 l1 l2 h1 h2 o1 o2 o3 o4 nz a m c zs w hR hl _ _ _ _ _ _ _ _ _ _ _ _ rfl H1 H2
  · exact tol_bad t n s1 s2 s3 s4 l1 l2 h1 h2 o1 o2 o3 o4 nz a m c zs w hR hl _ _ _ _ _ _ _ _ _ _ _ _ rfl H1 H2
  replace r1 : MeaR t n s1 s2 s3 s4 l1 l2 h1 h2 zs Z1 Z2 Z3 Z4 V := r1
  -- the first condition
  have hfirst : ((G == 0) = false) ∨ (G = 0 ∧ nz < n) ∨ (G = 0 ∧ ¬ nz < n ∧ ¬ (V = 1 ∧ C = 2) ∧ ¬ (V = 2 ∧ C = 1)) := by
    rcases c3 with ⟨-, rfl, -⟩ | ⟨-, -, rfl, -⟩ | ⟨-, -, rfl, r3⟩
    · exact .inl rfl
    · exact .inl rfl
    · by_cases h : nz < n
      · exact .inr (.inl ⟨rfl, h⟩)
      · have := mea_louder hz (by omega) r1 r3
        exact .inr (.inr ⟨rfl, h, this.1, this.2⟩)
  have hV := meaR_three r1
  -- the rest
  have hrest : ((F != 0) = true) ∨ (F = 0 ∧ ∃ b : Bool, (∀ w, Calls Try.prog 55 #[.agg #[.int .i64 l1, .int .i64 l2, .int .i64 h1, .int .i64 h2], .agg #[.int .i64 o1, .int .i64 o2, .int .i64 o3, .int .i64 o4]] w fun e w' => e = .returned (.bool b) ∧ Below w.heap.size w w') ∧ (b = true → (V = 1 → U = 1) ∧ (U = 2 → V = 2))) := by
    rcases c2 with ⟨-, rfl, -⟩ | ⟨-, -, rfl, -⟩ | ⟨g2, -, rfl, r2⟩
    · exact .inl rfl
    · exact .inl rfl
    · obtain ⟨-, -, -, ⟨p, q, fp, fq, rfl, rfl, rfl, rfl, hpq⟩, -⟩ := g1
      obtain ⟨-, -, -, ⟨u, v, fu, fv, rfl, rfl, rfl, rfl, huv⟩, -⟩ := g2
      refine .inr ⟨rfl, _, fun w => inside_q p q u v fp fq fu fv hpq huv w, fun hb => ?_⟩
      have k := of_decide_eq_true hb
      refine mea_wider r1 r2 (fun x1 x2 x3 x4 e1 e2 e3 e4 e5 e6 e7 e8 => ?_)
      obtain rfl := q_ext e1 e2
      obtain rfl := q_ext e3 e4
      obtain rfl := q_ext e5 e6
      obtain rfl := q_ext e7 e8
      exact k
  clear c2 c3 r1
  have hC1 : ¬ (V = 1 ∧ C = 2) → V = 1 → (C == 2) = false := fun h k => by simpa using fun e => h ⟨k, e⟩
  have hC2 : ¬ (V = 2 ∧ C = 1) → V = 2 → (C == 1) = false := fun h k => by simpa using fun e => h ⟨k, e⟩
  rcases hrest with hF | ⟨rfl, b, HI, hb⟩
  · rcases hfirst with hG | ⟨rfl, hn⟩ | ⟨rfl, hn, k1, k2⟩
    · exact tol_ef t n s1 s2 s3 s4 l1 l2 h1 h2 o1 o2 o3 o4 nz a m c zs w hR hl _ _ _ _ _ _ _ _ _ _ _ _ _ _ _ _ _ hG hF H1 H2 H3
    · exact tol_nf t n s1 s2 s3 s4 l1 l2 h1 h2 o1 o2 o3 o4 nz a m c zs w hR hl _ _ _ _ _ _ _ _ _ _ _ _ _ _ _ _ 0 hn hF H1 H2 H3
    · rcases hV with rfl | rfl | rfl
      · exact tol_1f t n s1 s2 s3 s4 l1 l2 h1 h2 o1 o2 o3 o4 nz a m c zs w hR hl _ _ _ _ 1 _ _ _ _ _ _ _ _ _ _ _ 0 hn (hC1 k1 rfl) hF H1 H2 H3
      · exact tol_2f t n s1 s2 s3 s4 l1 l2 h1 h2 o1 o2 o3 o4 nz a m c zs w hR hl _ _ _ _ 2 _ _ _ _ _ _ _ _ _ _ _ 0 hn (hC2 k2 rfl) hF H1 H2 H3
      · exact tol_3f t n s1 s2 s3 s4 l1 l2 h1 h2 o1 o2 o3 o4 nz a m c zs w hR hl _ _ _ _ 3 _ _ _ _ _ _ _ _ _ _ _ 0 hn hF H1 H2 H3
  · cases b
    · rcases hfirst with hG | ⟨rfl, hn⟩ | ⟨rfl, hn, k1, k2⟩
      · exact tol_eo t n s1 s2 s3 s4 l1 l2 h1 h2 o1 o2 o3 o4 nz a m c zs w hR hl _ _ _ _ _ _ _ _ _ _ _ _ _ _ _ 0 _ hG H1 H2 H3 HI
      · exact tol_no t n s1 s2 s3 s4 l1 l2 h1 h2 o1 o2 o3 o4 nz a m c zs w hR hl _ _ _ _ _ _ _ _ _ _ _ _ _ _ _ 0 0 hn H1 H2 H3 HI
      · rcases hV with rfl | rfl | rfl
        · exact tol_1o t n s1 s2 s3 s4 l1 l2 h1 h2 o1 o2 o3 o4 nz a m c zs w hR hl _ _ _ _ 1 _ _ _ _ _ _ _ _ _ _ 0 0 hn (hC1 k1 rfl) H1 H2 H3 HI
        · exact tol_2o t n s1 s2 s3 s4 l1 l2 h1 h2 o1 o2 o3 o4 nz a m c zs w hR hl _ _ _ _ 2 _ _ _ _ _ _ _ _ _ _ 0 0 hn (hC2 k2 rfl) H1 H2 H3 HI
        · exact tol_3o t n s1 s2 s3 s4 l1 l2 h1 h2 o1 o2 o3 o4 nz a m c zs w hR hl _ _ _ _ 3 _ _ _ _ _ _ _ _ _ _ 0 0 hn H1 H2 H3 HI
    · obtain ⟨w1, w2⟩ := hb rfl
      rcases hV with rfl | rfl | rfl
      · obtain rfl := w1 rfl
        rcases hfirst with hG | ⟨rfl, hn⟩ | ⟨rfl, hn, k1, k2⟩
        · exact tol_ea t n s1 s2 s3 s4 l1 l2 h1 h2 o1 o2 o3 o4 nz a m c zs w hR hl _ _ _ _ 1 _ _ _ _ 1 _ _ _ _ _ 0 _ hG H1 H2 H3 HI
        · exact tol_na t n s1 s2 s3 s4 l1 l2 h1 h2 o1 o2 o3 o4 nz a m c zs w hR hl _ _ _ _ 1 _ _ _ _ 1 _ _ _ _ _ 0 0 hn H1 H2 H3 HI
        · exact tol_1a t n s1 s2 s3 s4 l1 l2 h1 h2 o1 o2 o3 o4 nz a m c zs w hR hl _ _ _ _ 1 _ _ _ _ 1 _ _ _ _ _ 0 0 hn (hC1 k1 rfl) H1 H2 H3 HI
      · by_cases hU : U = 2
        · subst hU
          rcases hfirst with hG | ⟨rfl, hn⟩ | ⟨rfl, hn, k1, k2⟩
          · exact tol_eb t n s1 s2 s3 s4 l1 l2 h1 h2 o1 o2 o3 o4 nz a m c zs w hR hl _ _ _ _ 2 _ _ _ _ 2 _ _ _ _ _ 0 _ hG H1 H2 H3 HI
          · exact tol_nb t n s1 s2 s3 s4 l1 l2 h1 h2 o1 o2 o3 o4 nz a m c zs w hR hl _ _ _ _ 2 _ _ _ _ 2 _ _ _ _ _ 0 0 hn H1 H2 H3 HI
          · exact tol_2b t n s1 s2 s3 s4 l1 l2 h1 h2 o1 o2 o3 o4 nz a m c zs w hR hl _ _ _ _ 2 _ _ _ _ 2 _ _ _ _ _ 0 0 hn (hC2 k2 rfl) H1 H2 H3 HI
        · have hU2 : (U != 2) = true := by simpa using hU
          rcases hfirst with hG | ⟨rfl, hn⟩ | ⟨rfl, hn, k1, k2⟩
          · exact tol_ec t n s1 s2 s3 s4 l1 l2 h1 h2 o1 o2 o3 o4 nz a m c zs w hR hl _ _ _ _ 2 _ _ _ _ _ _ _ _ _ _ 0 _ hG hU2 H1 H2 H3 HI
          · exact tol_nc t n s1 s2 s3 s4 l1 l2 h1 h2 o1 o2 o3 o4 nz a m c zs w hR hl _ _ _ _ 2 _ _ _ _ _ _ _ _ _ _ 0 0 hn hU2 H1 H2 H3 HI
          · exact tol_2c t n s1 s2 s3 s4 l1 l2 h1 h2 o1 o2 o3 o4 nz a m c zs w hR hl _ _ _ _ 2 _ _ _ _ _ _ _ _ _ _ 0 0 hn (hC2 k2 rfl) hU2 H1 H2 H3 HI
      · have hU2 : (U != 2) = true := by simpa using fun e => absurd (w2 e) (by decide)
        rcases hfirst with hG | ⟨rfl, hn⟩ | ⟨rfl, hn, k1, k2⟩
        · exact tol_ed t n s1 s2 s3 s4 l1 l2 h1 h2 o1 o2 o3 o4 nz a m c zs w hR hl _ _ _ _ 3 _ _ _ _ _ _ _ _ _ _ 0 _ hG hU2 H1 H2 H3 HI
        · exact tol_nd t n s1 s2 s3 s4 l1 l2 h1 h2 o1 o2 o3 o4 nz a m c zs w hR hl _ _ _ _ 3 _ _ _ _ _ _ _ _ _ _ 0 0 hn hU2 H1 H2 H3 HI
        · exact tol_3d t n s1 s2 s3 s4 l1 l2 h1 h2 o1 o2 o3 o4 nz a m c zs w hR hl _ _ _ _ 3 _ _ _ _ _ _ _ _ _ _ 0 0 hn hU2 H1 H2 H3 HI
end Go.Proofs.Ytbcgebobfnclnaa
