/-
  The law GaugeBright for any arguments.
-/
import Derived.Test.YtbcgebobfnclnaaQGLawBri
import Derived.Test.YtbcgebobfnclnaaQGLawBriB
import Derived.Test.YtbcgebobfnclnaaM1
import Derived.Test.YtbcgebobfnclnaaM2
import Derived.Test.YtbcgebobfnclnaaM3
import Derived.Test.YtbcgebobfnclnaaM4
import Derived.Test.YtbcgebobfnclnaaM5
import Derived.Test.YtbcgebobfnclnaaM6
import Derived.Test.YtbcgebobfnclnaaM7
import Derived.Test.YtbcgebobfnclnaaM8
namespace Go.Proofs.Ytbcgebobfnclnaa
open Go.RowKit Go.Shelf
set_option linter.unusedVariables false
set_option linter.unusedSimpArgs false

theorem bright_true (a : Option Addr) (n c : Nat) (zs : List Int) (t p : Int) (w : World) (hn : n ≤ maxLen) (hR : Row w a n (iv zs)) :
    Calls Try.prog 8 #[.slice a n c, .int .i64 t, .int .i64 p] w fun e w' => e = .returned (.bool true) ∧ Below w.heap.size w w' := by
  have hlen : zs.length = n := by have := hR.1; rwa [iv_length] at this
  by_cases hl : n ≤ 100
  case neg => exact bright_long a n c zs t p w hR hn (by omega)
  have HX := fun w => first_any a n c zs t p hn w
  have HC := fun w => ckP_any a n c zs hn w
  by_cases hz : okP zs
  case neg =>
    rw [show fiE t zs p = _ from asE_no hz] at HX
    rw [ckP_no hz] at HC
    exact bright_50 a n c zs t p w hR hl _ _ HX HC
  rw [ckP_ok hz] at HC
  by_cases hk : okT t ∧ inL zs p
  case neg =>
    rw [show fiE t zs p = _ from asE_arg hz hk] at HX
    exact bright_2 a n c zs t p w hR hl _ _ HX HC
  rw [fiO_ok ⟨hz, hk.1, hk.2⟩, show fiE t zs p = _ from asE_ok hz hk] at HX
  have h64 := hz.1.2
  obtain ⟨k, hkp⟩ : ∃ k : Nat, p = (k : Int) := ⟨p.toNat, by have := hk.2.1; omega⟩
  subst hkp
  rw [show ((k : Int)).toNat = k by omega] at HX
  have hkn : k < zs.length := by have := hk.2.2; omega
  cases hx : FX t zs k with
  | none =>
    rw [hx] at HX
    exact bright_6 a n c zs t k w hR hl (by omega) _ _ HX (Lib.hid fun i v h1 h2 hv => FX_none.1 hx i v h1 hv)
  | some x =>
    rw [hx] at HX
    obtain ⟨⟨x0, x1, x2⟩, fx⟩ := FX_fits hz hk.1.1 hkn hx
    have HF := fun w => floor_q x fx w
    have HG := fun w => ceil_q x fx w
    have HQ := frac_int (k : Int) (by omega)
    obtain ⟨-, i1, i2⟩ := fits_int (M := (k : Int)) (by omega)
    rw [i1, i2] at HQ
    have V : ∀ (i : Nat) (v : Int), zs[i]? = some v → 0 ≤ v ∧ v ≤ 255 := fun i v h => hz.2 v (List.mem_of_getElem? h)
    have t1 := hk.1.1
    have t2 := hk.1.2
    have hne : x ≠ ((k : Int) : Rat) → (fn x == (k : Int)) = false ∨ fd x ≠ 1 := fun h => by
      by_cases e : fn x = (k : Int)
      · right; intro e2; exact h (q_ext (by rw [e, i1]) (by rw [e2, i2]))
      · left; simpa using e
    rcases FX_forms hkn hx with ⟨rfl, z, hzk, htz⟩ | ⟨m, hm1, hm2, rfl, hmt, hd⟩ | ⟨q, u, v, hq1, hq2, hu, hv, hut, htv, lo, hi, hxy, hd⟩
    · obtain ⟨e1, e2⟩ := floorQ_int (k : Int) (by omega)
      rw [e1] at HF
      rw [e2] at HG
      change ∀ w, Row w a n (iv zs) → Calls _ _ _ w fun e w' => e = .returned (.tuple #[.agg #[.int .i64 (fn ((k : Int) : Rat)), .int .i64 (fd ((k : Int) : Rat))], .int .i64 0]) ∧ Below w.heap.size w w' at HX
      rw [i1, i2] at HX HF HG
      exact bright_at a n c zs t k w hR z hzk htz hl (by omega) HX HF HG HQ (Lib.hid fun i v h1 h2 => absurd h2 (by omega))
    · obtain ⟨e1, e2⟩ := floorQ_int (m : Int) (by omega)
      obtain ⟨-, j1, j2⟩ := fits_int (M := (m : Int)) (by omega)
      rw [e1] at HF
      rw [e2] at HG
      exact bright_same a n c zs t k w hR m _ _ ⟨hm1, by omega⟩ (by show (fn ((m : Int) : Rat) == (k : Int)) = false; rw [j1]; simp; omega) hmt hl (by omega) HX HF HG HQ (Lib.hid hd)
    · obtain ⟨e1, e2⟩ := floorQ_between lo hi
      rw [e1] at HF
      rw [e2] at HG
      have bu := V _ _ hu
      have bv := V _ _ hv
      have d1 := fd_pos x
      have c1 := rat_lt_parts.1.1 lo
      have c2 := rat_lt_parts.2.1 hi
      rw [Int.add_mul, Int.one_mul] at c2
      have b1 := mul_bound u (fd x) 255 255 (by omega) (by omega) (by omega) (by omega)
      have b2 := mul_bound (q : Int) (fd x) 64 255 (by omega) (by omega) (by omega) (by omega)
      have b3 := mul_bound t (fd x) 255 255 (by omega) (by omega) (by omega) (by omega)
      have key : u * fd x + (fn x - (q : Int) * fd x) * (v - u) = t * fd x := by
        have e := rat_parts x
        have h : ((u * fd x + (fn x - (q : Int) * fd x) * (v - u) : Int) : Rat) = ((t * fd x : Int) : Rat) := by
          rw [Rat.intCast_add, Rat.intCast_mul, Rat.intCast_mul, Rat.intCast_sub, Rat.intCast_mul, Rat.intCast_mul, ← e]
          rw [Rat.intCast_sub t u] at hxy
          grind
        exact Rat.intCast_inj.1 h
      obtain ⟨Y, hY⟩ : ∃ Y, fn x - (q : Int) * fd x = Y := ⟨_, rfl⟩
      rw [hY] at key
      have b4 := mul_bound Y (v - u) 20000 255 (by omega) (by omega) (by omega) (by omega)
      refine bright_between a n c zs t k w hR q (q + 1) _ _ u v (u * fd x) ((q : Int) * fd x) Y (v - u) (Y * (v - u)) (t * fd x) ⟨hq1, by omega, by omega⟩ ?_ hu hv
        (IntWalk.i64_in _ (by omega)) (IntWalk.i64_in _ (by omega)) (by show IntKind.i64.wrap (fn x - (q : Int) * fd x) = Y; rw [hY]; exact IntWalk.i64_in _ (by omega)) (IntWalk.i64_in _ (by omega)) (IntWalk.i64_in _ (by omega)) (by rw [key]; exact IntWalk.i64_in _ (by omega)) (IntWalk.i64_in _ (by omega)) hl (by omega) HX HF HG HQ (Lib.hid hd)
      show (fn x == (k : Int)) = false
      have g := Int.mul_le_mul_of_nonneg_left (show (1 : Int) ≤ fd x by omega) (show 0 ≤ (q : Int) by omega)
      simp; omega
end Go.Proofs.Ytbcgebobfnclnaa
