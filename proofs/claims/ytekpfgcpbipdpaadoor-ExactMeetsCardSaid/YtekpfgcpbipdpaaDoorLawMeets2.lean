/-
  ExactMeets: what the walk asks, for any arguments.
-/
import Derived.Test.YtekpfgcpbipdpaaDoorLawMeets
import Derived.Test.YtekpfgcpbipdpaaDoorMeetQ
namespace Go.Proofs.YtekpfgcpbipdpaaDoor
open Go.RowKit

theorem meets_true (s1 s2 s3 s4 t1 t2 t3 t4 x1 x2 : Int) (w : World) (hT : Tab w) :
    Calls Tryd.prog 6 #[.agg #[.int .i64 s1, .int .i64 s2, .int .i64 s3, .int .i64 s4], .agg #[.int .i64 t1, .int .i64 t2, .int .i64 t3, .int .i64 t4], .agg #[.int .i64 x1, .int .i64 x2]] w fun e w' => e = .returned (.bool true) ∧ Below w.heap.size w w' := by
  obtain ⟨p, e1, HA, hA⟩ := in_any s1 s2 s3 s4 x1 x2
  obtain ⟨q, f1, HB, hB⟩ := in_any t1 t2 t3 t4 x1 x2
  rcases hA with ⟨rfl, rfl, -⟩ | ⟨rfl, l, h, z, fl, fh, fz, hlh, rfl, rfl, rfl, rfl, rfl, rfl, hp⟩
  · exact meets_out _ _ _ _ _ _ _ _ _ _ _ _ _ _ w hT HA HB (.inl rfl)
  rcases hB with ⟨rfl, rfl, -⟩ | ⟨rfl, m, n, z', fm, fn', -, hmn, rfl, rfl, rfl, rfl, e1, e2, hq⟩
  · exact meets_out _ _ _ _ _ _ _ _ _ _ _ _ _ _ w hT HA HB (.inr ⟨rfl, rfl⟩)
  obtain rfl := q_ext e1 e2
  clear e1 e2
  obtain ⟨A, B, C, D, E, HM, hm⟩ := meet_q l h m n fl fh fm fn' hlh hmn
  have HJ := join_q l h m n fl fh fm fn' hlh hmn
  obtain ⟨a1, a2, a3, a4, -⟩ := loQ3 l h m n
  obtain ⟨b1, b2, b3, b4, -⟩ := hiQ3 l h m n
  have all : ∀ y ∈ [h, m, n], fits y := by intro y hy; simp at hy; rcases hy with rfl | rfl | rfl <;> assumption
  have fL := loQ_fits l fl _ all
  have fH := hiQ_fits l fl _ all
  have hLH : loQ l [h, m, n] ≤ hiQ l [h, m, n] := Rat.le_trans a1 b1
  have HU := in_q _ _ z fL fH fz hLH
  obtain ⟨wa, HW, hw⟩ := within_any (fn l) (fd l) (fn h) (fd h) (fn (loQ l [h, m, n])) (fd (loQ l [h, m, n])) (fn (hiQ l [h, m, n])) (fd (hiQ l [h, m, n]))
  obtain ⟨wb, HX, hx⟩ := within_any (fn m) (fd m) (fn n) (fd n) (fn (loQ l [h, m, n])) (fd (loQ l [h, m, n])) (fn (hiQ l [h, m, n])) (fd (hiQ l [h, m, n]))
  obtain rfl : wa = true := hw.2 ⟨_, _, _, _, fL, fH, fl, fh, rfl, rfl, rfl, rfl, rfl, rfl, rfl, rfl, hLH, hlh, a1, b1, a2, b2⟩
  obtain rfl : wb = true := hx.2 ⟨_, _, _, _, fL, fH, fm, fn', rfl, rfl, rfl, rfl, rfl, rfl, rfl, rfl, hLH, hmn, a3, b3, a4, b4⟩
  have hu : (p || q) = false ∨ hasQ (loQ l [h, m, n]) (hiQ l [h, m, n]) z = true := by
    cases p with
    | true => obtain ⟨k1, k2⟩ := hasQ_iff.1 hp.symm; exact .inr (hasQ_iff.2 ⟨Rat.le_trans a1 k1, Rat.le_trans k2 b2⟩)
    | false =>
      cases q with
      | true => obtain ⟨k1, k2⟩ := hasQ_iff.1 hq.symm; exact .inr (hasQ_iff.2 ⟨Rat.le_trans a3 k1, Rat.le_trans k2 b4⟩)
      | false => exact .inl rfl
  have both : (p && q) = true ↔ (l ≤ z ∧ z ≤ h) ∧ (m ≤ z ∧ z ≤ n) := by rw [Bool.and_eq_true, hp, hq, hasQ_iff, hasQ_iff]
  obtain ⟨v, j, HV, hv⟩ := in_any A B C D (fn z) (fd z)
  refine meets_in _ _ _ _ _ _ _ _ _ _ A B C D E _ _ _ _ j p q _ v w hT HA HB HM HJ HU HW HX HV hu ?_
  rcases hm with ⟨rfl, hn⟩ | ⟨rfl, hc, rfl, rfl, rfl, rfl⟩
  · refine .inl ⟨rfl, ?_⟩
    cases hb : (p && q) with
    | false => rfl
    | true =>
      obtain ⟨⟨k1, k2⟩, k3, k4⟩ := both.1 hb
      exact absurd (Rat.le_trans ((hi1 l m z).2 ⟨k1, k3⟩) ((lo1 h n z).2 ⟨k2, k4⟩)) hn
  · have fA : fits (hiQ l [m]) := hiQ_fits l fl [m] (by intro x hx; simp at hx; subst hx; exact fm)
    have fB : fits (loQ h [n]) := loQ_fits h fh [n] (by intro x hx; simp at hx; subst hx; exact fn')
    rcases hv with ⟨-, -, k⟩ | ⟨rfl, l', h', z', -, -, -, -, e1, e2, e3, e4, e5, e6, ev⟩
    · exact absurd ⟨⟨_, _, fA, fB, rfl, rfl, rfl, rfl, hc⟩, okF_q fz⟩ k
    · obtain rfl := q_ext e1 e2
      obtain rfl := q_ext e3 e4
      obtain rfl := q_ext e5 e6
      refine .inr ⟨rfl, rfl, ?_⟩
      have i1 : v = true ↔ (p && q) = true := by
        rw [ev, hasQ_iff, both, hi1, lo1]
        constructor
        · rintro ⟨⟨k1, k2⟩, k3, k4⟩; exact ⟨⟨k1, k3⟩, k2, k4⟩
        · rintro ⟨⟨k1, k3⟩, k2, k4⟩; exact ⟨⟨k1, k2⟩, k3, k4⟩
      exact Bool.eq_iff_iff.2 i1
end Go.Proofs.YtekpfgcpbipdpaaDoor
