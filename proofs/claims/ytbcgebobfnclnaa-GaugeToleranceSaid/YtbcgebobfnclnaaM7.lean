/-
  The texts that the laws of this seat share, merged: part 7.
-/
import Derived.BigQuiet
import Derived.ChangeSame
import Derived.Deep.CutBlock
import Derived.Deep.DeepCutAuto
import Derived.Deep.DeepHandedRow
import Derived.Deep.Draws
import Derived.Deep.LoopGhost
import Derived.Deep.OwnRows
import Derived.Deep.QuietTactic
import Derived.Deep.RegionHeld3
import Derived.IntWalk
import Derived.LaidSub
import Derived.Laws.AppendOwn
import Derived.Laws.Bits64b
import Derived.Lay
import Derived.Lib.Hide
import Derived.Lib.ItoaNum
import Derived.Lib.SmallJoins
import Derived.LoopIn
import Derived.LoopNIn
import Derived.LoopTactic
import Derived.OneCell
import Derived.OpenShut
import Derived.Orders
import Derived.OwnWalkIn
import Derived.ProofKit
import Derived.RangeFuncBound
import Derived.RangeFuncCalls
import Derived.RangeFuncLeaves
import Derived.RangeFuncNested
import Derived.Shelf.Abstract
import Derived.Shelf.AbstractIn
import Derived.Shelf.Bits.Mul64
import Derived.Shelf.RegionOpen
import Derived.Shelf.Small.Bits
import Derived.Shelf.Spec.BitsCarry
import Derived.Shelf.Strconv.Itoa0
import Derived.TacticsInMore
import Derived.Test.YtbcgebobfnclnaaProg
import Derived.Test.YtbcgebobfnclnaaRows
import Derived.WalkKit
import Derived.WalkLawsBesides
import Derived.WalkSmall
import Derived.WalkSpells
import Derived.Test.YtbcgebobfnclnaaM1
import Derived.Test.YtbcgebobfnclnaaM6
/-
  Gauges among the arguments of a law.
-/
namespace Go.Proofs.Ytbcgebobfnclnaa
open Go.ChangeShapes Go.WideShapes Go.ChangeAt Go.RowKit
set_option linter.unusedVariables false
set_option linter.unusedSimpArgs false

section
variable {H : Type} {enc : TypeId × Value → H}
set_option maxRecDepth 100000 in
theorem open_gauge {W : World} {b0 : Nat} {r : Reach} {base : Nat} {sp : Nat → Bool} {held : Bool} {v : Value} {d : DataW H} {p : List MemPlace}
    (hval : Value.okWide Try.prog W r b0 41 v) (h : DataW.Trod enc Try.prog W base sp held 41 v d p) :
    ∃ c0 c1 c2 c3 c4 c5 c6 c7 c8 c9 : Int, v = .agg #[.int .i64 c0, .int .i64 c1, .int .i64 c2, .int .i64 c3, .int .i64 c4, .int .i64 c5, .int .i64 c6, .int .i64 c7, .int .i64 c8, .int .i64 c9] ∧ (Lit.int .i64 c0).wf = true ∧ (Lit.int .i64 c1).wf = true ∧ (Lit.int .i64 c2).wf = true ∧ (Lit.int .i64 c3).wf = true ∧ (Lit.int .i64 c4).wf = true ∧ (Lit.int .i64 c5).wf = true ∧ (Lit.int .i64 c6).wf = true ∧ (Lit.int .i64 c7).wf = true ∧ (Lit.int .i64 c8).wf = true ∧ (Lit.int .i64 c9).wf = true := by
  obtain ⟨cs, rfl, hsz⟩ := okWide_struct Try.underlying41 hval
  obtain ⟨fuel, hf⟩ := h
  obtain ⟨xs, n, _, hx, hl, hlen, hg⟩ := DataW.trod_struct Try.underlying41 hf
  have e10 : Try.prog.cellsOf 41 = 10 := by kernel_rfl
  have e1 : Try.prog.cellsOf 3 = 1 := by kernel_rfl
  have e2 : Try.prog.cellsOf 23 = 2 := by kernel_rfl
  have e4 : Try.prog.cellsOf 30 = 4 := by kernel_rfl
  rw [e10] at hl
  obtain ⟨v0, v1, v2, v3, v4, v5, v6, v7, v8, v9, hcs⟩ : ∃ v0 v1 v2 v3 v4 v5 v6 v7 v8 v9, cs.toList = [v0, v1, v2, v3, v4, v5, v6, v7, v8, v9] := by
    match cs.toList, (show cs.toList.length = 10 from hl) with
    | [v0, v1, v2, v3, v4, v5, v6, v7, v8, v9], _ => exact ⟨v0, v1, v2, v3, v4, v5, v6, v7, v8, v9, rfl⟩
  obtain ⟨y0, y1, y2, y3, y4, rfl⟩ : ∃ y0 y1 y2 y3 y4, xs = [y0, y1, y2, y3, y4] := by
    match xs, hlen with
    | [y0, y1, y2, y3, y4], _ => exact ⟨y0, y1, y2, y3, y4, rfl⟩
  have h0 : DataW.trod enc Try.prog W base sp held n 3 ((cs.toList.drop 0).take (Try.prog.cellsOf 3)) = some y0 := hg 0 _ rfl
  have h1 : DataW.trod enc Try.prog W base sp held n 3 ((cs.toList.drop 1).take (Try.prog.cellsOf 3)) = some y1 := hg 1 _ rfl
  have h2 : DataW.trod enc Try.prog W base sp held n 30 ((cs.toList.drop 2).take (Try.prog.cellsOf 30)) = some y2 := hg 2 _ rfl
  have h3 : DataW.trod enc Try.prog W base sp held n 23 ((cs.toList.drop 6).take (Try.prog.cellsOf 23)) = some y3 := hg 3 _ rfl
  have h4 : DataW.trod enc Try.prog W base sp held n 23 ((cs.toList.drop 8).take (Try.prog.cellsOf 23)) = some y4 := hg 4 _ rfl
  rw [hcs] at h0 h1 h2 h3 h4
  simp only [e1, e2, e4, List.drop_zero, List.drop_succ_cons, List.take_succ_cons, List.take_zero] at h0 h1 h2 h3 h4
  obtain ⟨a0, ha0, -, w0⟩ := DataW.trod_int Try.underlying3 h0
  obtain ⟨a1, ha1, -, w1⟩ := DataW.trod_int Try.underlying3 h1
  obtain ⟨a2, a3, a4, a5, hs, w2, w3, w4, w5⟩ := span_in h2
  obtain ⟨a6, a7, hm, w6, w7⟩ := frac_in h3
  obtain ⟨a8, a9, hn, w8, w9⟩ := frac_in h4
  simp only [List.cons.injEq, and_true] at ha0 ha1 hs hm hn
  obtain ⟨rfl, rfl, rfl, rfl⟩ := hs
  obtain ⟨rfl, rfl⟩ := hm
  obtain ⟨rfl, rfl⟩ := hn
  subst ha0 ha1
  refine ⟨a0, a1, a2, a3, a4, a5, a6, a7, a8, a9, ?_, w0, w1, w2, w3, w4, w5, w6, w7, w8, w9⟩
  cases cs; simp_all
end
end Go.Proofs.Ytbcgebobfnclnaa
/-
  Layer 5: verdicts under wider tolerances and more noise.
-/
namespace Go.Proofs.Ytbcgebobfnclnaa
set_option linter.unusedVariables false
set_option linter.unusedSimpArgs false

theorem deV_cases {l h m n : Rat} (hlh : l ≤ h) (hmn : m ≤ n) : (deV l h m n = 1 ∧ m ≤ l ∧ h ≤ n) ∨ (deV l h m n = 2 ∧ (h < m ∨ n < l)) ∨ (deV l h m n = 3 ∧ ¬ (m ≤ l ∧ h ≤ n) ∧ ¬ (h < m ∨ n < l)) := by
  have e : hiQ l [m] ≤ loQ h [n] ↔ ¬ (h < m ∨ n < l) := by
    unfold hiQ loQ
    simp only [List.foldl_cons, List.foldl_nil]
    constructor
    · intro k g; grind
    · intro k; grind
  unfold deV
  by_cases k : h < m ∨ n < l
  · rw [if_pos (fun g => (e.1 g) k)]; exact .inr (.inl ⟨rfl, k⟩)
  · rw [if_neg (fun g => g (e.2 k))]
    by_cases q : m ≤ l ∧ h ≤ n
    · rw [if_pos q]; exact .inl ⟨rfl, q⟩
    · rw [if_neg q]; exact .inr (.inr ⟨rfl, q, k⟩)
theorem deV_1 {l h m n : Rat} (hlh : l ≤ h) (hmn : m ≤ n) (k : deV l h m n = 1) : m ≤ l ∧ h ≤ n := by
  rcases deV_cases hlh hmn with ⟨_, q⟩ | ⟨e, _⟩ | ⟨e, _⟩
  · exact q
  · rw [e] at k; cases k
  · rw [e] at k; cases k
theorem deV_2 {l h m n : Rat} (hlh : l ≤ h) (hmn : m ≤ n) (k : deV l h m n = 2) : h < m ∨ n < l := by
  rcases deV_cases hlh hmn with ⟨e, _⟩ | ⟨_, q⟩ | ⟨e, _⟩
  · rw [e] at k; cases k
  · exact q
  · rw [e] at k; cases k
theorem deV_is1 {l h m n : Rat} (hlh : l ≤ h) (hmn : m ≤ n) (k : m ≤ l ∧ h ≤ n) : deV l h m n = 1 := by
  rcases deV_cases hlh hmn with ⟨e, _⟩ | ⟨_, q⟩ | ⟨_, q, _⟩
  · exact e
  · exfalso; grind
  · exact absurd k q
theorem deV_is2 {l h m n : Rat} (hlh : l ≤ h) (hmn : m ≤ n) (k : h < m ∨ n < l) : deV l h m n = 2 := by
  rcases deV_cases hlh hmn with ⟨_, q⟩ | ⟨e, _⟩ | ⟨_, _, q⟩
  · exfalso; grind
  · exact e
  · exact absurd k q
theorem deV_three {l h m n : Rat} (hlh : l ≤ h) (hmn : m ≤ n) : deV l h m n = 1 ∨ deV l h m n = 2 ∨ deV l h m n = 3 := by
  rcases deV_cases hlh hmn with ⟨e, _⟩ | ⟨e, _⟩ | ⟨e, _⟩
  · exact .inl e
  · exact .inr (.inl e)
  · exact .inr (.inr e)
/-- What Measure returns for a valid gauge and a valid profile. -/
def MeaR (t n s1 s2 s3 s4 l1 l2 h1 h2 : Int) (zs : List Int) (Z1 Z2 Z3 Z4 V : Int) : Prop := MeaN t n zs Z1 Z2 Z3 Z4 V ∨ MeaY t n s1 s2 s3 s4 l1 l2 h1 h2 zs Z1 Z2 Z3 Z4 V
theorem meaR_three {t n s1 s2 s3 s4 l1 l2 h1 h2 : Int} {zs : List Int} {Z1 Z2 Z3 Z4 V : Int} (h : MeaR t n s1 s2 s3 s4 l1 l2 h1 h2 zs Z1 Z2 Z3 Z4 V) : V = 1 ∨ V = 2 ∨ V = 3 := by
  rcases h with ⟨-, -, -, -, -, -, h⟩ | ⟨x, y, sl, sh, tl, th, L, H, -, -, -, -, -, -, -, -, -, -, -, -, -, -, -, -, -, -, ht, -, -, -, -, hLH, -, -, -, -, rfl⟩
  · rw [h]; split
    · exact .inr (.inr rfl)
    · exact .inr (.inl rfl)
  · exact deV_three hLH ht
/-- A wider tolerance. -/
theorem mea_wider {t n s1 s2 s3 s4 l1 l2 h1 h2 k1 k2 j1 j2 : Int} {zs : List Int} {Z1 Z2 Z3 Z4 V Y1 Y2 Y3 Y4 U : Int} (ha : MeaR t n s1 s2 s3 s4 l1 l2 h1 h2 zs Z1 Z2 Z3 Z4 V) (hb : MeaR t n s1 s2 s3 s4 k1 k2 j1 j2 zs Y1 Y2 Y3 Y4 U)
    (hw : ∀ m n' lo hi : Rat, l1 = fn m → l2 = fd m → h1 = fn n' → h2 = fd n' → k1 = fn lo → k2 = fd lo → j1 = fn hi → j2 = fd hi → lo ≤ m ∧ n' ≤ hi) : (V = 1 → U = 1) ∧ (U = 2 → V = 2) := by
  rcases ha with ⟨e1, e2, -, -, -, -, e3⟩ | ⟨x, y, sl, sh, tl, th, L, H, hx, hy, hxy, -, -, -, -, -, -, q1, q2, q3, q4, q5, q6, q7, q8, hs, ht, hL, hH, -, -, hLH, -, -, -, -, rfl⟩
  · rcases hb with ⟨-, -, -, -, -, -, f3⟩ | ⟨x, y, _, _, _, _, _, _, hx, _⟩
    · rw [← f3] at e3
      subst e3
      refine ⟨fun k => ?_, fun k => k⟩
      rw [f3] at k
      split at k <;> cases k
    · rw [e1] at hx; cases hx
  · rcases hb with ⟨e1, _⟩ | ⟨x', y', sl', sh', tl', th', L', H', hx', hy', -, -, -, -, -, -, -, p1, p2, p3, p4, p5, p6, p7, p8, -, ht', hL', hH', -, -, -, -, -, -, -, rfl⟩
    · rw [e1] at hx; cases hx
    · rw [hx] at hx'; rw [hy] at hy'
      obtain rfl := Option.some.inj hx'
      obtain rfl := Option.some.inj hy'
      obtain rfl : sl = sl' := q_ext (by rw [← q1, p1]) (by rw [← q2, p2])
      obtain rfl : sh = sh' := q_ext (by rw [← q3, p3]) (by rw [← q4, p4])
      rw [← hL] at hL'; rw [← hH] at hH'
      subst hL' hH'
      obtain ⟨w1, w2⟩ := hw tl th tl' th' q5 q6 q7 q8 p5 p6 p7 p8
      refine ⟨fun k => ?_, fun k => ?_⟩
      · have := deV_1 hLH ht k
        exact deV_is1 hLH ht' ⟨Rat.le_trans w1 this.1, Rat.le_trans this.2 w2⟩
      · refine deV_is2 hLH ht ?_
        rcases deV_2 hLH ht' k with g | g
        · left; grind
        · right; grind
/-- More noise. -/
theorem mea_louder {t n nz s1 s2 s3 s4 l1 l2 h1 h2 : Int} {zs : List Int} {Z1 Z2 Z3 Z4 V Y1 Y2 Y3 Y4 U : Int} (hz : okP zs) (hn : n ≤ nz) (ha : MeaR t n s1 s2 s3 s4 l1 l2 h1 h2 zs Z1 Z2 Z3 Z4 V) (hb : MeaR t nz s1 s2 s3 s4 l1 l2 h1 h2 zs Y1 Y2 Y3 Y4 U) : ¬ (V = 1 ∧ U = 2) ∧ ¬ (V = 2 ∧ U = 1) := by
  have hz0 := hz.1
  rcases ha with ⟨e1, e2, -, -, -, -, e3⟩ | ⟨x, y, sl, sh, tl, th, L, H, hx, hy, hxy, -, -, -, -, -, -, q1, q2, q3, q4, q5, q6, q7, q8, hs, ht, hL, hH, -, -, hLH, -, -, -, -, rfl⟩
  · rcases hb with ⟨-, -, -, -, -, -, f3⟩ | ⟨x, y, _, _, _, _, _, _, hx, _⟩
    · constructor
      · rintro ⟨rfl, -⟩
        split at e3 <;> cases e3
      · rintro ⟨-, rfl⟩
        split at f3 <;> cases f3
    · obtain ⟨v, hv, -⟩ := WX_le (lwL_le (zs := zs) hn) (by rw [lwL_length]; omega) hx
      rw [e1] at hv; cases hv
  · obtain ⟨v, hv, hyv⟩ := WX_le (upL_le (zs := zs) hn) (by rw [upL_length]; omega) hy
    rcases hb with ⟨e1, e2, -, -, -, -, f3⟩ | ⟨x', y', sl', sh', tl', th', L', H', hx', hy', -, -, -, -, -, -, -, p1, p2, p3, p4, p5, p6, p7, p8, -, ht', hL', hH', -, -, hLH', -, -, -, -, rfl⟩
    · obtain ⟨a, _, ha, -, -⟩ := WX_some.1 hv
      rw [ha] at f3
      constructor
      · rintro ⟨-, rfl⟩; cases f3
      · rintro ⟨-, rfl⟩; cases f3
    · obtain ⟨u, hu, hxu⟩ := WX_le (lwL_le (zs := zs) hn) (by rw [lwL_length]; omega) hx'
      rw [hx] at hu
      obtain rfl := Option.some.inj hu
      rw [hv] at hy'
      obtain rfl := Option.some.inj hy'
      obtain rfl : sl = sl' := q_ext (by rw [← q1, p1]) (by rw [← q2, p2])
      obtain rfl : sh = sh' := q_ext (by rw [← q3, p3]) (by rw [← q4, p4])
      obtain rfl : tl = tl' := q_ext (by rw [← q5, p5]) (by rw [← q6, p6])
      obtain rfl : th = th' := q_ext (by rw [← q7, p7]) (by rw [← q8, p8])
      have c1 := encl_mul (l := x') (h := v) (m := sl) (n := sh) (x := x) (y := sl) hxu (Rat.le_trans hxy hyv) Rat.le_refl hs
      have c2 := encl_mul (l := x') (h := v) (m := sl) (n := sh) (x := x) (y := sh) hxu (Rat.le_trans hxy hyv) hs Rat.le_refl
      have c3 := encl_mul (l := x') (h := v) (m := sl) (n := sh) (x := y) (y := sl) (Rat.le_trans hxu hxy) hyv Rat.le_refl hs
      have c4 := encl_mul (l := x') (h := v) (m := sl) (n := sh) (x := y) (y := sh) (Rat.le_trans hxu hxy) hyv hs Rat.le_refl
      rw [← hL', ← hH'] at c1 c2 c3 c4
      have d1 := (loQ3 (x * sl) (x * sh) (y * sl) (y * sh)).2.2.2.2
      have d2 := (hiQ3 (x * sl) (x * sh) (y * sl) (y * sh)).2.2.2.2
      rw [← hL] at d1; rw [← hH] at d2
      have b1 : L' ≤ L := by rcases d1 with k | k | k | k <;> rw [k] <;> grind
      have b2 : H ≤ H' := by rcases d2 with k | k | k | k <;> rw [k] <;> grind
      constructor
      · rintro ⟨k, g⟩
        have k := deV_1 hLH ht k
        have g := deV_2 hLH' ht g
        rcases g with g | g <;> grind
      · rintro ⟨k, g⟩
        have k := deV_2 hLH ht k
        have g := deV_1 hLH' ht g
        rcases k with k | k <;> grind
end Go.Proofs.Ytbcgebobfnclnaa
