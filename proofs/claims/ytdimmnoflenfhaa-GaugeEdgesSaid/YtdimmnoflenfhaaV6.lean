/-
  The texts that the laws of this seat share, merged: part 6.
-/
import Derived.BigQuiet
import Derived.Deep.CutBlock
import Derived.Deep.DeepCutAuto
import Derived.Deep.Draws
import Derived.Deep.LoopGhost
import Derived.Deep.OwnRows
import Derived.Deep.QuietTactic
import Derived.Deep.RegionHeld3
import Derived.Deep.RegionLaw
import Derived.IntWalk
import Derived.Laws.AppendOwn
import Derived.Laws.Bits64b
import Derived.Lib.Hide
import Derived.Lib.ItoaNum
import Derived.LoopIn
import Derived.LoopNIn
import Derived.LoopTactic
import Derived.Maps.AppendAt
import Derived.OneCell
import Derived.Orders
import Derived.OwnWalkIn
import Derived.RangeFuncBound
import Derived.RangeFuncCalls
import Derived.RangeFuncLeaves
import Derived.RangeFuncNested
import Derived.Shelf.Abstract
import Derived.Shelf.AbstractIn
import Derived.Shelf.Bits.Mul64
import Derived.Shelf.RegionOpen
import Derived.Shelf.Small.Bits
import Derived.Shelf.Spec.BitsCarry
import Derived.Shelf.Strconv.Itoa0
import Derived.TacticsInMore
import Derived.Test.YtdimmnoflenfhaaProg
import Derived.WalkKit
import Derived.WalkLawsBesides
import Derived.WalkSmall
import Derived.WalkSpells
import Derived.Test.YtdimmnoflenfhaaV2
import Derived.Test.YtdimmnoflenfhaaV3
import Derived.Test.YtdimmnoflenfhaaV4
import Derived.Test.YtdimmnoflenfhaaV5
/-
  The document's own answers, layer 1: fractions made, sums and differences.
-/
namespace Go.Proofs.Ytdimmnoflenfhaa
open Go.RowKit

set_option maxHeartbeats 2000000 in
theorem rmake_walk (n d s t y m k A B : Int) (ok : Bool) (M N E : Int) (w : World) (d0 : (d == 0) = false) (hy : IntKind.i64.wrap (s * t) = y)
    (HS1 : Hid (∀ w, Calls Try.prog 116 #[.int .i64 n] w fun e w' => e = .returned (.int .i64 s) ∧ w = w'))
    (HS2 : Hid (∀ w, Calls Try.prog 116 #[.int .i64 d] w fun e w' => e = .returned (.int .i64 t) ∧ w = w'))
    (HM1 : Hid (∀ w, Calls Try.prog 115 #[.int .i64 n] w fun e w' => e = .returned (.int .u64 m) ∧ w = w'))
    (HM2 : Hid (∀ w, Calls Try.prog 115 #[.int .i64 d] w fun e w' => e = .returned (.int .u64 k) ∧ w = w'))
    (HL : Hid (∀ w, Calls Try.prog 117 #[.int .i64 y, .agg #[.int .u64 0, .int .u64 m], .agg #[.int .u64 0, .int .u64 k]] w fun e w' => e = .returned (.tuple #[.agg #[.int .i64 A, .int .i64 B], .bool ok]) ∧ Below w.heap.size w w'))
    (HF : Hid (∀ w, Calls Try.prog 129 #[.agg #[.int .i64 A, .int .i64 B], .bool ok] w fun e w' => e = .returned (.tuple #[.agg #[.int .i64 M, .int .i64 N], .int .i64 E]) ∧ Below w.heap.size w w')) :
    Calls Try.prog 112 #[.int .i64 n, .int .i64 d] w fun e w' => e = .returned (.tuple #[.agg #[.int .i64 M, .int .i64 N], .int .i64 E]) ∧ Below w.heap.size w w' := by
  go_enter Try.func112, Try.ntmps112
  go_wp2_with (first
    | (go_at_call 116; (with_reducible refine (HS1.out _).mono ?_); rintro e w1 ⟨rfl, rfl⟩)
    | (go_at_call 116; (with_reducible refine (HS2.out _).mono ?_); rintro e w1 ⟨rfl, rfl⟩)
    | (go_at_call 115; (with_reducible refine (HM1.out _).mono ?_); rintro e w1 ⟨rfl, rfl⟩)
    | (go_at_call 115; (with_reducible refine (HM2.out _).mono ?_); rintro e w1 ⟨rfl, rfl⟩)
    | (go_at_call 117; (with_reducible refine (HL.out _).mono ?_); rintro e w1 ⟨rfl, hb⟩; (first | ((with_reducible have k0 := Blk.later hb (Blk.new rfl)); skip; obtain ⟨a0, b0⟩ := k0.read; have zl := k0.lt) | ((try (have zk := k0.lt; (first | ((with_reducible refine Blk.keepG hb k0 (fun h => ?_) ?_); (focus ((repeat' (first | (with_reducible assumption) | ((with_reducible refine Blk.new ?_); first | rfl | (simp; done)) | (with_reducible refine Blk.later (by assumption) ?_) | (with_reducible refine Blk.alloc ?_) | (with_reducible refine Blk.drewN ?_) | (with_reducible refine Blk.drew ?_) | (with_reducible refine Blk.other ?_ (by first | omega | (simp; done) | (simp; omega))))); done)); clear k0; intro k0) | (with_reducible replace k0 := Blk.later hb (Blk.set (Blk.set k0))) | (with_reducible replace k0 := Blk.later hb (Blk.set k0))); clear a0 b0; obtain ⟨a0, b0⟩ := k0.read; have zl := k0.lt)))))
    | (go_at_call 129; (with_reducible refine (HF.out _).mono ?_); rintro e w1 ⟨rfl, hb⟩; (try (have zk := k0.lt; (first | ((with_reducible refine Blk.keepG hb k0 (fun h => ?_) ?_); (focus ((repeat' (first | (with_reducible assumption) | ((with_reducible refine Blk.new ?_); first | rfl | (simp; done)) | (with_reducible refine Blk.later (by assumption) ?_) | (with_reducible refine Blk.alloc ?_) | (with_reducible refine Blk.drewN ?_) | (with_reducible refine Blk.drew ?_) | (with_reducible refine Blk.other ?_ (by first | omega | (simp; done) | (simp; omega))))); done)); clear k0; intro k0) | (with_reducible replace k0 := Blk.later hb (Blk.set (Blk.set k0))) | (with_reducible replace k0 := Blk.later hb (Blk.set k0))); clear a0 b0; obtain ⟨a0, b0⟩ := k0.read; have zl := k0.lt))))
  exact bodyPost_ret (v := .tuple #[.agg #[.int .i64 M, .int .i64 N], .int .i64 E]) (by simp only [results, Try.results112]; go_simp) rfl ⟨rfl, by (repeat' (first | (with_reducible exact Below.refl _ _) | (with_reducible assumption) | (with_reducible refine belowThru ?_ (by assumption)) | (with_reducible refine belowAlloc ?_) | (with_reducible refine Below.setCell ?_ (by first | omega | (simp; done) | (simp; omega)) _) | (with_reducible refine Below.drew ?_) | (with_reducible refine below_drewN ?_ _)))⟩

theorem rmake_q (n d : Int) (w : World) (n1 : -9223372036854775808 ≤ n) (n2 : n ≤ 9223372036854775807) (d1 : -9223372036854775808 ≤ d) (d2 : d ≤ 9223372036854775807) (d0 : d ≠ 0) :
    Calls Try.prog 112 #[.int .i64 n, .int .i64 d] w fun e w' => e = .returned (.tuple #[.agg #[.int .i64 (rn (mkR n d)), .int .i64 (rd (mkR n d))], .int .i64 (re (mkR n d))]) ∧ Below w.heap.size w w' := by
  have m1 := mag_lo n; have m2 := mag_le n n1 n2; have m3 := mag_lo d; have m4 := mag_le d d1 d2
  have m5 : 1 ≤ mag d := by have := mag_natAbs d; omega
  have k1 := sg n; have k2 := sg d
  have hb := mul_bound n.sign d.sign 1 1 (by omega) (by omega) (by omega) (by omega)
  have hx : mkR n d = mkR (if n.sign * d.sign < 0 then -mag n else mag n) (mag d) := by
    have g := mag_sg n
    rcases k2 with ⟨h1, h2⟩ | ⟨h1, h2⟩ | ⟨h1, h2⟩
    · rw [mag_neg d h1, h2, ← show mkR (-n) (-d) = mkR n d from Rat.neg_divInt_neg n d, Int.mul_neg_one]
      congr 1
      split <;> omega
    · exact absurd h1 d0
    · rw [mag_pos d (by omega), h2, Int.mul_one]
      congr 1
      split <;> omega
  have HL := lowest_q (mkR n d) (n.sign * d.sign) (mag n) (mag d) m1 (by omega) m5 (by omega) hx
  rw [whi_of (mag n) m1 (by omega), wlo_of (mag n) m1 (by omega), whi_of (mag d) m3 (by omega), wlo_of (mag d) m3 (by omega)] at HL
  exact rmake_walk n d n.sign d.sign (n.sign * d.sign) (mag n) (mag d) _ _ _ _ _ _ w (by simpa using d0) (IntWalk.i64_in _ (by omega)) (Lib.hid (rsign_any _)) (Lib.hid (rsign_any _)) (Lib.hid (rsize_any _ n1 n2)) (Lib.hid (rsize_any _ d1 d2)) (Lib.hid HL) (Lib.hid (rfit_q _))
theorem rplus_q (q r : Rat) (hq : fits q) (hr : fits r) (w : World) :
    Calls Try.prog 91 #[.agg #[.int .i64 (fn q), .int .i64 (fd q)], .agg #[.int .i64 (fn r), .int .i64 (fd r)]] w fun e w' => e = .returned (.tuple #[.agg #[.int .i64 (rn (q + r)), .int .i64 (rd (q + r))], .bool (decide (re (q + r) = 0))]) ∧ Below w.heap.size w w' := by
  have b1 := prod_bound q r hq hr
  have b2 := prod_bound r q hr hq
  have fq := hq; have fr' := hr; unfold fits at fq fr'; obtain ⟨q1, q2, q3⟩ := fq; obtain ⟨r1, r2, r3⟩ := fr'; have q4 := fd_pos q; have r4 := fd_pos r
  have e1 := mag_mul_pos (fn q) (fd r) r4
  have e2 := mag_mul_pos (fn r) (fd q) q4
  have s1 := sg_mul (fn q) (fd r) r4
  have s2 := sg_mul (fn r) (fd q) q4
  have m1 := mag_lo (fn q); have m2 := mag_le (fn q) (by omega) (by omega); have m3 := mag_lo (fn r); have m4 := mag_le (fn r) (by omega) (by omega)
  have HX := Lib.hid (fun w => rtimes_any (mag (fn q)) (fd r) (by omega) (by omega) (by omega) (by omega) w)
  have HY := Lib.hid (fun w => rtimes_any (mag (fn r)) (fd q) (by omega) (by omega) (by omega) (by omega) w)
  have HZ := Lib.hid (fun w => rtimes_any (fd q) (fd r) (by omega) (by omega) (by omega) (by omega) w)
  have hx := mkR_add q r
  have c2 := mag_mul_bound (fd q) (fd r) (by omega) (by omega) (by omega) (by omega)
  have c3 : 1 ≤ fd q * fd r := by have := Int.mul_pos (show 0 < fd q by omega) (show 0 < fd r by omega); omega
  rw [e1] at HX
  rw [e2] at HY
  obtain ⟨p, hp⟩ : ∃ p, p = fn q * fd r := ⟨_, rfl⟩
  obtain ⟨p', hp'⟩ : ∃ p', p' = fn r * fd q := ⟨_, rfl⟩
  obtain ⟨Z, hZ⟩ : ∃ Z, Z = fd q * fd r := ⟨_, rfl⟩
  rw [← hp] at e1 s1 b1 HX hx
  rw [← hp'] at e2 s2 b2 HY hx
  rw [← hZ] at HZ c2 c3 hx
  have g1 := mag_sg p; have g2 := mag_sg p'
  have M1 := mag_lo p; have M2 := mag_lo p'
  have M3 : mag p ≤ 21267647932558653957237540927630737409 := by have := mag_natAbs p; omega
  have M4 : mag p' ≤ 21267647932558653957237540927630737409 := by have := mag_natAbs p'; omega
  have k1 := sg p; have k2 := sg p'
  have hb := mul_bound p.sign p'.sign 1 1 (by omega) (by omega) (by omega) (by omega)
  have hl : (decide (mag p < mag p') = true ∧ mag p < mag p') ∨ (decide (mag p < mag p') = false ∧ ¬ mag p < mag p') := by
    by_cases h : mag p < mag p'
    · exact .inl ⟨decide_eq_true h, h⟩
    · exact .inr ⟨decide_eq_false h, h⟩
  have HE := rless_any (mag p) (mag p') M1 (by omega) M2 (by omega)
  have hs : (0 ≤ p.sign * p'.sign ∧ (p.sign + p'.sign < 0 → -(mag p + mag p') = p + p') ∧ (¬ p.sign + p'.sign < 0 → mag p + mag p' = p + p')) ∨
      (p.sign * p'.sign < 0 ∧ (mag p < mag p' → (p'.sign < 0 → -(mag p' - mag p) = p + p') ∧ (¬ p'.sign < 0 → mag p' - mag p = p + p')) ∧ (¬ mag p < mag p' → (p.sign < 0 → -(mag p - mag p') = p + p') ∧ (¬ p.sign < 0 → mag p - mag p' = p + p'))) := by
    rcases k1 with ⟨h1, h2⟩ | ⟨h1, h2⟩ | ⟨h1, h2⟩ <;> rcases k2 with ⟨h3, h4⟩ | ⟨h3, h4⟩ | ⟨h3, h4⟩ <;> rw [h2, h4] <;> omega
  have walk := fun v U1 U0 A B ok => rplus_walk (fn q) (fd q) (fn r) (fd r) (fn q).sign (fn r).sign v ((fn q).sign * (fn r).sign) (mag (fn q)) (mag (fn r)) (whi (mag p)) (wlo (mag p)) (whi (mag p')) (wlo (mag p')) (whi Z) (wlo Z) U1 U0 A B ok w
    (IntWalk.i64_in _ (by rw [← s1, ← s2]; omega)) (Lib.hid (rsign_any _)) (Lib.hid (rsign_any _)) (Lib.hid (rsize_any _ (by omega) (by omega))) (Lib.hid (rsize_pos _ (by omega) (by omega))) (Lib.hid (rsize_any _ (by omega) (by omega))) (Lib.hid (rsize_pos _ (by omega) (by omega))) HX HY HZ
  rw [← s1, ← s2] at walk
  rcases hs with ⟨y1, y2, y3⟩ | ⟨y1, y2, y3⟩
  · refine walk (p.sign + p'.sign) _ _ _ _ _ (.inl ⟨y1, IntWalk.i64_in _ (by omega), Lib.hid (rplus_any (mag p) (mag p')), Lib.hid (lowest_q (q + r) _ (mag p + mag p') Z (by omega) (by omega) c3 (by omega) ?_)⟩)
    rw [← hx]; congr 1; split <;> omega
  · rcases hl with ⟨l1, l2⟩ | ⟨l1, l2⟩
    · rw [l1] at HE
      refine walk 0 _ _ _ _ _ (.inr (.inl ⟨y1, Lib.hid HE, Lib.hid (rminus_any (mag p') (mag p)), Lib.hid (lowest_q (q + r) _ (mag p' - mag p) Z (by omega) (by omega) c3 (by omega) ?_)⟩))
      have y4 := y2 l2
      rw [← hx]; congr 1; split <;> omega
    · rw [l1] at HE
      refine walk 0 _ _ _ _ _ (.inr (.inr ⟨y1, Lib.hid HE, Lib.hid (rminus_any (mag p) (mag p')), Lib.hid (lowest_q (q + r) _ (mag p - mag p') Z (by omega) (by omega) c3 (by omega) ?_)⟩))
      have y4 := y3 l2
      rw [← hx]; congr 1; split <;> omega


end Go.Proofs.Ytdimmnoflenfhaa
/-
  Layer 5, the reference: where the first and the last bright place lie, as it reckons them.
-/
namespace Go.Proofs.Ytdimmnoflenfhaa
set_option linter.unusedVariables false

theorem FX_at {t : Int} {zs : List Int} {p : Nat} {v : Int} (hv : zs[p]? = some v) (hvt : t ≤ v) : FX t zs p = some ((p : Int) : Rat) := by
  have hf : fb t (zs.drop p) = some 0 := fb_some.2 ⟨v, by rw [List.getElem?_drop]; exact hv, hvt, fun k hk => absurd hk (by omega)⟩
  unfold FX br
  rw [hf]
  show some (((p : Int) : Rat) + pl t (zs.drop p) 0) = _
  rw [pl_zero, Rat.add_zero]
theorem FX_off {t : Int} {zs : List Int} {p : Nat} (hb : ∀ (j : Nat) (w : Int), p ≤ j → zs[j]? = some w → w < t) : FX t zs p = none := by
  have hf : fb t (zs.drop p) = none := fb_none.2 fun u hu => by
    obtain ⟨k, hk⟩ := List.mem_iff_getElem?.1 hu
    rw [List.getElem?_drop] at hk
    exact hb (p + k) u (by omega) hk
  unfold FX br
  rw [hf]; rfl
theorem FX_hit {t : Int} {zs : List Int} {p i : Nat} {u v : Int} (hz : okP zs) (hi : p ≤ i) (hu : zs[i]? = some u) (hv : zs[i + 1]? = some v) (hb : ∀ (j : Nat) (w : Int), p ≤ j → j ≤ i → zs[j]? = some w → w < t) (hvt : t ≤ v) :
    FX t zs p = some (mkR ((i : Int) * (v - u) + t - u) (v - u)) ∧ 1 ≤ v - u ∧ v - u ≤ 255 ∧ -40000 ≤ (i : Int) * (v - u) + t - u ∧ (i : Int) * (v - u) + t - u ≤ 40000 := by
  have hf : fb t (zs.drop p) = some (i + 1 - p) := fb_some.2 ⟨v, by rw [List.getElem?_drop, show p + (i + 1 - p) = i + 1 by omega]; exact hv, hvt, fun k hk w hw => by
    rw [List.getElem?_drop] at hw
    exact hb (p + k) w (by omega) (by omega) hw⟩
  have hl : i + 1 < zs.length := (List.getElem?_eq_some_iff.1 hv).1
  have hq : V8 (zs.drop p) := fun w hw => hz.2 w (List.mem_of_mem_drop hw)
  have hll : (zs.drop p).length ≤ 64 := by rw [List.length_drop]; have := hz.1.2; omega
  have e0 : nArg (p : Int) 1 t (zs.drop p) (i + 1 - p) = ((i : Int) * (v - u) + t - u, v - u) := by
    unfold nArg
    rw [if_neg (by omega), List.getElem?_drop, List.getElem?_drop, show p + (i + 1 - p) = i + 1 by omega, show p + (i + 1 - p - 1) = i by omega, hv, hu]
    have : ((i + 1 - p : Nat) : Int) = (i : Int) + 1 - (p : Int) := by omega
    simp only [Option.getD_some, this]
    congr 1
    have : ((p : Int) + 1 * ((i : Int) + 1 - (p : Int))) = (i : Int) + 1 := by omega
    rw [this, Int.add_mul]; omega
  have hpl := nArg_place (p := (p : Int)) (s := 1) hq (.inl rfl) ⟨by omega, by have := hz.1.2; omega⟩ hll hf
  rw [e0] at hpl
  obtain ⟨e, d1, d2, n1, n2⟩ := hpl
  refine ⟨?_, d1, d2, n1, n2⟩
  rw [FX_way]
  unfold br
  rw [hf]
  exact congrArg some e
end Go.Proofs.Ytdimmnoflenfhaa
/-
  Layer 5, the reference: the first bright place.
-/
namespace Go.Proofs.Ytdimmnoflenfhaa
open Go.RowKit Go.Shelf
set_option linter.unusedVariables false
set_option linter.unusedSimpArgs false

set_option maxHeartbeats 1000000 in
theorem rmade (n d : Int) (hd : 1 ≤ d) (hd2 : d ≤ 255) (n1 : -40000 ≤ n) (n2 : n ≤ 40000) (w : World) :
    Calls Try.prog 89 #[.int .i64 n, .int .i64 d] w fun e w' => e = .returned (.agg #[.int .i64 (fn (mkR n d)), .int .i64 (fd (mkR n d))]) ∧ Below w.heap.size w w' := by
  have HM := Lib.hid fun w => rmake_q n d w (by omega) (by omega) (by omega) (by omega) (by omega)
  have hf := mkR_fits' n d (by omega) (by omega) (by omega) (by omega) (by omega)
  rw [rn_yes hf, rd_yes hf] at HM
  clear hf
  go_enter Try.func89, Try.ntmps89
  go_wp2_with (go_at_call 112; (with_reducible refine (HM.out _).mono ?_); rintro e w1 ⟨rfl, hb⟩; (first | ((with_reducible have k0 := Blk.later hb (Blk.new rfl)); skip; obtain ⟨a0, b0⟩ := k0.read; have zl := k0.lt) | ((try (have zk := k0.lt; (first | ((with_reducible refine Blk.keepG hb k0 (fun h => ?_) ?_); (focus ((repeat' (first | (with_reducible assumption) | ((with_reducible refine Blk.new ?_); first | rfl | (simp; done)) | (with_reducible refine Blk.later (by assumption) ?_) | (with_reducible refine Blk.alloc ?_) | (with_reducible refine Blk.drewN ?_) | (with_reducible refine Blk.drew ?_) | (with_reducible refine Blk.other ?_ (by first | omega | (simp; done) | (simp; omega))))); done)); clear k0; intro k0) | (with_reducible replace k0 := Blk.later hb (Blk.set (Blk.set k0))) | (with_reducible replace k0 := Blk.later hb (Blk.set k0))); clear a0 b0; obtain ⟨a0, b0⟩ := k0.read; have zl := k0.lt)))))
  exact bodyPost_ret (v := .agg #[.int .i64 (fn (mkR n d)), .int .i64 (fd (mkR n d))]) (by simp only [results, Try.results89]; go_simp) rfl ⟨rfl, by (repeat' (first | (with_reducible exact Below.refl _ _) | (with_reducible assumption) | (with_reducible refine belowThru ?_ (by assumption)) | (with_reducible refine belowAlloc ?_) | (with_reducible refine Below.setCell ?_ (by first | omega | (simp; done) | (simp; omega)) _) | (with_reducible refine Below.drew ?_) | (with_reducible refine below_drewN ?_ _)))⟩
theorem ret_f {P : Program} {fn : Func} {R : Ending → World → Prop} {a : Act} {W : World} {v : Value} {b2 : Nat} {c2 : Array Value} {t : TypeId} (k2 : Blk W b2 c2 t)
    (h : (∀ i : Nat, W.cell? ⟨b2, i, none⟩ = c2[i]?) → (results fn a.tmps).run P W = .ok v W) (hd : a.defers = []) (hR : R (.returned v) W) : bodyPost P fn R .ret a W :=
  bodyPost_ret (h k2.cells) hd hR
set_option maxRecDepth 100000 in
set_option maxHeartbeats 8000000 in
theorem rfirst_at (a : Option Addr) (n c : Nat) (zs : List Int) (t v : Int) (p : Nat) (A B : Int) (hp : p < n) (hn : n ≤ 64) (hv : zs[p]? = some v) (hvt : t ≤ v) (w : World) (hR : Row w a n (iv zs)) (HM : Hid (∀ w, Calls Try.prog 89 #[.int .i64 p, .int .i64 1] w fun e w' => e = .returned (.agg #[.int .i64 A, .int .i64 B]) ∧ Below w.heap.size w w')) :
    Calls Try.prog 53 #[.slice a n c, .int .i64 t, .int .i64 p] w fun e w' => e = .returned (.tuple #[.agg #[.int .i64 A, .int .i64 B], .bool true]) ∧ Below w.heap.size w w' := by
  obtain ⟨bb, oo, v', e1, hbb, hv', cv⟩ := hR.int (show p < n by omega)
  cases e1
  obtain rfl : v' = v := Option.some.inj (hv'.symm.trans hv)
  have q1 : (0 : Int) ≤ (p : Int) := by omega
  have q2 : (p : Int) < (n : Int) := by omega
  have hd : decide (t ≤ v') = true := decide_eq_true hvt
  clear hv hv' hR
  go_enter Try.func53, Try.ntmps53
  go_wp2_with fail
  refine (HM.out _).mono ?_
  rintro e w1 ⟨rfl, hb⟩
  have k0 : Blk w1 w.heap.size #[.int .i64 0, .int .i64 0] 23 := Blk.later hb (by (repeat' (first | (with_reducible assumption) | ((with_reducible refine Blk.new ?_); first | rfl | (simp; done)) | (with_reducible refine Blk.later (by assumption) ?_) | (with_reducible refine Blk.alloc ?_) | (with_reducible refine Blk.drewN ?_) | (with_reducible refine Blk.drew ?_) | (with_reducible refine Blk.other ?_ (by first | omega | (simp; done) | (simp; omega))))))
  have hB : Below w.heap.size w w1 := by (repeat' (first | (with_reducible exact Below.refl _ _) | (with_reducible assumption) | (with_reducible refine belowThru ?_ (by assumption)) | (with_reducible refine belowAlloc ?_) | (with_reducible refine Below.setCell ?_ (by first | omega | (simp; done) | (simp; omega)) _) | (with_reducible refine Below.drew ?_) | (with_reducible refine below_drewN ?_ _)))
  clear hb
  obtain ⟨a0, b0⟩ := k0.read
  go_wp2
  have k0s := Blk.set2 (u := .int .i64 A) (v := .int .i64 B) k0
  exact ret_f k0s (v := .tuple #[.agg #[.int .i64 A, .int .i64 B], .bool true]) (fun ra => by clear a0 b0; simp only [results, Try.results53]; go_simp) rfl ⟨rfl, by (repeat' (first | (with_reducible exact Below.refl _ _) | (with_reducible assumption) | (with_reducible refine belowThru ?_ (by assumption)) | (with_reducible refine belowAlloc ?_) | (with_reducible refine Below.setCell ?_ (by first | omega | (simp; done) | (simp; omega)) _) | (with_reducible refine Below.drew ?_) | (with_reducible refine below_drewN ?_ _)))⟩
set_option maxRecDepth 100000 in
set_option maxHeartbeats 16000000 in
theorem rfirst_in (a : Option Addr) (n c : Nat) (zs : List Int) (t : Int) (p : Nat) (hp : p < n) (hz : okP zs) (hl : zs.length = n) (w : World) (hR : Row w a n (iv zs)) (h0 : ∀ v, zs[p]? = some v → v < t) (ht : okT t) :
    Calls Try.prog 53 #[.slice a n c, .int .i64 t, .int .i64 p] w fun e w' => e = .returned (.tuple #[.agg #[.int .i64 (oN (FX t zs p)), .int .i64 (oD (FX t zs p))], .bool (FX t zs p).isSome]) ∧ Below w.heap.size w w' := by
  have hn : n ≤ 64 := by have := hz.1.2; omega
  have HR := Lib.hid hR
  have HH := Lib.hid (fun (i : Nat) (u v : Int) => FX_hit (t := t) (p := p) (i := i) (u := u) (v := v) hz)
  have HN := Lib.hid (fun hb => FX_off (t := t) (zs := zs) (p := p) hb)
  have HZ := Lib.hid hz
  have H0 := Lib.hid h0
  have HL := Lib.hid hl
  obtain ⟨v0, hv0⟩ : ∃ v, zs[p]? = some v := ⟨_, List.getElem?_eq_getElem (by omega)⟩
  obtain ⟨bb, oo, v', e1, hbb, hv', cv⟩ := hR.int (show p < n by omega)
  cases e1
  have q1 : (0 : Int) ≤ (p : Int) := by omega
  have q2 : (p : Int) < (n : Int) := by omega
  have hd : decide (t ≤ v') = false := by have := h0 v' hv'; simp; omega
  clear hv' hR h0 hz hv0 hl
  go_enter Try.func53, Try.ntmps53
  go_wp2_with fail
  clear cv hd
  obtain ⟨Wp, hWp⟩ : ∃ Wp, w.alloc (.cells #[.int .i64 0, .int .i64 0] 23) = Wp := ⟨_, rfl⟩
  have k0 : Blk Wp w.heap.size #[.int .i64 0, .int .i64 0] 23 := by rw [← hWp]; exact Blk.new rfl
  have hB : Below w.heap.size w Wp := by rw [← hWp]; (repeat' (first | (with_reducible exact Below.refl _ _) | (with_reducible assumption) | (with_reducible refine belowThru ?_ (by assumption)) | (with_reducible refine belowAlloc ?_) | (with_reducible refine Below.setCell ?_ (by first | omega | (simp; done) | (simp; omega)) _) | (with_reducible refine Below.drew ?_) | (with_reducible refine below_drewN ?_ _)))
  rw [hWp]; clear hWp
  go_loopw [8] (fun i wr => ∃ k : Nat, p ≤ k ∧ k < n ∧ i = .int .i64 k ∧ Hid (∀ (j : Nat) (w : Int), p ≤ j → j ≤ k → zs[j]? = some w → w < t) ∧ Wp = wr) (fun i _ => n - (intOf i).toNat)
  case atStart => exact ⟨p, Nat.le_refl _, hp, rfl, Lib.hid (fun j w hj hj' hw => by
    obtain rfl : j = p := by omega
    exact H0.out w hw), rfl⟩
  case round =>
    obtain ⟨k, hpk, hk, rfl, HB, rfl⟩ := hrel
    have r0 : (0 : Int) ≤ (k : Int) := by omega
    have r1 : (k : Int) < (n : Int) := by omega
    have w1 : IntKind.i64.wrap ((k : Int) + 1) = ((k + 1 : Nat) : Int) := by push_cast; exact IntWalk.i64_in _ (by omega)
    by_cases hlt : k + 1 < n
    · have r2 : ((k + 1 : Nat) : Int) < (n : Int) := by omega
      have r3 : (0 : Int) ≤ ((k + 1 : Nat) : Int) := by omega
      obtain ⟨bb, oo, v, e1, hbb, hv, cv⟩ := (HR.out.later hB).int (show k + 1 < n by omega)
      cases e1
      obtain ⟨bb2, oo2, u, e2, hbb2, hu, cu⟩ := (HR.out.later hB).int (show k < n by omega)
      cases e2
      by_cases hvt : t ≤ v
      · obtain ⟨e, d1, d2, n1, n2⟩ := HH.out k u v hpk hu hv HB.out hvt
        have hd : decide (t ≤ v) = true := decide_eq_true hvt
        have w2 : IntKind.i64.wrap (v - u) = v - u := IntWalk.i64_in _ (by omega)
        have b0 := HZ.out.2 u (List.mem_of_getElem? hu)
        have w3 : IntKind.i64.wrap ((k : Int) * (v - u)) = (k : Int) * (v - u) := IntWalk.i64_in _ (by have := ht.1; have := ht.2; omega)
        have w4 : IntKind.i64.wrap ((k : Int) * (v - u) + t) = (k : Int) * (v - u) + t := IntWalk.i64_in _ (by have := ht.1; have := ht.2; omega)
        have w5 : IntKind.i64.wrap ((k : Int) * (v - u) + t - u) = (k : Int) * (v - u) + t - u := IntWalk.i64_in _ (by omega)
        have HM := Lib.hid (rmade ((k : Int) * (v - u) + t - u) (v - u) d1 d2 n1 n2)
        have He := Lib.hid e
        clear hv hu e b0 d1 d2 n1 n2 hvt
        go_wp2_with fail
        go_quiet (fail)
        go_wp2_with fail
        refine (HM.out _).mono ?_
        rintro e w9 ⟨rfl, hb⟩
        replace k0 := Blk.later hb k0
        replace hB : Below w.heap.size w w9 := belowThru (by (repeat' (first | (with_reducible exact Below.refl _ _) | (with_reducible assumption) | (with_reducible refine belowThru ?_ (by assumption)) | (with_reducible refine belowAlloc ?_) | (with_reducible refine Below.setCell ?_ (by first | omega | (simp; done) | (simp; omega)) _) | (with_reducible refine Below.drew ?_) | (with_reducible refine below_drewN ?_ _)))) hb
        clear hb cv cu
        obtain ⟨a0, b0⟩ := k0.read
        go_wp2
        have k0s := Blk.set2 (u := .int .i64 (fn (mkR ((k : Int) * (v - u) + t - u) (v - u)))) (v := .int .i64 (fd (mkR ((k : Int) * (v - u) + t - u) (v - u)))) k0
        exact ret_f k0s (v := .tuple #[.agg #[.int .i64 (fn (mkR ((k : Int) * (v - u) + t - u) (v - u))), .int .i64 (fd (mkR ((k : Int) * (v - u) + t - u) (v - u)))], .bool true]) (fun ra => by clear a0 b0; simp only [results, Try.results53]; go_simp) rfl ⟨by rw [He.out]; rfl, by (repeat' (first | (with_reducible exact Below.refl _ _) | (with_reducible assumption) | (with_reducible refine belowThru ?_ (by assumption)) | (with_reducible refine belowAlloc ?_) | (with_reducible refine Below.setCell ?_ (by first | omega | (simp; done) | (simp; omega)) _) | (with_reducible refine Below.drew ?_) | (with_reducible refine below_drewN ?_ _)))⟩
      · have hd : decide (t ≤ v) = false := decide_eq_false hvt
        have HV := Lib.hid hv
        have HT := Lib.hid hvt
        clear hv hu cu hvt
        go_wp2
        go_roundw
        case rel => exact ⟨k + 1, by omega, by omega, by first | trivial | rfl, Lib.hid (fun j x hj hj' hx => by
          by_cases hjk : j ≤ k
          · exact HB.out j x hj hjk hx
          · obtain rfl : j = k + 1 := by omega
            rw [HV.out] at hx; cases hx
            have := HT.out; omega), by first | trivial | rfl⟩
        case measure => simp [intOf]; omega
    · have r2 : ¬ ((k + 1 : Nat) : Int) < (n : Int) := by omega
      have hd2 : decide (((k + 1 : Nat) : Int) < (n : Int)) = false := decide_eq_false r2
      have e := Lib.hid (HN.out (fun j x hj hx => HB.out j x hj (by have := (List.getElem?_eq_some_iff.1 hx).1; have := HL.out; omega) hx))
      obtain ⟨a0, b0⟩ := k0.read
      go_wp2
      have k0s := Blk.set2 (u := .int .i64 0) (v := .int .i64 0) k0
      exact ret_f k0s (v := .tuple #[.agg #[.int .i64 0, .int .i64 0], .bool false]) (fun ra => by clear a0 b0; simp only [results, Try.results53]; go_simp) rfl ⟨by rw [e.out]; rfl, by (repeat' (first | (with_reducible exact Below.refl _ _) | (with_reducible assumption) | (with_reducible refine belowThru ?_ (by assumption)) | (with_reducible refine belowAlloc ?_) | (with_reducible refine Below.setCell ?_ (by first | omega | (simp; done) | (simp; omega)) _) | (with_reducible refine Below.drew ?_) | (with_reducible refine below_drewN ?_ _)))⟩
end Go.Proofs.Ytdimmnoflenfhaa
/-
  Layer 5, the reference: First answers as the code does.
-/
namespace Go.Proofs.Ytdimmnoflenfhaa
open Go.RowKit
set_option linter.unusedVariables false

theorem asQ_no {zs : List Int} {t p nz : Int} (h : ¬ okP zs) : asQ zs t p nz = 50 := if_pos h
theorem asQ_arg {zs : List Int} {t p nz : Int} (h : okP zs) (k : ¬ (okT t ∧ inL zs p ∧ okN nz)) : asQ zs t p nz = 2 := by unfold asQ; rw [if_neg (fun g => g h), if_pos k]
theorem asQ_ok {zs : List Int} {t p nz : Int} (h : okP zs) (k : okT t ∧ inL zs p ∧ okN nz) : asQ zs t p nz = 0 := by unfold asQ; rw [if_neg (fun g => g h), if_neg (fun g => g k)]
theorem mkR_int (k : Int) : mkR k 1 = (k : Rat) := (mkR_of (k : Rat) k 1 (by decide) (by rw [show ((1 : Int) : Rat) = 1 from rfl, Rat.mul_one])).symm
theorem rfirstOf_any (a : Option Addr) (n c : Nat) (zs : List Int) (t : Int) (p : Nat) (hp : p < n) (hz : okP zs) (hl : zs.length = n) (ht : okT t) (w : World) (hR : Row w a n (iv zs)) :
    Calls Try.prog 53 #[.slice a n c, .int .i64 t, .int .i64 p] w fun e w' => e = .returned (.tuple #[.agg #[.int .i64 (oN (FX t zs p)), .int .i64 (oD (FX t zs p))], .bool (FX t zs p).isSome]) ∧ Below w.heap.size w w' := by
  obtain ⟨v, hv⟩ : ∃ v, zs[p]? = some v := ⟨_, List.getElem?_eq_getElem (by omega)⟩
  have hn : n ≤ 64 := by have := hz.1.2; omega
  by_cases hvt : t ≤ v
  · have h := rfirst_at a n c zs t v p _ _ hp hn hv hvt w hR (Lib.hid (rmade (p : Int) 1 (by decide) (by decide) (by omega) (by omega)))
    rw [FX_at hv hvt, ← mkR_int]
    exact h
  · exact rfirst_in a n c zs t p hp hz hl w hR (fun x hx => by rw [hv] at hx; cases hx; omega) ht
end Go.Proofs.Ytdimmnoflenfhaa
/-
  Layer 5, the reference: where the last bright place lies, as it reckons it.
-/
namespace Go.Proofs.Ytdimmnoflenfhaa
set_option linter.unusedVariables false

theorem takeRev_get {zs : List Int} {p j : Nat} (hp : p < zs.length) (hj : j ≤ p) : (zs.take (p + 1)).reverse[j]? = zs[p - j]? := by
  have hl : (zs.take (p + 1)).length = p + 1 := by rw [List.length_take]; omega
  rw [List.getElem?_reverse (by omega), hl, List.getElem?_take_of_lt (by omega)]
  congr 1
theorem LX_at {t : Int} {zs : List Int} {p : Nat} {v : Int} (hv : zs[p]? = some v) (hvt : t ≤ v) : LX t zs p = some ((p : Int) : Rat) := by
  have hp : p < zs.length := (List.getElem?_eq_some_iff.1 hv).1
  have hf : fb t (zs.take (p + 1)).reverse = some 0 := fb_some.2 ⟨v, by rw [takeRev_get hp (by omega)]; exact hv, hvt, fun k hk => absurd hk (by omega)⟩
  rw [LX_way]
  unfold br
  rw [hf]
  show some (((p : Int) : Rat) + ((-1 : Int) : Rat) * pl t (zs.take (p + 1)).reverse 0) = _
  rw [pl_zero, Rat.mul_zero, Rat.add_zero]
theorem LX_off {t : Int} {zs : List Int} {p : Nat} (hb : ∀ (j : Nat) (w : Int), j ≤ p → zs[j]? = some w → w < t) : LX t zs p = none := by
  have hf : fb t (zs.take (p + 1)).reverse = none := fb_none.2 fun u hu => by
    obtain ⟨k, hk⟩ := List.mem_iff_getElem?.1 (List.mem_reverse.1 hu)
    have hlt := (List.getElem?_eq_some_iff.1 hk).1
    rw [List.length_take] at hlt
    rw [List.getElem?_take_of_lt (by omega)] at hk
    exact hb k u (by omega) hk
  unfold LX br
  rw [hf]; rfl
theorem LX_hit {t : Int} {zs : List Int} {p i : Nat} {u v : Int} (hz : okP zs) (hpl : p < zs.length) (hi : i + 1 ≤ p) (hu : zs[i + 1]? = some u) (hv : zs[i]? = some v) (hb : ∀ (j : Nat) (w : Int), i < j → j ≤ p → zs[j]? = some w → w < t) (hvt : t ≤ v) :
    LX t zs p = some (mkR (((i + 1 : Nat) : Int) * (v - u) - (t - u)) (v - u)) ∧ 1 ≤ v - u ∧ v - u ≤ 255 ∧ -40000 ≤ ((i + 1 : Nat) : Int) * (v - u) - (t - u) ∧ ((i + 1 : Nat) : Int) * (v - u) - (t - u) ≤ 40000 := by
  have hf : fb t (zs.take (p + 1)).reverse = some (p - i) := fb_some.2 ⟨v, by rw [takeRev_get hpl (by omega), show p - (p - i) = i by omega]; exact hv, hvt, fun k hk w hw => by
    rw [takeRev_get hpl (by omega)] at hw
    exact hb (p - k) w (by omega) (by omega) hw⟩
  have hq : V8 (zs.take (p + 1)).reverse := fun w hw => hz.2 w (List.mem_of_mem_take (List.mem_reverse.1 hw))
  have hll : (zs.take (p + 1)).reverse.length ≤ 64 := by rw [List.length_reverse, List.length_take]; have := hz.1.2; omega
  have e0 : nArg (p : Int) (-1) t (zs.take (p + 1)).reverse (p - i) = (((i + 1 : Nat) : Int) * (v - u) - (t - u), v - u) := by
    unfold nArg
    rw [if_neg (by omega), takeRev_get hpl (by omega), takeRev_get hpl (by omega), show p - (p - i) = i by omega, show p - (p - i - 1) = i + 1 by omega, hv, hu]
    have h1 : ((p - i : Nat) : Int) = (p : Int) - (i : Int) := by omega
    simp only [Option.getD_some, h1]
    congr 1
    have h2 : ((p : Int) + -1 * ((p : Int) - (i : Int))) = (i : Int) := by omega
    have h3 : ((i + 1 : Nat) : Int) = (i : Int) + 1 := by omega
    rw [h2, h3, Int.add_mul]; omega
  have hpl2 := nArg_place (p := (p : Int)) (s := -1) hq (.inr rfl) ⟨by omega, by have := hz.1.2; omega⟩ hll hf
  rw [e0] at hpl2
  obtain ⟨e, d1, d2, n1, n2⟩ := hpl2
  refine ⟨?_, d1, d2, n1, n2⟩
  rw [LX_way]
  unfold br
  rw [hf]
  exact congrArg some e
end Go.Proofs.Ytdimmnoflenfhaa
/-
  Layer 5, the reference: the last bright place.
-/
namespace Go.Proofs.Ytdimmnoflenfhaa
open Go.RowKit Go.Shelf
set_option linter.unusedVariables false
set_option linter.unusedSimpArgs false

set_option maxRecDepth 100000 in
set_option maxHeartbeats 8000000 in
theorem rlast_at (a : Option Addr) (n c : Nat) (zs : List Int) (t v : Int) (p : Nat) (A B : Int) (hp : p < n) (hn : n ≤ 64) (hv : zs[p]? = some v) (hvt : t ≤ v) (w : World) (hR : Row w a n (iv zs)) (HM : Hid (∀ w, Calls Try.prog 89 #[.int .i64 p, .int .i64 1] w fun e w' => e = .returned (.agg #[.int .i64 A, .int .i64 B]) ∧ Below w.heap.size w w')) :
    Calls Try.prog 54 #[.slice a n c, .int .i64 t, .int .i64 p] w fun e w' => e = .returned (.tuple #[.agg #[.int .i64 A, .int .i64 B], .bool true]) ∧ Below w.heap.size w w' := by
  obtain ⟨bb, oo, v', e1, hbb, hv', cv⟩ := hR.int (show p < n by omega)
  cases e1
  obtain rfl : v' = v := Option.some.inj (hv'.symm.trans hv)
  have q1 : (0 : Int) ≤ (p : Int) := by omega
  have q2 : (p : Int) < (n : Int) := by omega
  have hd : decide (t ≤ v') = true := decide_eq_true hvt
  clear hv hv' hR
  go_enter Try.func54, Try.ntmps54
  go_wp2_with fail
  refine (HM.out _).mono ?_
  rintro e w1 ⟨rfl, hb⟩
  have k0 : Blk w1 w.heap.size #[.int .i64 0, .int .i64 0] 23 := Blk.later hb (by (repeat' (first | (with_reducible assumption) | ((with_reducible refine Blk.new ?_); first | rfl | (simp; done)) | (with_reducible refine Blk.later (by assumption) ?_) | (with_reducible refine Blk.alloc ?_) | (with_reducible refine Blk.drewN ?_) | (with_reducible refine Blk.drew ?_) | (with_reducible refine Blk.other ?_ (by first | omega | (simp; done) | (simp; omega))))))
  have hB : Below w.heap.size w w1 := by (repeat' (first | (with_reducible exact Below.refl _ _) | (with_reducible assumption) | (with_reducible refine belowThru ?_ (by assumption)) | (with_reducible refine belowAlloc ?_) | (with_reducible refine Below.setCell ?_ (by first | omega | (simp; done) | (simp; omega)) _) | (with_reducible refine Below.drew ?_) | (with_reducible refine below_drewN ?_ _)))
  clear hb
  obtain ⟨a0, b0⟩ := k0.read
  go_wp2
  have k0s := Blk.set2 (u := .int .i64 A) (v := .int .i64 B) k0
  exact ret_f k0s (v := .tuple #[.agg #[.int .i64 A, .int .i64 B], .bool true]) (fun ra => by clear a0 b0; simp only [results, Try.results54]; go_simp) rfl ⟨rfl, by (repeat' (first | (with_reducible exact Below.refl _ _) | (with_reducible assumption) | (with_reducible refine belowThru ?_ (by assumption)) | (with_reducible refine belowAlloc ?_) | (with_reducible refine Below.setCell ?_ (by first | omega | (simp; done) | (simp; omega)) _) | (with_reducible refine Below.drew ?_) | (with_reducible refine below_drewN ?_ _)))⟩
set_option maxRecDepth 100000 in
set_option maxHeartbeats 16000000 in
theorem rlast_in (a : Option Addr) (n c : Nat) (zs : List Int) (t : Int) (p : Nat) (hp : p < n) (hz : okP zs) (hl : zs.length = n) (w : World) (hR : Row w a n (iv zs)) (h0 : ∀ v, zs[p]? = some v → v < t) (ht : okT t) :
    Calls Try.prog 54 #[.slice a n c, .int .i64 t, .int .i64 p] w fun e w' => e = .returned (.tuple #[.agg #[.int .i64 (oN (LX t zs p)), .int .i64 (oD (LX t zs p))], .bool (LX t zs p).isSome]) ∧ Below w.heap.size w w' := by
  have hn : n ≤ 64 := by have := hz.1.2; omega
  have HR := Lib.hid hR
  have HH := Lib.hid (fun (i : Nat) (u v : Int) => LX_hit (t := t) (p := p) (i := i) (u := u) (v := v) hz (by omega))
  have HN := Lib.hid (fun hb => LX_off (t := t) (zs := zs) (p := p) hb)
  have HZ := Lib.hid hz
  have H0 := Lib.hid h0
  have HL := Lib.hid hl
  obtain ⟨v0, hv0⟩ : ∃ v, zs[p]? = some v := ⟨_, List.getElem?_eq_getElem (by omega)⟩
  obtain ⟨bb, oo, v', e1, hbb, hv', cv⟩ := hR.int (show p < n by omega)
  cases e1
  have q1 : (0 : Int) ≤ (p : Int) := by omega
  have q2 : (p : Int) < (n : Int) := by omega
  have hd : decide (t ≤ v') = false := by have := h0 v' hv'; simp; omega
  clear hv' hR h0 hz hv0 hl
  go_enter Try.func54, Try.ntmps54
  go_wp2_with fail
  clear cv hd
  obtain ⟨Wp, hWp⟩ : ∃ Wp, w.alloc (.cells #[.int .i64 0, .int .i64 0] 23) = Wp := ⟨_, rfl⟩
  have k0 : Blk Wp w.heap.size #[.int .i64 0, .int .i64 0] 23 := by rw [← hWp]; exact Blk.new rfl
  have hB : Below w.heap.size w Wp := by rw [← hWp]; (repeat' (first | (with_reducible exact Below.refl _ _) | (with_reducible assumption) | (with_reducible refine belowThru ?_ (by assumption)) | (with_reducible refine belowAlloc ?_) | (with_reducible refine Below.setCell ?_ (by first | omega | (simp; done) | (simp; omega)) _) | (with_reducible refine Below.drew ?_) | (with_reducible refine below_drewN ?_ _)))
  rw [hWp]; clear hWp
  go_loopw [8] (fun i wr => ∃ m : Nat, m ≤ p ∧ i = .int .i64 m ∧ Hid (∀ (j : Nat) (w : Int), m ≤ j → j ≤ p → zs[j]? = some w → w < t) ∧ Wp = wr) (fun i _ => (intOf i).toNat)
  case atStart => exact ⟨p, Nat.le_refl _, rfl, Lib.hid (fun j w hj hj' hw => by
    obtain rfl : j = p := by omega
    exact H0.out w hw), rfl⟩
  case round =>
    obtain ⟨m, hm, rfl, HB, rfl⟩ := hrel
    have r0 : (0 : Int) ≤ (m : Int) := by omega
    have r1 : (m : Int) < (n : Int) := by omega
    by_cases hlt : 0 < m
    · obtain ⟨k, hk⟩ : ∃ k, m = k + 1 := ⟨m - 1, by omega⟩
      have r2 : (k : Int) < (n : Int) := by omega
      have r3 : (0 : Int) ≤ (k : Int) := by omega
      have r4 : (0 : Int) < (m : Int) := by omega
      have w1 : IntKind.i64.wrap ((m : Int) - 1) = (k : Int) := by rw [show (m : Int) - 1 = (k : Int) by omega]; exact IntWalk.i64_in _ (by omega)
      obtain ⟨bb, oo, v, e1, hbb, hv, cv⟩ := (HR.out.later hB).int (show k < n by omega)
      cases e1
      obtain ⟨bb2, oo2, u, e2, hbb2, hu, cu⟩ := (HR.out.later hB).int (show m < n by omega)
      cases e2
      by_cases hvt : t ≤ v
      · obtain ⟨e, d1, d2, n1, n2⟩ := HH.out k u v (by omega) (by rw [← hk]; exact hu) hv (fun j x hj hj' hx => HB.out j x (by omega) hj' hx) hvt
        rw [show ((k + 1 : Nat) : Int) = (m : Int) by omega] at e n1 n2
        have hd : decide (t ≤ v) = true := decide_eq_true hvt
        have w2 : IntKind.i64.wrap (v - u) = v - u := IntWalk.i64_in _ (by omega)
        have b0 := HZ.out.2 u (List.mem_of_getElem? hu)
        have w3 : IntKind.i64.wrap ((m : Int) * (v - u)) = (m : Int) * (v - u) := IntWalk.i64_in _ (by have := ht.1; have := ht.2; omega)
        have w4 : IntKind.i64.wrap (t - u) = t - u := IntWalk.i64_in _ (by have := ht.1; have := ht.2; omega)
        have w5 : IntKind.i64.wrap ((m : Int) * (v - u) - (t - u)) = (m : Int) * (v - u) - (t - u) := IntWalk.i64_in _ (by omega)
        have HM := Lib.hid (rmade ((m : Int) * (v - u) - (t - u)) (v - u) d1 d2 n1 n2)
        have He := Lib.hid e
        clear hv hu e b0 d1 d2 n1 n2 hvt hk
        go_wp2_with fail
        go_quiet (fail)
        go_wp2_with fail
        refine (HM.out _).mono ?_
        rintro e w9 ⟨rfl, hb⟩
        replace k0 := Blk.later hb k0
        replace hB : Below w.heap.size w w9 := belowThru (by (repeat' (first | (with_reducible exact Below.refl _ _) | (with_reducible assumption) | (with_reducible refine belowThru ?_ (by assumption)) | (with_reducible refine belowAlloc ?_) | (with_reducible refine Below.setCell ?_ (by first | omega | (simp; done) | (simp; omega)) _) | (with_reducible refine Below.drew ?_) | (with_reducible refine below_drewN ?_ _)))) hb
        clear hb cv cu
        obtain ⟨a0, b0⟩ := k0.read
        go_wp2
        have k0s := Blk.set2 (u := .int .i64 (fn (mkR ((m : Int) * (v - u) - (t - u)) (v - u)))) (v := .int .i64 (fd (mkR ((m : Int) * (v - u) - (t - u)) (v - u)))) k0
        exact ret_f k0s (v := .tuple #[.agg #[.int .i64 (fn (mkR ((m : Int) * (v - u) - (t - u)) (v - u))), .int .i64 (fd (mkR ((m : Int) * (v - u) - (t - u)) (v - u)))], .bool true]) (fun ra => by clear a0 b0; simp only [results, Try.results54]; go_simp) rfl ⟨by rw [He.out]; rfl, by (repeat' (first | (with_reducible exact Below.refl _ _) | (with_reducible assumption) | (with_reducible refine belowThru ?_ (by assumption)) | (with_reducible refine belowAlloc ?_) | (with_reducible refine Below.setCell ?_ (by first | omega | (simp; done) | (simp; omega)) _) | (with_reducible refine Below.drew ?_) | (with_reducible refine below_drewN ?_ _)))⟩
      · have hd : decide (t ≤ v) = false := decide_eq_false hvt
        have HV := Lib.hid hv
        have HT := Lib.hid hvt
        clear hv hu cu hvt
        go_wp2
        go_roundw
        case rel => exact ⟨k, by omega, by first | trivial | rfl, Lib.hid (fun j x hj hj' hx => by
          by_cases hjk : m ≤ j
          · exact HB.out j x hjk hj' hx
          · obtain rfl : j = k := by omega
            rw [HV.out] at hx; cases hx
            have := HT.out; omega), by first | trivial | rfl⟩
        case measure => simp [intOf]; omega
    · have r2 : ¬ (0 : Int) < (m : Int) := by omega
      have hd2 : decide ((0 : Int) < (m : Int)) = false := decide_eq_false r2
      have e := Lib.hid (HN.out (fun j x hj hx => HB.out j x (by omega) hj hx))
      obtain ⟨a0, b0⟩ := k0.read
      go_wp2
      have k0s := Blk.set2 (u := .int .i64 0) (v := .int .i64 0) k0
      exact ret_f k0s (v := .tuple #[.agg #[.int .i64 0, .int .i64 0], .bool false]) (fun ra => by clear a0 b0; simp only [results, Try.results54]; go_simp) rfl ⟨by rw [e.out]; rfl, by (repeat' (first | (with_reducible exact Below.refl _ _) | (with_reducible assumption) | (with_reducible refine belowThru ?_ (by assumption)) | (with_reducible refine belowAlloc ?_) | (with_reducible refine Below.setCell ?_ (by first | omega | (simp; done) | (simp; omega)) _) | (with_reducible refine Below.drew ?_) | (with_reducible refine below_drewN ?_ _)))⟩
end Go.Proofs.Ytdimmnoflenfhaa
/-
  Layer 5, the reference: Last answers as the code does.
-/
namespace Go.Proofs.Ytdimmnoflenfhaa
open Go.RowKit
set_option linter.unusedVariables false

theorem rlastOf_any (a : Option Addr) (n c : Nat) (zs : List Int) (t : Int) (p : Nat) (hp : p < n) (hz : okP zs) (hl : zs.length = n) (ht : okT t) (w : World) (hR : Row w a n (iv zs)) :
    Calls Try.prog 54 #[.slice a n c, .int .i64 t, .int .i64 p] w fun e w' => e = .returned (.tuple #[.agg #[.int .i64 (oN (LX t zs p)), .int .i64 (oD (LX t zs p))], .bool (LX t zs p).isSome]) ∧ Below w.heap.size w w' := by
  obtain ⟨v, hv⟩ : ∃ v, zs[p]? = some v := ⟨_, List.getElem?_eq_getElem (by omega)⟩
  have hn : n ≤ 64 := by have := hz.1.2; omega
  by_cases hvt : t ≤ v
  · have h := rlast_at a n c zs t v p _ _ hp hn hv hvt w hR (Lib.hid (rmade (p : Int) 1 (by decide) (by decide) (by omega) (by omega)))
    rw [LX_at hv hvt, ← mkR_int]
    exact h
  · exact rlast_in a n c zs t p hp hz hl w hR (fun x hx => by rw [hv] at hx; cases hx; omega) ht
end Go.Proofs.Ytdimmnoflenfhaa
/-
  Layer 5, the reference: upper and lower profiles; lists that are compared and copied.
-/
namespace Go.Proofs.Ytdimmnoflenfhaa
open Go.RowKit Go.Shelf
set_option linter.unusedVariables false
set_option linter.unusedSimpArgs false

/-! ### Lists that are compared, and copied -/
set_option maxHeartbeats 2000000 in
theorem sameInts_any (a b : Option Addr) (n m c d : Nat) (xs ys : List Int) (hn : n ≤ maxLen) (w : World) (hR : Row w a n (iv xs)) (hS : Row w b m (iv ys)) :
    Calls Try.prog 28 #[.slice a n c, .slice b m d] w fun e w' => e = .returned (.bool (decide (xs = ys))) ∧ Below w.heap.size w w' := by
  unfold maxLen at hn
  have hx : xs.length = n := by have := hR.1; rwa [iv_length] at this
  have hy : ys.length = m := by have := hS.1; rwa [iv_length] at this
  by_cases hl : n = m
  · subst hl
    have HX := Lib.hid hx; have HY := Lib.hid hy; have HR := Lib.hid hR; have HS := Lib.hid hS
    clear hx hy hR hS
    go_enter Try.func28, Try.ntmps28
    go_wp2
    go_loopw [5] (fun i wr => ∃ k : Nat, k ≤ n ∧ i = .int .i64 k ∧ Hid (xs.take k = ys.take k) ∧ Below w.heap.size w wr) (fun i _ => n - (intOf i).toNat)
    case atStart => exact ⟨0, Nat.zero_le _, rfl, (show xs.take 0 = ys.take 0 by simp), by (repeat' (first | (with_reducible exact Below.refl _ _) | (with_reducible assumption) | (with_reducible refine belowThru ?_ (by assumption)) | (with_reducible refine belowAlloc ?_) | (with_reducible refine Below.setCell ?_ (by first | omega | (simp; done) | (simp; omega)) _) | (with_reducible refine Below.drew ?_) | (with_reducible refine below_drewN ?_ _)))⟩
    case round =>
      obtain ⟨k, hk, rfl, ht, hB⟩ := hrel
      by_cases hlt : k < n
      · obtain ⟨b1, o1, z1, rfl, l1, h1, c1⟩ := HR.out.int hlt
        obtain ⟨b2, o2, z2, rfl, l2, h2, c2⟩ := HS.out.int hlt
        have c1 := cell_later hB c1
        have c2 := cell_later hB c2
        have p0 : (0 : Int) ≤ (k : Int) := by omega
        have p1 : (k : Int) < (n : Int) := by omega
        by_cases he : z1 = z2
        · subst he
          have ht' : Hid (xs.take (k + 1) = ys.take (k + 1)) := by show _ = _; rw [List.take_add_one, List.take_add_one, h1, h2, ht.out]
          clear h1 h2
          go_wp2_with fail
          go_quiet (fail)
          go_wp2
          go_roundw
          case rel => exact ⟨k + 1, hlt, by go_num, ht', by (repeat' (first | (with_reducible exact Below.refl _ _) | (with_reducible assumption) | (with_reducible refine belowThru ?_ (by assumption)) | (with_reducible refine belowAlloc ?_) | (with_reducible refine Below.setCell ?_ (by first | omega | (simp; done) | (simp; omega)) _) | (with_reducible refine Below.drew ?_) | (with_reducible refine below_drewN ?_ _)))⟩
          case measure => simp [intOf]; omega
        · have hd : (z1 != z2) = true := by simpa using he
          have hz : decide (xs = ys) = false := decide_eq_false (fun e => he (by rw [e, h2] at h1; exact (Option.some.inj h1).symm))
          clear h1 h2 he
          go_wp2_with fail
          go_quiet (fail)
          go_wp2
          go_ret
          exact ⟨by first | rfl | (rw [hz]; rfl), by (repeat' (first | (with_reducible exact Below.refl _ _) | (with_reducible assumption) | (with_reducible refine belowThru ?_ (by assumption)) | (with_reducible refine belowAlloc ?_) | (with_reducible refine Below.setCell ?_ (by first | omega | (simp; done) | (simp; omega)) _) | (with_reducible refine Below.drew ?_) | (with_reducible refine below_drewN ?_ _)))⟩
      · have hz : decide (xs = ys) = true := decide_eq_true (by
          have h := ht.out
          rwa [List.take_of_length_le (by rw [HX.out]; omega), List.take_of_length_le (by rw [HY.out]; omega)] at h)
        go_wp2
        go_ret
        exact ⟨by first | rfl | (rw [hz]; rfl), by (repeat' (first | (with_reducible exact Below.refl _ _) | (with_reducible assumption) | (with_reducible refine belowThru ?_ (by assumption)) | (with_reducible refine belowAlloc ?_) | (with_reducible refine Below.setCell ?_ (by first | omega | (simp; done) | (simp; omega)) _) | (with_reducible refine Below.drew ?_) | (with_reducible refine below_drewN ?_ _)))⟩
  · have hd : ((n : Int) != (m : Int)) = true := by simp; omega
    rw [decide_eq_false (fun e : xs = ys => hl (by rw [← hx, ← hy, e]))]
    clear hR hS hx hy
    go_enter Try.func28, Try.ntmps28
    go_wp2
    go_ret
    exact ⟨rfl, by (repeat' (first | (with_reducible exact Below.refl _ _) | (with_reducible assumption) | (with_reducible refine belowThru ?_ (by assumption)) | (with_reducible refine belowAlloc ?_) | (with_reducible refine Below.setCell ?_ (by first | omega | (simp; done) | (simp; omega)) _) | (with_reducible refine Below.drew ?_) | (with_reducible refine below_drewN ?_ _)))⟩

theorem oneCell_iv (zs : List Int) : ∀ u ∈ iv zs, u.oneCell' = true := by
  intro u hu
  obtain ⟨z, -, rfl⟩ := List.mem_map.1 hu
  rfl
theorem add_pl (b off i : Nat) : (⟨b, off, none⟩ : Addr).add i = ⟨b, off + i, none⟩ := by
  unfold Addr.add; split <;> simp_all
/-- What append makes of an empty slice of the call's own and a slice that reads as a list. -/
theorem run_append_lit (ty : TypeId) (a : Option Addr) (n c B g : Nat) (zs : List Int) (h8 : n * 8 ≤ 140737488351232) (w : World) (hg : Blk w g #[] 3) (hB : B ≤ g) (hR : Row w a n (iv zs)) :
    ∃ (a' : Option Addr) (c' : Nat) (w' : World), (Builtin.append_ #[27, 27] ty #[.slice (some ⟨g, 0, none⟩) 0 0, .slice a n c]).run Try.prog w = .ok (.slice a' n c') w' ∧ Row w' a' n (iv zs) ∧ Below B w w' := by
  obtain ⟨i0, hi, hz0, hz1, hz2⟩ := info_parts info_tin
  have hlen : zs.length = n := by have := hR.1; rwa [iv_length] at this
  rcases a with _ | ad
  · have hn : n = 0 := by
      rcases Nat.eq_zero_or_pos n with h | h
      · exact h
      · obtain ⟨b, off, e, -⟩ := hR.2 h; cases e
    subst hn
    obtain rfl : zs = [] := List.eq_nil_of_length_eq_zero hlen
    refine ⟨some ⟨g, 0, none⟩, 0, w, ?_, ⟨rfl, fun h => absurd h (Nat.lt_irrefl 0)⟩, Below.refl _ _⟩
    simp [Builtin.append_, run_underlying Try.underlying27, sizeOf, typeInfo, hi, Builtin.lenOf, Builtin.firstCells, storeCells]
  · have hc : ∀ j u, (iv zs)[j]? = some u → w.cell? (ad.add j) = some u := by
      intro j u hu
      have hj : j < n := by have := (List.getElem?_eq_some_iff.1 hu).1; have := hR.1; omega
      obtain ⟨b, off, e, -, hc⟩ := hR.2 (by omega)
      cases e
      rw [add_pl, hc j hj, hu]
    have hlt := hg.lt
    obtain ⟨v', w', hrun, hown, hgr, -, -⟩ := run_append_own_at (P := Try.prog) w B 27 ty 3 i0 (.int .i64 0) 1 8 Try.underlying27 hi hz0 hz1 hz2 rfl (by omega) (.slice (some ⟨g, 0, none⟩) 0 0) 0 [] ⟨rfl, .inr ⟨g, 0, #[], rfl, hB, hg, Nat.le_refl _, Nat.zero_le _, rfl, rfl⟩⟩ ad n c (iv zs) (by rw [hR.1]; omega) hc (oneCell_iv zs) (by unfold maxLen; omega) (by omega) (by omega)
    have hBe : Below B w w' := (Below.refl _ w).grown hgr (by omega) (fun k hk => by simp [Value.ownBlock] at hk; omega)
    simp only [Nat.zero_add, List.nil_append] at hown
    obtain ⟨a', c', rfl, hr⟩ := ownsRow_row (zs := zs) (by rw [hlen]; exact hown)
    rw [hlen] at hr hrun
    exact ⟨a', c', w', hrun, hr, hBe⟩
theorem wp_append_row {P : Program} {o : Oper} {act : Act} {K : Act → World → Prop} {Q : Exit → Act → World → Prop} {w : World} (s x : Operand) (t : TypeId) (R : Value → World → Prop)
    (ho : o.op = .call { callee := .builtin .append, args := #[s, x], argTypes := #[t, t] }) (v u : Value) (hs : act.eval s = v) (hx : act.eval x = u)
    (hr : ∃ r w', (Builtin.append_ #[t, t] o.type #[v, u]).run P w = .ok r w' ∧ R r w')
    (h : ∀ r w', R r w' → K (act.put o.dst r) w') : o.wp P act w K Q := by
  obtain ⟨r, w', hrun, hR⟩ := hr
  unfold Oper.wp execOp
  simp only [ho, resolve, invoke, builtin, Sem.run_bind, Sem.run_pure, Result.andThen_ok, List.map_toArray, List.map_cons, List.map_nil, hs, hx, hrun]
  exact h r w' hR
theorem wpList_append_row {P : Program} {ops : Array Oper} {rest : List Oper} {o : Oper} {act : Act} {Q : Exit → Act → World → Prop} {w : World} (hgd : o.guard = none) (s x : Operand) (t : TypeId) (R : Value → World → Prop)
    (ho : o.op = .call { callee := .builtin .append, args := #[s, x], argTypes := #[t, t] }) (v u : Value) (hs : act.eval s = v) (hx : act.eval x = u)
    (hr : ∃ r w', (Builtin.append_ #[t, t] o.type #[v, u]).run P w = .ok r w' ∧ R r w')
    (h : ∀ r w', R r w' → wpList P ops Q rest (act.put o.dst r) w') : wpList P ops Q (o :: rest) act w :=
  wpList_plain hgd fun _ hK => wp_append_row s x t R ho v u hs hx hr fun r w' hR => hK _ _ (h r w' hR)
theorem upL_map {zs : List Int} {n : Nat} (hl : zs.length = n) (y : Int) : (List.range n).map (fun k => min 255 (max 0 (zs[k]?.getD 0 + y))) = zs.map fun v => min 255 (max 0 (v + y)) := by
  subst hl
  apply List.ext_getElem
  · simp
  · intro k h1 h2
    simp only [List.length_map, List.length_range] at h1
    simp [h1]
theorem upL_eq {zs : List Int} (hV : V8 zs) {y : Int} (h0 : 0 ≤ y) : (zs.map fun v => min 255 (max 0 (v + y))) = upL y zs := by
  unfold upL
  refine List.map_congr_left fun v hv => ?_
  have := hV v hv
  split <;> omega
theorem lwL_eq {zs : List Int} (hV : V8 zs) {y : Int} (h0 : 0 ≤ y) : (zs.map fun v => min 255 (max 0 (v + -y))) = lwL y zs := by
  unfold lwL
  refine List.map_congr_left fun v hv => ?_
  have := hV v hv
  split <;> omega
end Go.Proofs.Ytdimmnoflenfhaa
/-
  Layer 5, the reference: Rise and Fall.
-/
namespace Go.Proofs.Ytdimmnoflenfhaa
open Go.RowKit Go.Shelf
set_option linter.unusedVariables false
set_option linter.unusedSimpArgs false

theorem Blk.set4 {w : World} {b : Nat} {x0 x1 x2 x3 v0 v1 v2 v3 : Value} {t : TypeId} (h : Blk w b #[x0, x1, x2, x3] t) :
    Blk ((((w.setCell ⟨b, 0, none⟩ v0).setCell ⟨b, 1, none⟩ v1).setCell ⟨b, 2, none⟩ v2).setCell ⟨b, 3, none⟩ v3) b #[v0, v1, v2, v3] t := Blk.set (Blk.set (Blk.set (Blk.set h)))
set_option maxRecDepth 100000 in
set_option maxHeartbeats 16000000 in
theorem rri_e (a : Option Addr) (n c : Nat) (zs U L : List Int) (t p y A B C D E : Int) (bb : Bool) (w : World) (hR : Row w a n (iv zs)) (hE : (E != 0) = true) (HA : Hid (∀ w, Row w a n (iv zs) → Calls Try.prog 52 #[.slice a n c, .int .i64 t, .int .i64 p, .int .i64 y] w fun e w' => e = .returned (.int .i64 E) ∧ Below w.heap.size w w')) :
    Calls Try.prog 29 #[.slice a n c, .int .i64 t, .int .i64 p, .int .i64 y] w fun e w' => e = .returned (.tuple #[.agg #[.int .i64 0, .int .i64 0, .int .i64 0, .int .i64 0], .int .i64 E]) ∧ Below w.heap.size w w' := by
  have HR := Lib.hid hR
  clear hR
  go_enter Try.func29, Try.ntmps29
  go_wp2_with fail
  refine (HA.out _ (HR.out.later (by (repeat' first | (with_reducible exact Below.refl _ _) | (with_reducible assumption) | (with_reducible refine belowThru ?_ (by assumption)) | (with_reducible refine belowAlloc ?_))))).mono ?_
  rintro e w1 ⟨rfl, hb⟩
  have k0 : Blk w1 w.heap.size #[.int .i64 0, .int .i64 0, .int .i64 0, .int .i64 0] 30 := Blk.later hb (by (repeat' (first | (with_reducible assumption) | ((with_reducible refine Blk.new ?_); first | rfl | (simp; done)) | (with_reducible refine Blk.later (by assumption) ?_) | (with_reducible refine Blk.alloc ?_) | (with_reducible refine Blk.drewN ?_) | (with_reducible refine Blk.drew ?_) | (with_reducible refine Blk.other ?_ (by first | omega | (simp; done) | (simp; omega))))))
  have hB : Below w.heap.size w w1 := by (repeat' (first | (with_reducible exact Below.refl _ _) | (with_reducible assumption) | (with_reducible refine belowThru ?_ (by assumption)) | (with_reducible refine belowAlloc ?_) | (with_reducible refine Below.setCell ?_ (by first | omega | (simp; done) | (simp; omega)) _) | (with_reducible refine Below.drew ?_) | (with_reducible refine below_drewN ?_ _)))
  clear hb
  obtain ⟨a0, b0⟩ := k0.read
  have y0 := k0.lt
  go_wp2
  have k0s := (Blk.set4 (v0 := .int .i64 0) (v1 := .int .i64 0) (v2 := .int .i64 0) (v3 := .int .i64 0) k0)
  exact ret_f k0s (v := .tuple #[.agg #[.int .i64 0, .int .i64 0, .int .i64 0, .int .i64 0], .int .i64 E]) (fun ra => by clear a0 b0; simp only [results, Try.results29]; go_simp) rfl ⟨rfl, by (repeat' (first | (with_reducible exact Below.refl _ _) | (with_reducible assumption) | (with_reducible refine belowThru ?_ (by assumption)) | (with_reducible refine belowAlloc ?_) | (with_reducible refine Below.setCell ?_ (by first | omega | (simp; done) | (simp; omega)) _) | (with_reducible refine Below.drew ?_) | (with_reducible refine below_drewN ?_ _)))⟩
set_option maxRecDepth 100000 in
set_option maxHeartbeats 16000000 in
theorem rri_n (a : Option Addr) (n c : Nat) (zs U L : List Int) (t p y A B C D E : Int) (bb : Bool) (w : World) (hR : Row w a n (iv zs)) (wy : IntKind.i64.wrap (-y) = -y) (HA : Hid (∀ w, Row w a n (iv zs) → Calls Try.prog 52 #[.slice a n c, .int .i64 t, .int .i64 p, .int .i64 y] w fun e w' => e = .returned (.int .i64 0) ∧ Below w.heap.size w w')) (HM1 : Hid (∀ w, Row w a n (iv zs) → Calls Try.prog 57 #[.slice a n c, .int .i64 (-y)] w fun e w' => ∃ (b : Option Addr) (d : Nat), e = .returned (.slice b n d) ∧ Row w' b n (iv L) ∧ Below w.heap.size w w')) (HF1 : Hid (∀ (a : Option Addr) (c : Nat) (w : World), Row w a n (iv L) → Calls Try.prog 53 #[.slice a n c, .int .i64 t, .int .i64 p] w fun e w' => e = .returned (.tuple #[.agg #[.int .i64 A, .int .i64 B], .bool false]) ∧ Below w.heap.size w w')) :
    Calls Try.prog 29 #[.slice a n c, .int .i64 t, .int .i64 p, .int .i64 y] w fun e w' => e = .returned (.tuple #[.agg #[.int .i64 0, .int .i64 0, .int .i64 0, .int .i64 0], .int .i64 6]) ∧ Below w.heap.size w w' := by
  have HR := Lib.hid hR
  clear hR
  go_enter Try.func29, Try.ntmps29
  go_wp2_with fail
  refine (HA.out _ (HR.out.later (by (repeat' first | (with_reducible exact Below.refl _ _) | (with_reducible assumption) | (with_reducible refine belowThru ?_ (by assumption)) | (with_reducible refine belowAlloc ?_))))).mono ?_
  rintro e w1 ⟨rfl, hb⟩
  have k0 : Blk w1 w.heap.size #[.int .i64 0, .int .i64 0, .int .i64 0, .int .i64 0] 30 := Blk.later hb (by (repeat' (first | (with_reducible assumption) | ((with_reducible refine Blk.new ?_); first | rfl | (simp; done)) | (with_reducible refine Blk.later (by assumption) ?_) | (with_reducible refine Blk.alloc ?_) | (with_reducible refine Blk.drewN ?_) | (with_reducible refine Blk.drew ?_) | (with_reducible refine Blk.other ?_ (by first | omega | (simp; done) | (simp; omega))))))
  have hB : Below w.heap.size w w1 := by (repeat' (first | (with_reducible exact Below.refl _ _) | (with_reducible assumption) | (with_reducible refine belowThru ?_ (by assumption)) | (with_reducible refine belowAlloc ?_) | (with_reducible refine Below.setCell ?_ (by first | omega | (simp; done) | (simp; omega)) _) | (with_reducible refine Below.drew ?_) | (with_reducible refine below_drewN ?_ _)))
  clear hb
  go_wp2_with fail
  refine (HM1.out _ (HR.out.later (by (repeat' first | (with_reducible exact Below.refl _ _) | (with_reducible assumption) | (with_reducible refine belowThru ?_ (by assumption)) | (with_reducible refine belowAlloc ?_))))).mono ?_
  rintro e w2 ⟨b1, d1, rfl, hr, hb⟩
  replace k0 := Blk.later hb k0
  replace hB := belowThru hB hb
  have HV := Lib.hid hr
  clear hr hb
  go_wp2_with fail
  refine (HF1.out _ _ _ (HV.out.later (by (repeat' first | (with_reducible exact Below.refl _ _) | (with_reducible assumption) | (with_reducible refine belowThru ?_ (by assumption)) | (with_reducible refine belowAlloc ?_))))).mono ?_
  rintro e w3 ⟨rfl, hb⟩
  replace k0 := Blk.later hb k0
  replace hB := belowThru hB hb
  clear hb HV
  obtain ⟨a0, b0⟩ := k0.read
  have y0 := k0.lt
  go_wp2
  have k0s := (Blk.alloc (o := .cells #[.int .i64 A, .int .i64 B] 23) (Blk.set4 (v0 := .int .i64 0) (v1 := .int .i64 0) (v2 := .int .i64 0) (v3 := .int .i64 0) k0))
  exact ret_f k0s (v := .tuple #[.agg #[.int .i64 0, .int .i64 0, .int .i64 0, .int .i64 0], .int .i64 6]) (fun ra => by clear a0 b0; simp only [results, Try.results29]; go_simp) rfl ⟨rfl, by (repeat' (first | (with_reducible exact Below.refl _ _) | (with_reducible assumption) | (with_reducible refine belowThru ?_ (by assumption)) | (with_reducible refine belowAlloc ?_) | (with_reducible refine Below.setCell ?_ (by first | omega | (simp; done) | (simp; omega)) _) | (with_reducible refine Below.drew ?_) | (with_reducible refine below_drewN ?_ _)))⟩
set_option maxRecDepth 100000 in
set_option maxHeartbeats 16000000 in
theorem rri_y (a : Option Addr) (n c : Nat) (zs U L : List Int) (t p y A B C D E : Int) (bb : Bool) (w : World) (hR : Row w a n (iv zs)) (wy : IntKind.i64.wrap (-y) = -y) (HA : Hid (∀ w, Row w a n (iv zs) → Calls Try.prog 52 #[.slice a n c, .int .i64 t, .int .i64 p, .int .i64 y] w fun e w' => e = .returned (.int .i64 0) ∧ Below w.heap.size w w')) (HM1 : Hid (∀ w, Row w a n (iv zs) → Calls Try.prog 57 #[.slice a n c, .int .i64 (-y)] w fun e w' => ∃ (b : Option Addr) (d : Nat), e = .returned (.slice b n d) ∧ Row w' b n (iv L) ∧ Below w.heap.size w w')) (HF1 : Hid (∀ (a : Option Addr) (c : Nat) (w : World), Row w a n (iv L) → Calls Try.prog 53 #[.slice a n c, .int .i64 t, .int .i64 p] w fun e w' => e = .returned (.tuple #[.agg #[.int .i64 A, .int .i64 B], .bool true]) ∧ Below w.heap.size w w')) (HM2 : Hid (∀ w, Row w a n (iv zs) → Calls Try.prog 57 #[.slice a n c, .int .i64 y] w fun e w' => ∃ (b : Option Addr) (d : Nat), e = .returned (.slice b n d) ∧ Row w' b n (iv U) ∧ Below w.heap.size w w')) (HF2 : Hid (∀ (a : Option Addr) (c : Nat) (w : World), Row w a n (iv U) → Calls Try.prog 53 #[.slice a n c, .int .i64 t, .int .i64 p] w fun e w' => e = .returned (.tuple #[.agg #[.int .i64 C, .int .i64 D], .bool bb]) ∧ Below w.heap.size w w')) :
    Calls Try.prog 29 #[.slice a n c, .int .i64 t, .int .i64 p, .int .i64 y] w fun e w' => e = .returned (.tuple #[.agg #[.int .i64 C, .int .i64 D, .int .i64 A, .int .i64 B], .int .i64 0]) ∧ Below w.heap.size w w' := by
  have HR := Lib.hid hR
  clear hR
  go_enter Try.func29, Try.ntmps29
  go_wp2_with fail
  refine (HA.out _ (HR.out.later (by (repeat' first | (with_reducible exact Below.refl _ _) | (with_reducible assumption) | (with_reducible refine belowThru ?_ (by assumption)) | (with_reducible refine belowAlloc ?_))))).mono ?_
  rintro e w1 ⟨rfl, hb⟩
  have k0 : Blk w1 w.heap.size #[.int .i64 0, .int .i64 0, .int .i64 0, .int .i64 0] 30 := Blk.later hb (by (repeat' (first | (with_reducible assumption) | ((with_reducible refine Blk.new ?_); first | rfl | (simp; done)) | (with_reducible refine Blk.later (by assumption) ?_) | (with_reducible refine Blk.alloc ?_) | (with_reducible refine Blk.drewN ?_) | (with_reducible refine Blk.drew ?_) | (with_reducible refine Blk.other ?_ (by first | omega | (simp; done) | (simp; omega))))))
  have hB : Below w.heap.size w w1 := by (repeat' (first | (with_reducible exact Below.refl _ _) | (with_reducible assumption) | (with_reducible refine belowThru ?_ (by assumption)) | (with_reducible refine belowAlloc ?_) | (with_reducible refine Below.setCell ?_ (by first | omega | (simp; done) | (simp; omega)) _) | (with_reducible refine Below.drew ?_) | (with_reducible refine below_drewN ?_ _)))
  clear hb
  go_wp2_with fail
  refine (HM1.out _ (HR.out.later (by (repeat' first | (with_reducible exact Below.refl _ _) | (with_reducible assumption) | (with_reducible refine belowThru ?_ (by assumption)) | (with_reducible refine belowAlloc ?_))))).mono ?_
  rintro e w2 ⟨b1, d1, rfl, hr, hb⟩
  replace k0 := Blk.later hb k0
  replace hB := belowThru hB hb
  have HV := Lib.hid hr
  clear hr hb
  go_wp2_with fail
  refine (HF1.out _ _ _ (HV.out.later (by (repeat' first | (with_reducible exact Below.refl _ _) | (with_reducible assumption) | (with_reducible refine belowThru ?_ (by assumption)) | (with_reducible refine belowAlloc ?_))))).mono ?_
  rintro e w3 ⟨rfl, hb⟩
  replace k0 := Blk.later hb k0
  replace hB := belowThru hB hb
  clear hb HV
  go_wp2_with fail
  refine (HM2.out _ (HR.out.later (by (repeat' (first | (with_reducible exact Below.refl _ _) | (with_reducible assumption) | (with_reducible refine belowThru ?_ (by assumption)) | (with_reducible refine belowAlloc ?_) | (with_reducible refine Below.setCell ?_ (by first | omega | (simp; done) | (simp; omega)) _) | (with_reducible refine Below.drew ?_) | (with_reducible refine below_drewN ?_ _)))))).mono ?_
  rintro e w4 ⟨b2, d2, rfl, hr, hb⟩
  replace k0 : Blk w4 w.heap.size #[.int .i64 0, .int .i64 0, .int .i64 0, .int .i64 0] 30 := Blk.later hb (Blk.alloc k0)
  have k1 : Blk w4 w3.heap.size #[.int .i64 A, .int .i64 B] 23 := Blk.later hb (Blk.new rfl)
  replace hB : Below w.heap.size w w4 := belowThru (by (repeat' (first | (with_reducible exact Below.refl _ _) | (with_reducible assumption) | (with_reducible refine belowThru ?_ (by assumption)) | (with_reducible refine belowAlloc ?_) | (with_reducible refine Below.setCell ?_ (by first | omega | (simp; done) | (simp; omega)) _) | (with_reducible refine Below.drew ?_) | (with_reducible refine below_drewN ?_ _)))) hb
  have HV := Lib.hid hr
  clear hr hb
  go_wp2_with fail
  refine (HF2.out _ _ _ (HV.out.later (by (repeat' first | (with_reducible exact Below.refl _ _) | (with_reducible assumption) | (with_reducible refine belowThru ?_ (by assumption)) | (with_reducible refine belowAlloc ?_))))).mono ?_
  rintro e w5 ⟨rfl, hb⟩
  replace k0 := Blk.later hb k0
  replace k1 := Blk.later hb k1
  replace hB := belowThru hB hb
  clear hb HV
  obtain ⟨a1, b1'⟩ := k1.read
  have y1 := k1.lt
  obtain ⟨a0, b0⟩ := k0.read
  have y0 := k0.lt
  go_wp2
  have k0s := (Blk.alloc (o := .cells #[.int .i64 C, .int .i64 D] 23) (Blk.set4 (v0 := .int .i64 C) (v1 := .int .i64 D) (v2 := .int .i64 A) (v3 := .int .i64 B) k0))
  exact ret_f k0s (v := .tuple #[.agg #[.int .i64 C, .int .i64 D, .int .i64 A, .int .i64 B], .int .i64 0]) (fun ra => by clear a0 b0; simp only [results, Try.results29]; go_simp) rfl ⟨rfl, by (repeat' (first | (with_reducible exact Below.refl _ _) | (with_reducible assumption) | (with_reducible refine belowThru ?_ (by assumption)) | (with_reducible refine belowAlloc ?_) | (with_reducible refine Below.setCell ?_ (by first | omega | (simp; done) | (simp; omega)) _) | (with_reducible refine Below.drew ?_) | (with_reducible refine below_drewN ?_ _)))⟩
set_option maxRecDepth 100000 in
set_option maxHeartbeats 16000000 in
theorem rfa_e (a : Option Addr) (n c : Nat) (zs U L : List Int) (t p y A B C D E : Int) (bb : Bool) (w : World) (hR : Row w a n (iv zs)) (hE : (E != 0) = true) (HA : Hid (∀ w, Row w a n (iv zs) → Calls Try.prog 52 #[.slice a n c, .int .i64 t, .int .i64 p, .int .i64 y] w fun e w' => e = .returned (.int .i64 E) ∧ Below w.heap.size w w')) :
    Calls Try.prog 30 #[.slice a n c, .int .i64 t, .int .i64 p, .int .i64 y] w fun e w' => e = .returned (.tuple #[.agg #[.int .i64 0, .int .i64 0, .int .i64 0, .int .i64 0], .int .i64 E]) ∧ Below w.heap.size w w' := by
  have HR := Lib.hid hR
  clear hR
  go_enter Try.func30, Try.ntmps30
  go_wp2_with fail
  refine (HA.out _ (HR.out.later (by (repeat' first | (with_reducible exact Below.refl _ _) | (with_reducible assumption) | (with_reducible refine belowThru ?_ (by assumption)) | (with_reducible refine belowAlloc ?_))))).mono ?_
  rintro e w1 ⟨rfl, hb⟩
  have k0 : Blk w1 w.heap.size #[.int .i64 0, .int .i64 0, .int .i64 0, .int .i64 0] 30 := Blk.later hb (by (repeat' (first | (with_reducible assumption) | ((with_reducible refine Blk.new ?_); first | rfl | (simp; done)) | (with_reducible refine Blk.later (by assumption) ?_) | (with_reducible refine Blk.alloc ?_) | (with_reducible refine Blk.drewN ?_) | (with_reducible refine Blk.drew ?_) | (with_reducible refine Blk.other ?_ (by first | omega | (simp; done) | (simp; omega))))))
  have hB : Below w.heap.size w w1 := by (repeat' (first | (with_reducible exact Below.refl _ _) | (with_reducible assumption) | (with_reducible refine belowThru ?_ (by assumption)) | (with_reducible refine belowAlloc ?_) | (with_reducible refine Below.setCell ?_ (by first | omega | (simp; done) | (simp; omega)) _) | (with_reducible refine Below.drew ?_) | (with_reducible refine below_drewN ?_ _)))
  clear hb
  obtain ⟨a0, b0⟩ := k0.read
  have y0 := k0.lt
  go_wp2
  have k0s := (Blk.set4 (v0 := .int .i64 0) (v1 := .int .i64 0) (v2 := .int .i64 0) (v3 := .int .i64 0) k0)
  exact ret_f k0s (v := .tuple #[.agg #[.int .i64 0, .int .i64 0, .int .i64 0, .int .i64 0], .int .i64 E]) (fun ra => by clear a0 b0; simp only [results, Try.results30]; go_simp) rfl ⟨rfl, by (repeat' (first | (with_reducible exact Below.refl _ _) | (with_reducible assumption) | (with_reducible refine belowThru ?_ (by assumption)) | (with_reducible refine belowAlloc ?_) | (with_reducible refine Below.setCell ?_ (by first | omega | (simp; done) | (simp; omega)) _) | (with_reducible refine Below.drew ?_) | (with_reducible refine below_drewN ?_ _)))⟩
set_option maxRecDepth 100000 in
set_option maxHeartbeats 16000000 in
theorem rfa_n (a : Option Addr) (n c : Nat) (zs U L : List Int) (t p y A B C D E : Int) (bb : Bool) (w : World) (hR : Row w a n (iv zs)) (wy : IntKind.i64.wrap (-y) = -y) (HA : Hid (∀ w, Row w a n (iv zs) → Calls Try.prog 52 #[.slice a n c, .int .i64 t, .int .i64 p, .int .i64 y] w fun e w' => e = .returned (.int .i64 0) ∧ Below w.heap.size w w')) (HM1 : Hid (∀ w, Row w a n (iv zs) → Calls Try.prog 57 #[.slice a n c, .int .i64 (-y)] w fun e w' => ∃ (b : Option Addr) (d : Nat), e = .returned (.slice b n d) ∧ Row w' b n (iv L) ∧ Below w.heap.size w w')) (HF1 : Hid (∀ (a : Option Addr) (c : Nat) (w : World), Row w a n (iv L) → Calls Try.prog 54 #[.slice a n c, .int .i64 t, .int .i64 p] w fun e w' => e = .returned (.tuple #[.agg #[.int .i64 A, .int .i64 B], .bool false]) ∧ Below w.heap.size w w')) :
    Calls Try.prog 30 #[.slice a n c, .int .i64 t, .int .i64 p, .int .i64 y] w fun e w' => e = .returned (.tuple #[.agg #[.int .i64 0, .int .i64 0, .int .i64 0, .int .i64 0], .int .i64 6]) ∧ Below w.heap.size w w' := by
  have HR := Lib.hid hR
  clear hR
  go_enter Try.func30, Try.ntmps30
  go_wp2_with fail
  refine (HA.out _ (HR.out.later (by (repeat' first | (with_reducible exact Below.refl _ _) | (with_reducible assumption) | (with_reducible refine belowThru ?_ (by assumption)) | (with_reducible refine belowAlloc ?_))))).mono ?_
  rintro e w1 ⟨rfl, hb⟩
  have k0 : Blk w1 w.heap.size #[.int .i64 0, .int .i64 0, .int .i64 0, .int .i64 0] 30 := Blk.later hb (by (repeat' (first | (with_reducible assumption) | ((with_reducible refine Blk.new ?_); first | rfl | (simp; done)) | (with_reducible refine Blk.later (by assumption) ?_) | (with_reducible refine Blk.alloc ?_) | (with_reducible refine Blk.drewN ?_) | (with_reducible refine Blk.drew ?_) | (with_reducible refine Blk.other ?_ (by first | omega | (simp; done) | (simp; omega))))))
  have hB : Below w.heap.size w w1 := by (repeat' (first | (with_reducible exact Below.refl _ _) | (with_reducible assumption) | (with_reducible refine belowThru ?_ (by assumption)) | (with_reducible refine belowAlloc ?_) | (with_reducible refine Below.setCell ?_ (by first | omega | (simp; done) | (simp; omega)) _) | (with_reducible refine Below.drew ?_) | (with_reducible refine below_drewN ?_ _)))
  clear hb
  go_wp2_with fail
  refine (HM1.out _ (HR.out.later (by (repeat' first | (with_reducible exact Below.refl _ _) | (with_reducible assumption) | (with_reducible refine belowThru ?_ (by assumption)) | (with_reducible refine belowAlloc ?_))))).mono ?_
  rintro e w2 ⟨b1, d1, rfl, hr, hb⟩
  replace k0 := Blk.later hb k0
  replace hB := belowThru hB hb
  have HV := Lib.hid hr
  clear hr hb
  go_wp2_with fail
  refine (HF1.out _ _ _ (HV.out.later (by (repeat' first | (with_reducible exact Below.refl _ _) | (with_reducible assumption) | (with_reducible refine belowThru ?_ (by assumption)) | (with_reducible refine belowAlloc ?_))))).mono ?_
  rintro e w3 ⟨rfl, hb⟩
  replace k0 := Blk.later hb k0
  replace hB := belowThru hB hb
  clear hb HV
  obtain ⟨a0, b0⟩ := k0.read
  have y0 := k0.lt
  go_wp2
  have k0s := (Blk.alloc (o := .cells #[.int .i64 A, .int .i64 B] 23) (Blk.set4 (v0 := .int .i64 0) (v1 := .int .i64 0) (v2 := .int .i64 0) (v3 := .int .i64 0) k0))
  exact ret_f k0s (v := .tuple #[.agg #[.int .i64 0, .int .i64 0, .int .i64 0, .int .i64 0], .int .i64 6]) (fun ra => by clear a0 b0; simp only [results, Try.results30]; go_simp) rfl ⟨rfl, by (repeat' (first | (with_reducible exact Below.refl _ _) | (with_reducible assumption) | (with_reducible refine belowThru ?_ (by assumption)) | (with_reducible refine belowAlloc ?_) | (with_reducible refine Below.setCell ?_ (by first | omega | (simp; done) | (simp; omega)) _) | (with_reducible refine Below.drew ?_) | (with_reducible refine below_drewN ?_ _)))⟩
set_option maxRecDepth 100000 in
set_option maxHeartbeats 16000000 in
theorem rfa_y (a : Option Addr) (n c : Nat) (zs U L : List Int) (t p y A B C D E : Int) (bb : Bool) (w : World) (hR : Row w a n (iv zs)) (wy : IntKind.i64.wrap (-y) = -y) (HA : Hid (∀ w, Row w a n (iv zs) → Calls Try.prog 52 #[.slice a n c, .int .i64 t, .int .i64 p, .int .i64 y] w fun e w' => e = .returned (.int .i64 0) ∧ Below w.heap.size w w')) (HM1 : Hid (∀ w, Row w a n (iv zs) → Calls Try.prog 57 #[.slice a n c, .int .i64 (-y)] w fun e w' => ∃ (b : Option Addr) (d : Nat), e = .returned (.slice b n d) ∧ Row w' b n (iv L) ∧ Below w.heap.size w w')) (HF1 : Hid (∀ (a : Option Addr) (c : Nat) (w : World), Row w a n (iv L) → Calls Try.prog 54 #[.slice a n c, .int .i64 t, .int .i64 p] w fun e w' => e = .returned (.tuple #[.agg #[.int .i64 A, .int .i64 B], .bool true]) ∧ Below w.heap.size w w')) (HM2 : Hid (∀ w, Row w a n (iv zs) → Calls Try.prog 57 #[.slice a n c, .int .i64 y] w fun e w' => ∃ (b : Option Addr) (d : Nat), e = .returned (.slice b n d) ∧ Row w' b n (iv U) ∧ Below w.heap.size w w')) (HF2 : Hid (∀ (a : Option Addr) (c : Nat) (w : World), Row w a n (iv U) → Calls Try.prog 54 #[.slice a n c, .int .i64 t, .int .i64 p] w fun e w' => e = .returned (.tuple #[.agg #[.int .i64 C, .int .i64 D], .bool bb]) ∧ Below w.heap.size w w')) :
    Calls Try.prog 30 #[.slice a n c, .int .i64 t, .int .i64 p, .int .i64 y] w fun e w' => e = .returned (.tuple #[.agg #[.int .i64 A, .int .i64 B, .int .i64 C, .int .i64 D], .int .i64 0]) ∧ Below w.heap.size w w' := by
  have HR := Lib.hid hR
  clear hR
  go_enter Try.func30, Try.ntmps30
  go_wp2_with fail
  refine (HA.out _ (HR.out.later (by (repeat' first | (with_reducible exact Below.refl _ _) | (with_reducible assumption) | (with_reducible refine belowThru ?_ (by assumption)) | (with_reducible refine belowAlloc ?_))))).mono ?_
  rintro e w1 ⟨rfl, hb⟩
  have k0 : Blk w1 w.heap.size #[.int .i64 0, .int .i64 0, .int .i64 0, .int .i64 0] 30 := Blk.later hb (by (repeat' (first | (with_reducible assumption) | ((with_reducible refine Blk.new ?_); first | rfl | (simp; done)) | (with_reducible refine Blk.later (by assumption) ?_) | (with_reducible refine Blk.alloc ?_) | (with_reducible refine Blk.drewN ?_) | (with_reducible refine Blk.drew ?_) | (with_reducible refine Blk.other ?_ (by first | omega | (simp; done) | (simp; omega))))))
  have hB : Below w.heap.size w w1 := by (repeat' (first | (with_reducible exact Below.refl _ _) | (with_reducible assumption) | (with_reducible refine belowThru ?_ (by assumption)) | (with_reducible refine belowAlloc ?_) | (with_reducible refine Below.setCell ?_ (by first | omega | (simp; done) | (simp; omega)) _) | (with_reducible refine Below.drew ?_) | (with_reducible refine below_drewN ?_ _)))
  clear hb
  go_wp2_with fail
  refine (HM1.out _ (HR.out.later (by (repeat' first | (with_reducible exact Below.refl _ _) | (with_reducible assumption) | (with_reducible refine belowThru ?_ (by assumption)) | (with_reducible refine belowAlloc ?_))))).mono ?_
  rintro e w2 ⟨b1, d1, rfl, hr, hb⟩
  replace k0 := Blk.later hb k0
  replace hB := belowThru hB hb
  have HV := Lib.hid hr
  clear hr hb
  go_wp2_with fail
  refine (HF1.out _ _ _ (HV.out.later (by (repeat' first | (with_reducible exact Below.refl _ _) | (with_reducible assumption) | (with_reducible refine belowThru ?_ (by assumption)) | (with_reducible refine belowAlloc ?_))))).mono ?_
  rintro e w3 ⟨rfl, hb⟩
  replace k0 := Blk.later hb k0
  replace hB := belowThru hB hb
  clear hb HV
  go_wp2_with fail
  refine (HM2.out _ (HR.out.later (by (repeat' (first | (with_reducible exact Below.refl _ _) | (with_reducible assumption) | (with_reducible refine belowThru ?_ (by assumption)) | (with_reducible refine belowAlloc ?_) | (with_reducible refine Below.setCell ?_ (by first | omega | (simp; done) | (simp; omega)) _) | (with_reducible refine Below.drew ?_) | (with_reducible refine below_drewN ?_ _)))))).mono ?_
  rintro e w4 ⟨b2, d2, rfl, hr, hb⟩
  replace k0 : Blk w4 w.heap.size #[.int .i64 0, .int .i64 0, .int .i64 0, .int .i64 0] 30 := Blk.later hb (Blk.alloc k0)
  have k1 : Blk w4 w3.heap.size #[.int .i64 A, .int .i64 B] 23 := Blk.later hb (Blk.new rfl)
  replace hB : Below w.heap.size w w4 := belowThru (by (repeat' (first | (with_reducible exact Below.refl _ _) | (with_reducible assumption) | (with_reducible refine belowThru ?_ (by assumption)) | (with_reducible refine belowAlloc ?_) | (with_reducible refine Below.setCell ?_ (by first | omega | (simp; done) | (simp; omega)) _) | (with_reducible refine Below.drew ?_) | (with_reducible refine below_drewN ?_ _)))) hb
  have HV := Lib.hid hr
  clear hr hb
  go_wp2_with fail
  refine (HF2.out _ _ _ (HV.out.later (by (repeat' first | (with_reducible exact Below.refl _ _) | (with_reducible assumption) | (with_reducible refine belowThru ?_ (by assumption)) | (with_reducible refine belowAlloc ?_))))).mono ?_
  rintro e w5 ⟨rfl, hb⟩
  replace k0 := Blk.later hb k0
  replace k1 := Blk.later hb k1
  replace hB := belowThru hB hb
  clear hb HV
  obtain ⟨a1, b1'⟩ := k1.read
  have y1 := k1.lt
  obtain ⟨a0, b0⟩ := k0.read
  have y0 := k0.lt
  go_wp2
  have k0s := (Blk.alloc (o := .cells #[.int .i64 C, .int .i64 D] 23) (Blk.set4 (v0 := .int .i64 A) (v1 := .int .i64 B) (v2 := .int .i64 C) (v3 := .int .i64 D) k0))
  exact ret_f k0s (v := .tuple #[.agg #[.int .i64 A, .int .i64 B, .int .i64 C, .int .i64 D], .int .i64 0]) (fun ra => by clear a0 b0; simp only [results, Try.results30]; go_simp) rfl ⟨rfl, by (repeat' (first | (with_reducible exact Below.refl _ _) | (with_reducible assumption) | (with_reducible refine belowThru ?_ (by assumption)) | (with_reducible refine belowAlloc ?_) | (with_reducible refine Below.setCell ?_ (by first | omega | (simp; done) | (simp; omega)) _) | (with_reducible refine Below.drew ?_) | (with_reducible refine below_drewN ?_ _)))⟩
end Go.Proofs.Ytdimmnoflenfhaa
/-
  Layer 5, the reference: Rise and Fall answer as the code does.
-/
namespace Go.Proofs.Ytdimmnoflenfhaa
open Go.RowKit Go.Shelf
set_option linter.unusedVariables false
set_option linter.unusedSimpArgs false

theorem rri_any (a : Option Addr) (n c : Nat) (zs : List Int) (t p y : Int) (hn : n ≤ maxLen) (w : World) (hR : Row w a n (iv zs)) :
    Calls Try.prog 29 #[.slice a n c, .int .i64 t, .int .i64 p, .int .i64 y] w fun e w' => e = .returned (.tuple #[.agg #[.int .i64 (s1 (riS t zs p y)), .int .i64 (s2 (riS t zs p y)), .int .i64 (s3 (riS t zs p y)), .int .i64 (s4 (riS t zs p y))], .int .i64 (riE t zs p y)]) ∧ Below w.heap.size w w' := by
  have hx : zs.length = n := by have := hR.1; rwa [iv_length] at this
  have HA := fun w hR => asked_any a n c zs t p y hn w hR
  by_cases hz : okP zs
  · by_cases h1 : okN y ∧ okT t ∧ inL zs p
    · rw [asQ_ok hz ⟨h1.2.1, h1.2.2, h1.1⟩] at HA
      obtain ⟨k, rfl⟩ : ∃ k : Nat, p = (k : Int) := ⟨p.toNat, by have := h1.2.2.1; omega⟩
      have hk : k < n := by have := h1.2.2.2; omega
      have hn64 : n ≤ 64 := by have := hz.1.2; omega
      have wy : IntKind.i64.wrap (-y) = -y := IntWalk.i64_in _ (by have := h1.1.1; have := h1.1.2; omega)
      have HM1 := fun w hR => rmoved a n c zs (-y) hn64 hz.2 (by have := h1.1.1; have := h1.1.2; omega) w hR
      unfold RetM at HM1
      rw [upL_map hx, lwL_eq hz.2 h1.1.1] at HM1
      have HM2 := fun w hR => rmoved a n c zs y hn64 hz.2 (by have := h1.1.1; have := h1.1.2; omega) w hR
      unfold RetM at HM2
      rw [upL_map hx, upL_eq hz.2 h1.1.1] at HM2
      have HF1 := fun (a : Option Addr) (c : Nat) (w : World) (hR : Row w a n (iv (lwL y zs))) => rfirstOf_any a n c (lwL y zs) t k hk (lwL_ok hz h1.1.1) (by rw [lwL_length]; exact hx) h1.2.1 w hR
      have HF2 := fun (a : Option Addr) (c : Nat) (w : World) (hR : Row w a n (iv (upL y zs))) => rfirstOf_any a n c (upL y zs) t k hk (upL_ok hz h1.1.1) (by rw [upL_length]; exact hx) h1.2.1 w hR
      have e1 : riS t zs k y = both (FX t (upL y zs) k) (FX t (lwL y zs) k) := if_pos ⟨hz, h1⟩
      have e2 : riE t zs k y = if (FX t (lwL y zs) k).isSome then 0 else 6 := asE_ok hz h1
      rw [e1, e2]
      cases ho : FX t (lwL y zs) k with
      | none =>
        rw [ho] at HF1
        rw [show both (FX t (upL y zs) k) none = none by cases FX t (upL y zs) k <;> rfl]
        exact rri_n a n c zs (upL y zs) (lwL y zs) t k y _ _ 0 0 0 true w hR wy (Lib.hid HA) (Lib.hid HM1) (Lib.hid HF1)
      | some x =>
        obtain ⟨x', ho', -⟩ := FX_le (lw_up hz.2 h1.1.1) ho
        rw [ho] at HF1
        rw [ho'] at HF2 ⊢
        exact rri_y a n c zs (upL y zs) (lwL y zs) t k y _ _ _ _ 0 true w hR wy (Lib.hid HA) (Lib.hid HM1) (Lib.hid HF1) (Lib.hid HM2) (Lib.hid HF2)
    · rw [asQ_arg hz (fun g => h1 ⟨g.2.2, g.1, g.2.1⟩)] at HA
      rw [show riS t zs p y = none from if_neg (fun g => h1 g.2), show riE t zs p y = _ from asE_arg hz h1]
      exact rri_e a n c zs [] [] t p y 0 0 0 0 2 true w hR rfl (Lib.hid HA)
  · rw [asQ_no hz] at HA
    rw [show riS t zs p y = none from if_neg (fun g => hz g.1), show riE t zs p y = _ from asE_no hz]
    exact rri_e a n c zs [] [] t p y 0 0 0 0 50 true w hR rfl (Lib.hid HA)
theorem rfa_any (a : Option Addr) (n c : Nat) (zs : List Int) (t p y : Int) (hn : n ≤ maxLen) (w : World) (hR : Row w a n (iv zs)) :
    Calls Try.prog 30 #[.slice a n c, .int .i64 t, .int .i64 p, .int .i64 y] w fun e w' => e = .returned (.tuple #[.agg #[.int .i64 (s1 (faS t zs p y)), .int .i64 (s2 (faS t zs p y)), .int .i64 (s3 (faS t zs p y)), .int .i64 (s4 (faS t zs p y))], .int .i64 (faE t zs p y)]) ∧ Below w.heap.size w w' := by
  have hx : zs.length = n := by have := hR.1; rwa [iv_length] at this
  have HA := fun w hR => asked_any a n c zs t p y hn w hR
  by_cases hz : okP zs
  · by_cases h1 : okN y ∧ okT t ∧ inL zs p
    · rw [asQ_ok hz ⟨h1.2.1, h1.2.2, h1.1⟩] at HA
      obtain ⟨k, rfl⟩ : ∃ k : Nat, p = (k : Int) := ⟨p.toNat, by have := h1.2.2.1; omega⟩
      have hk : k < n := by have := h1.2.2.2; omega
      have hn64 : n ≤ 64 := by have := hz.1.2; omega
      have wy : IntKind.i64.wrap (-y) = -y := IntWalk.i64_in _ (by have := h1.1.1; have := h1.1.2; omega)
      have HM1 := fun w hR => rmoved a n c zs (-y) hn64 hz.2 (by have := h1.1.1; have := h1.1.2; omega) w hR
      unfold RetM at HM1
      rw [upL_map hx, lwL_eq hz.2 h1.1.1] at HM1
      have HM2 := fun w hR => rmoved a n c zs y hn64 hz.2 (by have := h1.1.1; have := h1.1.2; omega) w hR
      unfold RetM at HM2
      rw [upL_map hx, upL_eq hz.2 h1.1.1] at HM2
      have HF1 := fun (a : Option Addr) (c : Nat) (w : World) (hR : Row w a n (iv (lwL y zs))) => rlastOf_any a n c (lwL y zs) t k hk (lwL_ok hz h1.1.1) (by rw [lwL_length]; exact hx) h1.2.1 w hR
      have HF2 := fun (a : Option Addr) (c : Nat) (w : World) (hR : Row w a n (iv (upL y zs))) => rlastOf_any a n c (upL y zs) t k hk (upL_ok hz h1.1.1) (by rw [upL_length]; exact hx) h1.2.1 w hR
      have e1 : faS t zs k y = both (LX t (lwL y zs) k) (LX t (upL y zs) k) := if_pos ⟨hz, h1⟩
      have e2 : faE t zs k y = if (LX t (lwL y zs) k).isSome then 0 else 6 := asE_ok hz h1
      rw [e1, e2]
      cases ho : LX t (lwL y zs) k with
      | none =>
        rw [ho] at HF1
        rw [show both none (LX t (upL y zs) k) = none from rfl]
        exact rfa_n a n c zs (upL y zs) (lwL y zs) t k y _ _ 0 0 0 true w hR wy (Lib.hid HA) (Lib.hid HM1) (Lib.hid HF1)
      | some x =>
        obtain ⟨x', ho', -⟩ := LX_le (lw_up hz.2 h1.1.1) (by rw [lwL_length, hx]; exact hk) ho
        rw [ho] at HF1
        rw [ho'] at HF2 ⊢
        exact rfa_y a n c zs (upL y zs) (lwL y zs) t k y _ _ _ _ 0 true w hR wy (Lib.hid HA) (Lib.hid HM1) (Lib.hid HF1) (Lib.hid HM2) (Lib.hid HF2)
    · rw [asQ_arg hz (fun g => h1 ⟨g.2.2, g.1, g.2.1⟩)] at HA
      rw [show faS t zs p y = none from if_neg (fun g => h1 g.2), show faE t zs p y = _ from asE_arg hz h1]
      exact rfa_e a n c zs [] [] t p y 0 0 0 0 2 true w hR rfl (Lib.hid HA)
  · rw [asQ_no hz] at HA
    rw [show faS t zs p y = none from if_neg (fun g => hz g.1), show faE t zs p y = _ from asE_no hz]
    exact rfa_e a n c zs [] [] t p y 0 0 0 0 50 true w hR rfl (Lib.hid HA)
end Go.Proofs.Ytdimmnoflenfhaa
/-
  Layer 5, the reference: Wide: the walks.
-/
namespace Go.Proofs.Ytdimmnoflenfhaa
open Go.RowKit Go.Shelf
set_option linter.unusedVariables false
set_option linter.unusedSimpArgs false

set_option maxRecDepth 100000 in
set_option maxHeartbeats 16000000 in
theorem rwide_n (a : Option Addr) (n c : Nat) (zs : List Int) (t A B C D M N X Y : Int) (ok bb : Bool) (w : World) (hn : n ≤ 64) (hR : Row w a n (iv zs)) (HF : Hid (∀ w, Row w a n (iv zs) → Calls Try.prog 53 #[.slice a n c, .int .i64 t, .int .i64 0] w fun e w' => e = .returned (.tuple #[.agg #[.int .i64 A, .int .i64 B], .bool false]) ∧ Below w.heap.size w w')) :
    Calls Try.prog 63 #[.slice a n c, .int .i64 t] w fun e w' => e = .returned (.tuple #[.agg #[.int .i64 0, .int .i64 0], .bool false]) ∧ Below w.heap.size w w' := by
  have HR := Lib.hid hR
  clear hR
  have hwn : IntKind.i64.wrap ((n : Int) - 1) = (n : Int) - 1 := IntWalk.i64_in _ (by omega)
  go_enter Try.func63, Try.ntmps63
  go_wp2_with fail
  refine (HF.out _ (HR.out.later (by (repeat' first | (with_reducible exact Below.refl _ _) | (with_reducible assumption) | (with_reducible refine belowThru ?_ (by assumption)) | (with_reducible refine belowAlloc ?_))))).mono ?_
  rintro e w1 ⟨rfl, hb⟩
  have k0 : Blk w1 w.heap.size #[.int .i64 0, .int .i64 0] 23 := Blk.later hb (by (repeat' (first | (with_reducible assumption) | ((with_reducible refine Blk.new ?_); first | rfl | (simp; done)) | (with_reducible refine Blk.later (by assumption) ?_) | (with_reducible refine Blk.alloc ?_) | (with_reducible refine Blk.drewN ?_) | (with_reducible refine Blk.drew ?_) | (with_reducible refine Blk.other ?_ (by first | omega | (simp; done) | (simp; omega))))))
  have hB : Below w.heap.size w w1 := by (repeat' (first | (with_reducible exact Below.refl _ _) | (with_reducible assumption) | (with_reducible refine belowThru ?_ (by assumption)) | (with_reducible refine belowAlloc ?_) | (with_reducible refine Below.setCell ?_ (by first | omega | (simp; done) | (simp; omega)) _) | (with_reducible refine Below.drew ?_) | (with_reducible refine below_drewN ?_ _)))
  clear hb
  obtain ⟨a0, b0⟩ := k0.read
  have y0 := k0.lt
  go_wp2
  have k0s := Blk.alloc (o := .cells #[.int .i64 A, .int .i64 B] 23) (Blk.set2 (u := .int .i64 0) (v := .int .i64 0) k0)
  exact ret_f k0s (v := .tuple #[.agg #[.int .i64 0, .int .i64 0], .bool false]) (fun ra => by clear a0 b0; simp only [results, Try.results63]; go_simp) rfl ⟨rfl, by (repeat' (first | (with_reducible exact Below.refl _ _) | (with_reducible assumption) | (with_reducible refine belowThru ?_ (by assumption)) | (with_reducible refine belowAlloc ?_) | (with_reducible refine Below.setCell ?_ (by first | omega | (simp; done) | (simp; omega)) _) | (with_reducible refine Below.drew ?_) | (with_reducible refine below_drewN ?_ _)))⟩
/-- What holds of the region whichever operations have come up. -/
def RWideI (A B C D M N X Y : Int) (ok : Bool) (w w1 w2 Wp : World) (i31 i32 i33 i34 i30 i35 i36 i10 i11 : Value) (b9 : Act) (L9 : Array Bool) (a9 : Act) (w9 : World) : Prop :=
  ∃ (gg0 gg1 gg2 gg3 gg4 gg5 gg6 gg7 gg8 gg9 : Bool) (x7 : Nat), L9 = #[gg0, gg1, gg2, gg3, gg4, gg5, gg6, gg7, gg8, gg9] ∧ a9 = (((((((((b9).put (some 31) (cond gg0 (.agg #[.int .i64 C, .int .i64 D]) (i31))).put (some 32) (cond gg1 (.agg #[.int .i64 A, .int .i64 B]) (i32))).put (some 33) (cond gg2 (.agg #[.int .i64 M, .int .i64 N]) (i33))).put (some 34) (cond gg3 (.tuple #[.agg #[.int .i64 X, .int .i64 Y], .bool ok]) (i34))).put (some 30) (cond gg4 (.tuple #[.agg #[.int .i64 X, .int .i64 Y], .bool ok]) (i30))).put (some 35) (cond gg5 (.agg #[.int .i64 X, .int .i64 Y]) (i35))).put (some 36) (cond gg6 (.bool ok) (i36))).put (some 10) (cond gg7 (.pointer (some ⟨x7, 0, none⟩)) (i10))).put (some 11) (cond gg9 (.bool ok) (i11)) ∧ Blk w9 w1.heap.size #[.int .i64 A, .int .i64 B] 23 ∧ Blk w9 w2.heap.size #[.int .i64 C, .int .i64 D] 23 ∧ Blk w9 w.heap.size #[.int .i64 0, .int .i64 0] 23 ∧ Below Wp.heap.size Wp w9 ∧ Wp.heap.size ≤ w9.heap.size ∧ (gg7 = true → Blk w9 x7 (cond gg8 #[.int .i64 X, .int .i64 Y] #[.int .i64 0, .int .i64 0]) 23 ∧ Wp.heap.size ≤ x7) ∧ (gg8 = true → gg7 = true)
set_option maxRecDepth 100000 in
set_option maxHeartbeats 16000000 in
theorem rwide_y (a : Option Addr) (n c : Nat) (zs : List Int) (t A B C D M N X Y : Int) (ok bb : Bool) (w : World) (hn : n ≤ 64) (hR : Row w a n (iv zs)) (HF : Hid (∀ w, Row w a n (iv zs) → Calls Try.prog 53 #[.slice a n c, .int .i64 t, .int .i64 0] w fun e w' => e = .returned (.tuple #[.agg #[.int .i64 A, .int .i64 B], .bool true]) ∧ Below w.heap.size w w')) (HL : Hid (∀ w, Row w a n (iv zs) → Calls Try.prog 54 #[.slice a n c, .int .i64 t, .int .i64 ((n : Int) - 1)] w fun e w' => e = .returned (.tuple #[.agg #[.int .i64 C, .int .i64 D], .bool bb]) ∧ Below w.heap.size w w')) (HG : Hid (∀ w, Calls Try.prog 92 #[.agg #[.int .i64 A, .int .i64 B]] w fun e w' => e = .returned (.agg #[.int .i64 M, .int .i64 N]) ∧ Below w.heap.size w w')) (HP : Hid (∀ w, Calls Try.prog 91 #[.agg #[.int .i64 C, .int .i64 D], .agg #[.int .i64 M, .int .i64 N]] w fun e w' => e = .returned (.tuple #[.agg #[.int .i64 X, .int .i64 Y], .bool ok]) ∧ Below w.heap.size w w')) :
    Calls Try.prog 63 #[.slice a n c, .int .i64 t] w fun e w' => e = .returned (.tuple #[.agg #[.int .i64 X, .int .i64 Y], .bool true]) ∧ Below w.heap.size w w' := by
  have HR := Lib.hid hR
  clear hR
  have hwn : IntKind.i64.wrap ((n : Int) - 1) = (n : Int) - 1 := IntWalk.i64_in _ (by omega)
  go_enter Try.func63, Try.ntmps63
  go_wp2_with fail
  refine (HF.out _ (HR.out.later (by (repeat' first | (with_reducible exact Below.refl _ _) | (with_reducible assumption) | (with_reducible refine belowThru ?_ (by assumption)) | (with_reducible refine belowAlloc ?_))))).mono ?_
  rintro e w1 ⟨rfl, hb⟩
  have k0 : Blk w1 w.heap.size #[.int .i64 0, .int .i64 0] 23 := Blk.later hb (by (repeat' (first | (with_reducible assumption) | ((with_reducible refine Blk.new ?_); first | rfl | (simp; done)) | (with_reducible refine Blk.later (by assumption) ?_) | (with_reducible refine Blk.alloc ?_) | (with_reducible refine Blk.drewN ?_) | (with_reducible refine Blk.drew ?_) | (with_reducible refine Blk.other ?_ (by first | omega | (simp; done) | (simp; omega))))))
  have hB : Below w.heap.size w w1 := by (repeat' (first | (with_reducible exact Below.refl _ _) | (with_reducible assumption) | (with_reducible refine belowThru ?_ (by assumption)) | (with_reducible refine belowAlloc ?_) | (with_reducible refine Below.setCell ?_ (by first | omega | (simp; done) | (simp; omega)) _) | (with_reducible refine Below.drew ?_) | (with_reducible refine below_drewN ?_ _)))
  clear hb
  go_wp2_with fail
  refine (HL.out _ (HR.out.later (by (repeat' (first | (with_reducible exact Below.refl _ _) | (with_reducible assumption) | (with_reducible refine belowThru ?_ (by assumption)) | (with_reducible refine belowAlloc ?_) | (with_reducible refine Below.setCell ?_ (by first | omega | (simp; done) | (simp; omega)) _) | (with_reducible refine Below.drew ?_) | (with_reducible refine below_drewN ?_ _)))))).mono ?_
  rintro e w2 ⟨rfl, hb⟩
  replace k0 : Blk w2 w.heap.size #[.int .i64 0, .int .i64 0] 23 := Blk.later hb (Blk.alloc k0)
  have k1 : Blk w2 w1.heap.size #[.int .i64 A, .int .i64 B] 23 := Blk.later hb (Blk.new rfl)
  replace hB : Below w.heap.size w w2 := belowThru (by (repeat' (first | (with_reducible exact Below.refl _ _) | (with_reducible assumption) | (with_reducible refine belowThru ?_ (by assumption)) | (with_reducible refine belowAlloc ?_) | (with_reducible refine Below.setCell ?_ (by first | omega | (simp; done) | (simp; omega)) _) | (with_reducible refine Below.drew ?_) | (with_reducible refine below_drewN ?_ _)))) hb
  clear hb
  go_wp2_with fail
  obtain ⟨Wp, hWp⟩ : ∃ Wp, w2.alloc (.cells #[.int .i64 C, .int .i64 D] 23) = Wp := ⟨_, rfl⟩
  replace k0 : Blk Wp w.heap.size #[.int .i64 0, .int .i64 0] 23 := by rw [← hWp]; exact Blk.alloc k0
  replace k1 : Blk Wp w1.heap.size #[.int .i64 A, .int .i64 B] 23 := by rw [← hWp]; exact Blk.alloc k1
  have k2 : Blk Wp w2.heap.size #[.int .i64 C, .int .i64 D] 23 := by rw [← hWp]; exact Blk.new rfl
  replace hB : Below w.heap.size w Wp := by rw [← hWp]; (repeat' (first | (with_reducible exact Below.refl _ _) | (with_reducible assumption) | (with_reducible refine belowThru ?_ (by assumption)) | (with_reducible refine belowAlloc ?_) | (with_reducible refine Below.setCell ?_ (by first | omega | (simp; done) | (simp; omega)) _) | (with_reducible refine Below.drew ?_) | (with_reducible refine below_drewN ?_ _)))
  have y0 := k0.lt; have y1 := k1.lt; have y2 := k2.lt
  rw [hWp]; clear hWp
  refine wp_region_inv (RWideI A B C D M N X Y ok w w1 w2 Wp ?i31 ?i32 ?i33 ?i34 ?i30 ?i35 ?i36 ?i10 ?i11) (by kernel_rfl) (by kernel_rfl) ?hsz ?hst ?hstep ?hfin
  case hst =>
    unfold RWideI
    refine ⟨false, false, false, false, false, false, false, false, false, false, 0, rfl, ?_, ?_, ?_, ?_, ?_, ?_, ?_, ?_⟩
    · first | (simp only [Act.put, List.setIfInBounds_toArray, List.set_cons_zero, List.set_cons_succ, cond_false]; done) | (simp only [Act.put, List.setIfInBounds_toArray, List.set_cons_zero, List.set_cons_succ, cond_false]; rfl)
    all_goals (first | (intro h; cases h; done) | ((repeat' (first | (with_reducible assumption) | ((with_reducible refine Blk.new ?_); first | rfl | (simp; done)) | (with_reducible refine Blk.later (by assumption) ?_) | (with_reducible refine Blk.alloc ?_) | (with_reducible refine Blk.drewN ?_) | (with_reducible refine Blk.drew ?_) | (with_reducible refine Blk.other ?_ (by first | omega | (simp; done) | (simp; omega))))); done) | ((repeat' (first | (with_reducible exact Below.refl _ _) | (with_reducible assumption) | (with_reducible refine belowThru ?_ (by assumption)) | (with_reducible refine belowAlloc ?_) | (with_reducible refine Below.setCell ?_ (by first | omega | (simp; done) | (simp; omega)) _) | (with_reducible refine Below.drew ?_) | (with_reducible refine below_drewN ?_ _))); done) | (simp only [cond_false]; (repeat' (first | (with_reducible assumption) | ((with_reducible refine Blk.new ?_); first | rfl | (simp; done)) | (with_reducible refine Blk.later (by assumption) ?_) | (with_reducible refine Blk.alloc ?_) | (with_reducible refine Blk.drewN ?_) | (with_reducible refine Blk.drew ?_) | (with_reducible refine Blk.other ?_ (by first | omega | (simp; done) | (simp; omega))))); done) | (simp only [World.size_drew]; omega) | (simp only [World.size_drew] at *; omega) | (simp; done) | (simp; omega))
  case hsz =>
    intro L a w9 h
    obtain ⟨gg0, gg1, gg2, gg3, gg4, gg5, gg6, gg7, gg8, gg9, x7, rfl, -⟩ := h; rfl
  case hstep =>
    intro L a w9 hI i hi
    obtain ⟨gg0, gg1, gg2, gg3, gg4, gg5, gg6, gg7, gg8, gg9, x7, rfl, rfl, fb0, fb1, fb2, fB, fL, f7, s7⟩ := hI
    obtain ⟨hi1, hi2, o, ho, hall⟩ := inv_mem hi
    clear hi
    rcases i with _ | _ | _ | _ | _ | _ | _ | _ | _ | _ | i
    · have ge0 : gg0 = false := hi2
      clear hall hi1 hi2
      subst ge0
      have ho2 := ho
      simp only [List.getElem?_toArray, List.getElem?_cons_zero, List.getElem?_cons_succ] at ho2
      have ho3 := Option.some.inj ho2; clear ho2; subst ho3
      obtain ⟨ba0, bb0⟩ := fb0.read; have bl0 := fb0.lt
      obtain ⟨ba1, bb1⟩ := fb1.read; have bl1 := fb1.lt
      obtain ⟨ba2, bb2⟩ := fb2.read; have bl2 := fb2.lt
      simp only [Act.put, List.setIfInBounds_toArray, List.set_cons_zero, List.set_cons_succ]
      simp only [cond_true, cond_false]
      refine inv_op ho (by kernel_rfl) (fun K hK => ?_)
      clear ho
      go_simp
      refine hK.out _ _ ?_
      unfold RWideI
      refine ⟨true, gg1, gg2, gg3, gg4, gg5, gg6, gg7, gg8, gg9, x7, rfl, by simp only [Act.put, List.setIfInBounds_toArray, List.set_cons_zero, List.set_cons_succ, cond_true, cond_false, Bool.cond_self], ?_, ?_, ?_, ?_, ?_, ?_, ?_⟩
      · exact fb0
      · exact fb1
      · exact fb2
      · exact fB
      · exact fL
      · exact f7
      · exact s7
    · have ge1 : gg1 = false := hi2
      clear hall hi1 hi2
      subst ge1
      have ho2 := ho
      simp only [List.getElem?_toArray, List.getElem?_cons_zero, List.getElem?_cons_succ] at ho2
      have ho3 := Option.some.inj ho2; clear ho2; subst ho3
      obtain ⟨ba0, bb0⟩ := fb0.read; have bl0 := fb0.lt
      obtain ⟨ba1, bb1⟩ := fb1.read; have bl1 := fb1.lt
      obtain ⟨ba2, bb2⟩ := fb2.read; have bl2 := fb2.lt
      simp only [Act.put, List.setIfInBounds_toArray, List.set_cons_zero, List.set_cons_succ]
      simp only [cond_true, cond_false]
      refine inv_op ho (by kernel_rfl) (fun K hK => ?_)
      clear ho
      go_simp
      refine hK.out _ _ ?_
      unfold RWideI
      refine ⟨gg0, true, gg2, gg3, gg4, gg5, gg6, gg7, gg8, gg9, x7, rfl, by simp only [Act.put, List.setIfInBounds_toArray, List.set_cons_zero, List.set_cons_succ, cond_true, cond_false, Bool.cond_self], ?_, ?_, ?_, ?_, ?_, ?_, ?_⟩
      · exact fb0
      · exact fb1
      · exact fb2
      · exact fB
      · exact fL
      · exact f7
      · exact s7
    · have ge2 : gg2 = false := hi2
      have ge1 : gg1 = true := inv_dep ho hall 1 (by kernel_rfl)
      clear hall hi1 hi2
      subst ge2 ge1
      have ho2 := ho
      simp only [List.getElem?_toArray, List.getElem?_cons_zero, List.getElem?_cons_succ] at ho2
      have ho3 := Option.some.inj ho2; clear ho2; subst ho3
      obtain ⟨ba0, bb0⟩ := fb0.read; have bl0 := fb0.lt
      obtain ⟨ba1, bb1⟩ := fb1.read; have bl1 := fb1.lt
      obtain ⟨ba2, bb2⟩ := fb2.read; have bl2 := fb2.lt
      simp only [Act.put, List.setIfInBounds_toArray, List.set_cons_zero, List.set_cons_succ]
      simp only [cond_true, cond_false]
      refine inv_op ho (by kernel_rfl) (fun K hK => ?_)
      clear ho
      go_simp
      go_at_call 92; (with_reducible refine (HG.out _).mono ?_); rintro e w8 ⟨rfl, hb⟩
      refine hK.out _ _ ?_
      unfold RWideI
      refine ⟨gg0, true, true, gg3, gg4, gg5, gg6, gg7, gg8, gg9, x7, rfl, by simp only [Act.put, List.setIfInBounds_toArray, List.set_cons_zero, List.set_cons_succ, cond_true, cond_false, Bool.cond_self], ?_, ?_, ?_, ?_, ?_, ?_, ?_⟩
      · exact Blk.later hb fb0
      · exact Blk.later hb fb1
      · exact Blk.later hb fb2
      · exact belowThru fB hb
      · have := hb.size; omega
      · intro h; obtain ⟨p, q⟩ := f7 h; exact ⟨Blk.later hb p, q⟩
      · exact s7
    · have ge3 : gg3 = false := hi2
      have ge0 : gg0 = true := inv_dep ho hall 0 (by kernel_rfl)
      have ge2 : gg2 = true := inv_dep ho hall 2 (by kernel_rfl)
      clear hall hi1 hi2
      subst ge3 ge0 ge2
      have ho2 := ho
      simp only [List.getElem?_toArray, List.getElem?_cons_zero, List.getElem?_cons_succ] at ho2
      have ho3 := Option.some.inj ho2; clear ho2; subst ho3
      obtain ⟨ba0, bb0⟩ := fb0.read; have bl0 := fb0.lt
      obtain ⟨ba1, bb1⟩ := fb1.read; have bl1 := fb1.lt
      obtain ⟨ba2, bb2⟩ := fb2.read; have bl2 := fb2.lt
      simp only [Act.put, List.setIfInBounds_toArray, List.set_cons_zero, List.set_cons_succ]
      simp only [cond_true, cond_false]
      refine inv_op ho (by kernel_rfl) (fun K hK => ?_)
      clear ho
      go_simp
      go_at_call 91; (with_reducible refine (HP.out _).mono ?_); rintro e w8 ⟨rfl, hb⟩
      refine hK.out _ _ ?_
      unfold RWideI
      refine ⟨true, gg1, true, true, gg4, gg5, gg6, gg7, gg8, gg9, x7, rfl, by simp only [Act.put, List.setIfInBounds_toArray, List.set_cons_zero, List.set_cons_succ, cond_true, cond_false, Bool.cond_self], ?_, ?_, ?_, ?_, ?_, ?_, ?_⟩
      · exact Blk.later hb fb0
      · exact Blk.later hb fb1
      · exact Blk.later hb fb2
      · exact belowThru fB hb
      · have := hb.size; omega
      · intro h; obtain ⟨p, q⟩ := f7 h; exact ⟨Blk.later hb p, q⟩
      · exact s7
    · have ge4 : gg4 = false := hi2
      have ge3 : gg3 = true := inv_dep ho hall 3 (by kernel_rfl)
      clear hall hi1 hi2
      subst ge4 ge3
      have ho2 := ho
      simp only [List.getElem?_toArray, List.getElem?_cons_zero, List.getElem?_cons_succ] at ho2
      have ho3 := Option.some.inj ho2; clear ho2; subst ho3
      obtain ⟨ba0, bb0⟩ := fb0.read; have bl0 := fb0.lt
      obtain ⟨ba1, bb1⟩ := fb1.read; have bl1 := fb1.lt
      obtain ⟨ba2, bb2⟩ := fb2.read; have bl2 := fb2.lt
      simp only [Act.put, List.setIfInBounds_toArray, List.set_cons_zero, List.set_cons_succ]
      simp only [cond_true, cond_false]
      refine inv_op ho (by kernel_rfl) (fun K hK => ?_)
      clear ho
      go_simp
      refine hK.out _ _ ?_
      unfold RWideI
      refine ⟨gg0, gg1, gg2, true, true, gg5, gg6, gg7, gg8, gg9, x7, rfl, by simp only [Act.put, List.setIfInBounds_toArray, List.set_cons_zero, List.set_cons_succ, cond_true, cond_false, Bool.cond_self], ?_, ?_, ?_, ?_, ?_, ?_, ?_⟩
      · exact fb0
      · exact fb1
      · exact fb2
      · exact fB
      · exact fL
      · exact f7
      · exact s7
    · have ge5 : gg5 = false := hi2
      have ge4 : gg4 = true := inv_dep ho hall 4 (by kernel_rfl)
      clear hall hi1 hi2
      subst ge5 ge4
      have ho2 := ho
      simp only [List.getElem?_toArray, List.getElem?_cons_zero, List.getElem?_cons_succ] at ho2
      have ho3 := Option.some.inj ho2; clear ho2; subst ho3
      obtain ⟨ba0, bb0⟩ := fb0.read; have bl0 := fb0.lt
      obtain ⟨ba1, bb1⟩ := fb1.read; have bl1 := fb1.lt
      obtain ⟨ba2, bb2⟩ := fb2.read; have bl2 := fb2.lt
      simp only [Act.put, List.setIfInBounds_toArray, List.set_cons_zero, List.set_cons_succ]
      simp only [cond_true, cond_false]
      refine inv_op ho (by kernel_rfl) (fun K hK => ?_)
      clear ho
      go_simp
      refine hK.out _ _ ?_
      unfold RWideI
      refine ⟨gg0, gg1, gg2, gg3, true, true, gg6, gg7, gg8, gg9, x7, rfl, by simp only [Act.put, List.setIfInBounds_toArray, List.set_cons_zero, List.set_cons_succ, cond_true, cond_false, Bool.cond_self], ?_, ?_, ?_, ?_, ?_, ?_, ?_⟩
      · exact fb0
      · exact fb1
      · exact fb2
      · exact fB
      · exact fL
      · exact f7
      · exact s7
    · have ge6 : gg6 = false := hi2
      have ge4 : gg4 = true := inv_dep ho hall 4 (by kernel_rfl)
      clear hall hi1 hi2
      subst ge6 ge4
      have ho2 := ho
      simp only [List.getElem?_toArray, List.getElem?_cons_zero, List.getElem?_cons_succ] at ho2
      have ho3 := Option.some.inj ho2; clear ho2; subst ho3
      obtain ⟨ba0, bb0⟩ := fb0.read; have bl0 := fb0.lt
      obtain ⟨ba1, bb1⟩ := fb1.read; have bl1 := fb1.lt
      obtain ⟨ba2, bb2⟩ := fb2.read; have bl2 := fb2.lt
      simp only [Act.put, List.setIfInBounds_toArray, List.set_cons_zero, List.set_cons_succ]
      simp only [cond_true, cond_false]
      refine inv_op ho (by kernel_rfl) (fun K hK => ?_)
      clear ho
      go_simp
      refine hK.out _ _ ?_
      unfold RWideI
      refine ⟨gg0, gg1, gg2, gg3, true, gg5, true, gg7, gg8, gg9, x7, rfl, by simp only [Act.put, List.setIfInBounds_toArray, List.set_cons_zero, List.set_cons_succ, cond_true, cond_false, Bool.cond_self], ?_, ?_, ?_, ?_, ?_, ?_, ?_⟩
      · exact fb0
      · exact fb1
      · exact fb2
      · exact fB
      · exact fL
      · exact f7
      · exact s7
    · have ge7 : gg7 = false := hi2
      clear hall hi1 hi2
      subst ge7
      have ho2 := ho
      simp only [List.getElem?_toArray, List.getElem?_cons_zero, List.getElem?_cons_succ] at ho2
      have ho3 := Option.some.inj ho2; clear ho2; subst ho3
      obtain ⟨ba0, bb0⟩ := fb0.read; have bl0 := fb0.lt
      obtain ⟨ba1, bb1⟩ := fb1.read; have bl1 := fb1.lt
      obtain ⟨ba2, bb2⟩ := fb2.read; have bl2 := fb2.lt
      obtain rfl : gg8 = false := by cases gg8; rfl; exact Bool.noConfusion (s7 rfl)
      simp only [Act.put, List.setIfInBounds_toArray, List.set_cons_zero, List.set_cons_succ]
      simp only [cond_true, cond_false]
      refine inv_op ho (by kernel_rfl) (fun K hK => ?_)
      clear ho
      go_simp
      refine hK.out _ _ ?_
      unfold RWideI
      refine ⟨gg0, gg1, gg2, gg3, gg4, gg5, gg6, true, false, gg9, w9.heap.size, rfl, by simp only [Act.put, List.setIfInBounds_toArray, List.set_cons_zero, List.set_cons_succ, cond_true, cond_false, Bool.cond_self], ?_, ?_, ?_, ?_, ?_, ?_, ?_⟩
      · exact fb0.alloc
      · exact fb1.alloc
      · exact fb2.alloc
      · exact belowAlloc fB
      · simp only [World.size_alloc]; omega
      · intro _; exact ⟨Blk.new rfl, fL⟩
      · intro _; rfl
    · have ge8 : gg8 = false := hi2
      have ge5 : gg5 = true := inv_dep ho hall 5 (by kernel_rfl)
      have ge7 : gg7 = true := inv_dep ho hall 7 (by kernel_rfl)
      clear hall hi1 hi2
      subst ge8 ge5 ge7
      have ho2 := ho
      simp only [List.getElem?_toArray, List.getElem?_cons_zero, List.getElem?_cons_succ] at ho2
      have ho3 := Option.some.inj ho2; clear ho2; subst ho3
      obtain ⟨p7, q7⟩ := f7 rfl
      obtain ⟨ra7, rb7⟩ := p7.read
      have rl7 := p7.lt
      obtain ⟨ba0, bb0⟩ := fb0.read; have bl0 := fb0.lt
      obtain ⟨ba1, bb1⟩ := fb1.read; have bl1 := fb1.lt
      obtain ⟨ba2, bb2⟩ := fb2.read; have bl2 := fb2.lt
      have rl7 := p7.lt
      skip
      simp only [Act.put, List.setIfInBounds_toArray, List.set_cons_zero, List.set_cons_succ]
      simp only [cond_true, cond_false]
      refine inv_op ho (by kernel_rfl) (fun K hK => ?_)
      clear ho
      go_simp
      refine hK.out _ _ ?_
      unfold RWideI
      refine ⟨gg0, gg1, gg2, gg3, gg4, true, gg6, true, true, gg9, x7, rfl, by simp only [Act.put, List.setIfInBounds_toArray, List.set_cons_zero, List.set_cons_succ, cond_true, cond_false, Bool.cond_self], ?_, ?_, ?_, ?_, ?_, ?_, ?_⟩
      · (repeat' (first | (with_reducible assumption) | ((with_reducible refine Blk.new ?_); first | rfl | (simp; done)) | (with_reducible refine Blk.later (by assumption) ?_) | (with_reducible refine Blk.alloc ?_) | (with_reducible refine Blk.drewN ?_) | (with_reducible refine Blk.drew ?_) | (with_reducible refine Blk.other ?_ (by first | omega | (simp; done) | (simp; omega)))))
      · (repeat' (first | (with_reducible assumption) | ((with_reducible refine Blk.new ?_); first | rfl | (simp; done)) | (with_reducible refine Blk.later (by assumption) ?_) | (with_reducible refine Blk.alloc ?_) | (with_reducible refine Blk.drewN ?_) | (with_reducible refine Blk.drew ?_) | (with_reducible refine Blk.other ?_ (by first | omega | (simp; done) | (simp; omega)))))
      · (repeat' (first | (with_reducible assumption) | ((with_reducible refine Blk.new ?_); first | rfl | (simp; done)) | (with_reducible refine Blk.later (by assumption) ?_) | (with_reducible refine Blk.alloc ?_) | (with_reducible refine Blk.drewN ?_) | (with_reducible refine Blk.drew ?_) | (with_reducible refine Blk.other ?_ (by first | omega | (simp; done) | (simp; omega)))))
      · (repeat' (first | (with_reducible exact Below.refl _ _) | (with_reducible assumption) | (with_reducible refine belowThru ?_ (by assumption)) | (with_reducible refine belowAlloc ?_) | (with_reducible refine Below.setCell ?_ (by first | omega | (simp; done) | (simp; omega)) _) | (with_reducible refine Below.drew ?_) | (with_reducible refine below_drewN ?_ _)))
      · first | exact fL | (simp; omega)
      · intro _; exact ⟨by exact Blk.set (Blk.set (p7)), q7⟩
      · intro _; rfl
    · have ge9 : gg9 = false := hi2
      have ge6 : gg6 = true := inv_dep ho hall 6 (by kernel_rfl)
      clear hall hi1 hi2
      subst ge9 ge6
      have ho2 := ho
      simp only [List.getElem?_toArray, List.getElem?_cons_zero, List.getElem?_cons_succ] at ho2
      have ho3 := Option.some.inj ho2; clear ho2; subst ho3
      obtain ⟨ba0, bb0⟩ := fb0.read; have bl0 := fb0.lt
      obtain ⟨ba1, bb1⟩ := fb1.read; have bl1 := fb1.lt
      obtain ⟨ba2, bb2⟩ := fb2.read; have bl2 := fb2.lt
      simp only [Act.put, List.setIfInBounds_toArray, List.set_cons_zero, List.set_cons_succ]
      simp only [cond_true, cond_false]
      refine inv_op ho (by kernel_rfl) (fun K hK => ?_)
      clear ho
      go_simp
      refine hK.out _ _ ?_
      unfold RWideI
      refine ⟨gg0, gg1, gg2, gg3, gg4, gg5, true, gg7, gg8, true, x7, rfl, by simp only [Act.put, List.setIfInBounds_toArray, List.set_cons_zero, List.set_cons_succ, cond_true, cond_false, Bool.cond_self], ?_, ?_, ?_, ?_, ?_, ?_, ?_⟩
      · exact fb0
      · exact fb1
      · exact fb2
      · exact fB
      · exact fL
      · exact f7
      · exact s7
    · exfalso; simp at hi1; omega
  case hfin =>
    intro a w9 hI
    obtain ⟨gg0, gg1, gg2, gg3, gg4, gg5, gg6, gg7, gg8, gg9, x7, hL, rfl, fb0, fb1, fb2, fB, fL, f7, s7⟩ := hI
    have hL2 : #[true, true, true, true, true, true, true, true, true, true] = #[gg0, gg1, gg2, gg3, gg4, gg5, gg6, gg7, gg8, gg9] := hL
    cases hL2
    obtain ⟨p7, q7⟩ := f7 rfl
    clear f7 s7
    simp only [Act.put, List.setIfInBounds_toArray, List.set_cons_zero, List.set_cons_succ]
    simp only [cond_true]
    obtain ⟨Wq, rfl⟩ : ∃ z, z = w9 := ⟨_, rfl⟩
    have k9 : Blk Wq x7 #[.int .i64 X, .int .i64 Y] 23 := p7
    have k0 := fb2
    have hB : Below w.heap.size w Wq := belowThru hB (by (repeat' (first | (with_reducible exact Below.refl _ _) | (with_reducible assumption) | (with_reducible refine belowThru ?_ (by assumption)) | (with_reducible refine belowAlloc ?_) | (with_reducible refine Below.setCell ?_ (by first | omega | (simp; done) | (simp; omega)) _) | (with_reducible refine Below.drew ?_) | (with_reducible refine below_drewN ?_ _))))
    clear fb0 fb1 fb2 p7 fB
    obtain ⟨a9, b9⟩ := k9.read
    have y9 := k9.lt
    obtain ⟨a0, b0⟩ := k0.read
    have y0 := k0.lt
    go_wp2
    have k0s := (Blk.set2 (u := .int .i64 X) (v := .int .i64 Y) k0)
    exact ret_f k0s (v := .tuple #[.agg #[.int .i64 X, .int .i64 Y], .bool true]) (fun ra => by clear a0 b0; simp only [results, Try.results63]; go_simp) rfl ⟨rfl, by (repeat' (first | (with_reducible exact Below.refl _ _) | (with_reducible assumption) | (with_reducible refine belowThru ?_ (by assumption)) | (with_reducible refine belowAlloc ?_) | (with_reducible refine Below.setCell ?_ (by first | omega | (simp; done) | (simp; omega)) _) | (with_reducible refine Below.drew ?_) | (with_reducible refine below_drewN ?_ _)))⟩
end Go.Proofs.Ytdimmnoflenfhaa
/-
  Layer 5, the reference: Width.
-/
namespace Go.Proofs.Ytdimmnoflenfhaa
open Go.RowKit Go.Shelf
set_option linter.unusedVariables false
set_option linter.unusedSimpArgs false

set_option maxRecDepth 100000 in
set_option maxHeartbeats 16000000 in
theorem rwi_e (a : Option Addr) (n c : Nat) (zs U L : List Int) (t p y A B C D E : Int) (bb : Bool) (w : World) (hR : Row w a n (iv zs)) (hE : (E != 0) = true) (HA : Hid (∀ w, Row w a n (iv zs) → Calls Try.prog 52 #[.slice a n c, .int .i64 t, .int .i64 0, .int .i64 y] w fun e w' => e = .returned (.int .i64 E) ∧ Below w.heap.size w w')) :
    Calls Try.prog 32 #[.slice a n c, .int .i64 t, .int .i64 y] w fun e w' => e = .returned (.tuple #[.agg #[.int .i64 0, .int .i64 0, .int .i64 0, .int .i64 0], .int .i64 E]) ∧ Below w.heap.size w w' := by
  have HR := Lib.hid hR
  clear hR
  go_enter Try.func32, Try.ntmps32
  go_wp2_with fail
  refine (HA.out _ (HR.out.later (by (repeat' first | (with_reducible exact Below.refl _ _) | (with_reducible assumption) | (with_reducible refine belowThru ?_ (by assumption)) | (with_reducible refine belowAlloc ?_))))).mono ?_
  rintro e w1 ⟨rfl, hb⟩
  have k0 : Blk w1 w.heap.size #[.int .i64 0, .int .i64 0, .int .i64 0, .int .i64 0] 30 := Blk.later hb (by (repeat' (first | (with_reducible assumption) | ((with_reducible refine Blk.new ?_); first | rfl | (simp; done)) | (with_reducible refine Blk.later (by assumption) ?_) | (with_reducible refine Blk.alloc ?_) | (with_reducible refine Blk.drewN ?_) | (with_reducible refine Blk.drew ?_) | (with_reducible refine Blk.other ?_ (by first | omega | (simp; done) | (simp; omega))))))
  have hB : Below w.heap.size w w1 := by (repeat' (first | (with_reducible exact Below.refl _ _) | (with_reducible assumption) | (with_reducible refine belowThru ?_ (by assumption)) | (with_reducible refine belowAlloc ?_) | (with_reducible refine Below.setCell ?_ (by first | omega | (simp; done) | (simp; omega)) _) | (with_reducible refine Below.drew ?_) | (with_reducible refine below_drewN ?_ _)))
  clear hb
  obtain ⟨a0, b0⟩ := k0.read
  have y0 := k0.lt
  go_wp2
  have k0s := (Blk.set4 (v0 := .int .i64 0) (v1 := .int .i64 0) (v2 := .int .i64 0) (v3 := .int .i64 0) k0)
  exact ret_f k0s (v := .tuple #[.agg #[.int .i64 0, .int .i64 0, .int .i64 0, .int .i64 0], .int .i64 E]) (fun ra => by clear a0 b0; simp only [results, Try.results32]; go_simp) rfl ⟨rfl, by (repeat' (first | (with_reducible exact Below.refl _ _) | (with_reducible assumption) | (with_reducible refine belowThru ?_ (by assumption)) | (with_reducible refine belowAlloc ?_) | (with_reducible refine Below.setCell ?_ (by first | omega | (simp; done) | (simp; omega)) _) | (with_reducible refine Below.drew ?_) | (with_reducible refine below_drewN ?_ _)))⟩
set_option maxRecDepth 100000 in
set_option maxHeartbeats 16000000 in
theorem rwi_n (a : Option Addr) (n c : Nat) (zs U L : List Int) (t p y A B C D E : Int) (bb : Bool) (w : World) (hR : Row w a n (iv zs)) (wy : IntKind.i64.wrap (-y) = -y) (HA : Hid (∀ w, Row w a n (iv zs) → Calls Try.prog 52 #[.slice a n c, .int .i64 t, .int .i64 0, .int .i64 y] w fun e w' => e = .returned (.int .i64 0) ∧ Below w.heap.size w w')) (HM1 : Hid (∀ w, Row w a n (iv zs) → Calls Try.prog 57 #[.slice a n c, .int .i64 (-y)] w fun e w' => ∃ (b : Option Addr) (d : Nat), e = .returned (.slice b n d) ∧ Row w' b n (iv L) ∧ Below w.heap.size w w')) (HF1 : Hid (∀ (a : Option Addr) (c : Nat) (w : World), Row w a n (iv L) → Calls Try.prog 63 #[.slice a n c, .int .i64 t] w fun e w' => e = .returned (.tuple #[.agg #[.int .i64 A, .int .i64 B], .bool false]) ∧ Below w.heap.size w w')) :
    Calls Try.prog 32 #[.slice a n c, .int .i64 t, .int .i64 y] w fun e w' => e = .returned (.tuple #[.agg #[.int .i64 0, .int .i64 0, .int .i64 0, .int .i64 0], .int .i64 6]) ∧ Below w.heap.size w w' := by
  have HR := Lib.hid hR
  clear hR
  go_enter Try.func32, Try.ntmps32
  go_wp2_with fail
  refine (HA.out _ (HR.out.later (by (repeat' first | (with_reducible exact Below.refl _ _) | (with_reducible assumption) | (with_reducible refine belowThru ?_ (by assumption)) | (with_reducible refine belowAlloc ?_))))).mono ?_
  rintro e w1 ⟨rfl, hb⟩
  have k0 : Blk w1 w.heap.size #[.int .i64 0, .int .i64 0, .int .i64 0, .int .i64 0] 30 := Blk.later hb (by (repeat' (first | (with_reducible assumption) | ((with_reducible refine Blk.new ?_); first | rfl | (simp; done)) | (with_reducible refine Blk.later (by assumption) ?_) | (with_reducible refine Blk.alloc ?_) | (with_reducible refine Blk.drewN ?_) | (with_reducible refine Blk.drew ?_) | (with_reducible refine Blk.other ?_ (by first | omega | (simp; done) | (simp; omega))))))
  have hB : Below w.heap.size w w1 := by (repeat' (first | (with_reducible exact Below.refl _ _) | (with_reducible assumption) | (with_reducible refine belowThru ?_ (by assumption)) | (with_reducible refine belowAlloc ?_) | (with_reducible refine Below.setCell ?_ (by first | omega | (simp; done) | (simp; omega)) _) | (with_reducible refine Below.drew ?_) | (with_reducible refine below_drewN ?_ _)))
  clear hb
  go_wp2_with fail
  refine (HM1.out _ (HR.out.later (by (repeat' first | (with_reducible exact Below.refl _ _) | (with_reducible assumption) | (with_reducible refine belowThru ?_ (by assumption)) | (with_reducible refine belowAlloc ?_))))).mono ?_
  rintro e w2 ⟨b1, d1, rfl, hr, hb⟩
  replace k0 := Blk.later hb k0
  replace hB := belowThru hB hb
  have HV := Lib.hid hr
  clear hr hb
  go_wp2_with fail
  refine (HF1.out _ _ _ (HV.out.later (by (repeat' first | (with_reducible exact Below.refl _ _) | (with_reducible assumption) | (with_reducible refine belowThru ?_ (by assumption)) | (with_reducible refine belowAlloc ?_))))).mono ?_
  rintro e w3 ⟨rfl, hb⟩
  replace k0 := Blk.later hb k0
  replace hB := belowThru hB hb
  clear hb HV
  obtain ⟨a0, b0⟩ := k0.read
  have y0 := k0.lt
  go_wp2
  have k0s := (Blk.alloc (o := .cells #[.int .i64 A, .int .i64 B] 23) (Blk.set4 (v0 := .int .i64 0) (v1 := .int .i64 0) (v2 := .int .i64 0) (v3 := .int .i64 0) k0))
  exact ret_f k0s (v := .tuple #[.agg #[.int .i64 0, .int .i64 0, .int .i64 0, .int .i64 0], .int .i64 6]) (fun ra => by clear a0 b0; simp only [results, Try.results32]; go_simp) rfl ⟨rfl, by (repeat' (first | (with_reducible exact Below.refl _ _) | (with_reducible assumption) | (with_reducible refine belowThru ?_ (by assumption)) | (with_reducible refine belowAlloc ?_) | (with_reducible refine Below.setCell ?_ (by first | omega | (simp; done) | (simp; omega)) _) | (with_reducible refine Below.drew ?_) | (with_reducible refine below_drewN ?_ _)))⟩
set_option maxRecDepth 100000 in
set_option maxHeartbeats 16000000 in
theorem rwi_y (a : Option Addr) (n c : Nat) (zs U L : List Int) (t p y A B C D E : Int) (bb : Bool) (w : World) (hR : Row w a n (iv zs)) (wy : IntKind.i64.wrap (-y) = -y) (HA : Hid (∀ w, Row w a n (iv zs) → Calls Try.prog 52 #[.slice a n c, .int .i64 t, .int .i64 0, .int .i64 y] w fun e w' => e = .returned (.int .i64 0) ∧ Below w.heap.size w w')) (HM1 : Hid (∀ w, Row w a n (iv zs) → Calls Try.prog 57 #[.slice a n c, .int .i64 (-y)] w fun e w' => ∃ (b : Option Addr) (d : Nat), e = .returned (.slice b n d) ∧ Row w' b n (iv L) ∧ Below w.heap.size w w')) (HF1 : Hid (∀ (a : Option Addr) (c : Nat) (w : World), Row w a n (iv L) → Calls Try.prog 63 #[.slice a n c, .int .i64 t] w fun e w' => e = .returned (.tuple #[.agg #[.int .i64 A, .int .i64 B], .bool true]) ∧ Below w.heap.size w w')) (HM2 : Hid (∀ w, Row w a n (iv zs) → Calls Try.prog 57 #[.slice a n c, .int .i64 y] w fun e w' => ∃ (b : Option Addr) (d : Nat), e = .returned (.slice b n d) ∧ Row w' b n (iv U) ∧ Below w.heap.size w w')) (HF2 : Hid (∀ (a : Option Addr) (c : Nat) (w : World), Row w a n (iv U) → Calls Try.prog 63 #[.slice a n c, .int .i64 t] w fun e w' => e = .returned (.tuple #[.agg #[.int .i64 C, .int .i64 D], .bool bb]) ∧ Below w.heap.size w w')) :
    Calls Try.prog 32 #[.slice a n c, .int .i64 t, .int .i64 y] w fun e w' => e = .returned (.tuple #[.agg #[.int .i64 A, .int .i64 B, .int .i64 C, .int .i64 D], .int .i64 0]) ∧ Below w.heap.size w w' := by
  have HR := Lib.hid hR
  clear hR
  go_enter Try.func32, Try.ntmps32
  go_wp2_with fail
  refine (HA.out _ (HR.out.later (by (repeat' first | (with_reducible exact Below.refl _ _) | (with_reducible assumption) | (with_reducible refine belowThru ?_ (by assumption)) | (with_reducible refine belowAlloc ?_))))).mono ?_
  rintro e w1 ⟨rfl, hb⟩
  have k0 : Blk w1 w.heap.size #[.int .i64 0, .int .i64 0, .int .i64 0, .int .i64 0] 30 := Blk.later hb (by (repeat' (first | (with_reducible assumption) | ((with_reducible refine Blk.new ?_); first | rfl | (simp; done)) | (with_reducible refine Blk.later (by assumption) ?_) | (with_reducible refine Blk.alloc ?_) | (with_reducible refine Blk.drewN ?_) | (with_reducible refine Blk.drew ?_) | (with_reducible refine Blk.other ?_ (by first | omega | (simp; done) | (simp; omega))))))
  have hB : Below w.heap.size w w1 := by (repeat' (first | (with_reducible exact Below.refl _ _) | (with_reducible assumption) | (with_reducible refine belowThru ?_ (by assumption)) | (with_reducible refine belowAlloc ?_) | (with_reducible refine Below.setCell ?_ (by first | omega | (simp; done) | (simp; omega)) _) | (with_reducible refine Below.drew ?_) | (with_reducible refine below_drewN ?_ _)))
  clear hb
  go_wp2_with fail
  refine (HM1.out _ (HR.out.later (by (repeat' first | (with_reducible exact Below.refl _ _) | (with_reducible assumption) | (with_reducible refine belowThru ?_ (by assumption)) | (with_reducible refine belowAlloc ?_))))).mono ?_
  rintro e w2 ⟨b1, d1, rfl, hr, hb⟩
  replace k0 := Blk.later hb k0
  replace hB := belowThru hB hb
  have HV := Lib.hid hr
  clear hr hb
  go_wp2_with fail
  refine (HF1.out _ _ _ (HV.out.later (by (repeat' first | (with_reducible exact Below.refl _ _) | (with_reducible assumption) | (with_reducible refine belowThru ?_ (by assumption)) | (with_reducible refine belowAlloc ?_))))).mono ?_
  rintro e w3 ⟨rfl, hb⟩
  replace k0 := Blk.later hb k0
  replace hB := belowThru hB hb
  clear hb HV
  go_wp2_with fail
  refine (HM2.out _ (HR.out.later (by (repeat' (first | (with_reducible exact Below.refl _ _) | (with_reducible assumption) | (with_reducible refine belowThru ?_ (by assumption)) | (with_reducible refine belowAlloc ?_) | (with_reducible refine Below.setCell ?_ (by first | omega | (simp; done) | (simp; omega)) _) | (with_reducible refine Below.drew ?_) | (with_reducible refine below_drewN ?_ _)))))).mono ?_
  rintro e w4 ⟨b2, d2, rfl, hr, hb⟩
  replace k0 : Blk w4 w.heap.size #[.int .i64 0, .int .i64 0, .int .i64 0, .int .i64 0] 30 := Blk.later hb (Blk.alloc k0)
  have k1 : Blk w4 w3.heap.size #[.int .i64 A, .int .i64 B] 23 := Blk.later hb (Blk.new rfl)
  replace hB : Below w.heap.size w w4 := belowThru (by (repeat' (first | (with_reducible exact Below.refl _ _) | (with_reducible assumption) | (with_reducible refine belowThru ?_ (by assumption)) | (with_reducible refine belowAlloc ?_) | (with_reducible refine Below.setCell ?_ (by first | omega | (simp; done) | (simp; omega)) _) | (with_reducible refine Below.drew ?_) | (with_reducible refine below_drewN ?_ _)))) hb
  have HV := Lib.hid hr
  clear hr hb
  go_wp2_with fail
  refine (HF2.out _ _ _ (HV.out.later (by (repeat' first | (with_reducible exact Below.refl _ _) | (with_reducible assumption) | (with_reducible refine belowThru ?_ (by assumption)) | (with_reducible refine belowAlloc ?_))))).mono ?_
  rintro e w5 ⟨rfl, hb⟩
  replace k0 := Blk.later hb k0
  replace k1 := Blk.later hb k1
  replace hB := belowThru hB hb
  clear hb HV
  obtain ⟨a1, b1'⟩ := k1.read
  have y1 := k1.lt
  obtain ⟨a0, b0⟩ := k0.read
  have y0 := k0.lt
  go_wp2
  have k0s := (Blk.alloc (o := .cells #[.int .i64 C, .int .i64 D] 23) (Blk.set4 (v0 := .int .i64 A) (v1 := .int .i64 B) (v2 := .int .i64 C) (v3 := .int .i64 D) k0))
  exact ret_f k0s (v := .tuple #[.agg #[.int .i64 A, .int .i64 B, .int .i64 C, .int .i64 D], .int .i64 0]) (fun ra => by clear a0 b0; simp only [results, Try.results32]; go_simp) rfl ⟨rfl, by (repeat' (first | (with_reducible exact Below.refl _ _) | (with_reducible assumption) | (with_reducible refine belowThru ?_ (by assumption)) | (with_reducible refine belowAlloc ?_) | (with_reducible refine Below.setCell ?_ (by first | omega | (simp; done) | (simp; omega)) _) | (with_reducible refine Below.drew ?_) | (with_reducible refine below_drewN ?_ _)))⟩
theorem rwide_any (a : Option Addr) (n c : Nat) (zs : List Int) (t : Int) (hz : okP zs) (hl : zs.length = n) (ht : okT t) (w : World) (hR : Row w a n (iv zs)) :
    Calls Try.prog 63 #[.slice a n c, .int .i64 t] w fun e w' => e = .returned (.tuple #[.agg #[.int .i64 (oN (WX t zs)), .int .i64 (oD (WX t zs))], .bool (WX t zs).isSome]) ∧ Below w.heap.size w w' := by
  have h2 : 2 ≤ n := by have := hz.1.1; omega
  have hn : n ≤ 64 := by have := hz.1.2; omega
  have HF : ∀ w, Row w a n (iv zs) → Calls Try.prog 53 #[.slice a n c, .int .i64 t, .int .i64 0] w fun e w' => e = .returned (.tuple #[.agg #[.int .i64 (oN (FX t zs 0)), .int .i64 (oD (FX t zs 0))], .bool (FX t zs 0).isSome]) ∧ Below w.heap.size w w' := fun w hR => rfirstOf_any a n c zs t 0 (by omega) hz hl ht w hR
  have HL := fun w hR => rlastOf_any a n c zs t (n - 1) (by omega) hz hl ht w hR
  rw [show ((n - 1 : Nat) : Int) = (n : Int) - 1 by omega] at HL
  cases hW : WX t zs with
  | none =>
    have h0 := (WX_none (by omega)).1 hW
    rw [h0] at HF
    exact rwide_n a n c zs t _ _ 0 0 0 0 0 0 true true w hn hR (Lib.hid HF)
  | some d =>
    have hd := (WX_fits hz ht.1 hW).2
    obtain ⟨x, y, hx, hy, rfl⟩ := WX_some.1 hW
    rw [hl] at hy
    have fx := (FX_fits hz ht.1 (by omega) hx).2
    have fy := (LX_fits hz ht.1 (by omega) hy).2
    rw [hx] at HF
    rw [hy] at HL
    have HP := fun w => rplus_q y (-x) fy (fits_neg x fx) w
    rw [← Rat.sub_eq_add_neg, rn_yes hd, rd_yes hd] at HP
    exact rwide_y a n c zs t _ _ _ _ _ _ _ _ _ _ w hn hR (Lib.hid HF) (Lib.hid HL) (Lib.hid (rneg_q x fx)) (Lib.hid HP)
theorem rwi_any (a : Option Addr) (n c : Nat) (zs : List Int) (t y : Int) (hn : n ≤ maxLen) (w : World) (hR : Row w a n (iv zs)) :
    Calls Try.prog 32 #[.slice a n c, .int .i64 t, .int .i64 y] w fun e w' => e = .returned (.tuple #[.agg #[.int .i64 (s1 (wiS t zs y)), .int .i64 (s2 (wiS t zs y)), .int .i64 (s3 (wiS t zs y)), .int .i64 (s4 (wiS t zs y))], .int .i64 (wiE t zs y)]) ∧ Below w.heap.size w w' := by
  have hx : zs.length = n := by have := hR.1; rwa [iv_length] at this
  have HA := fun w hR => asked_any a n c zs t 0 y hn w hR
  by_cases hz : okP zs
  · have hi : inL zs 0 := ⟨by omega, by have := hz.1.1; omega⟩
    by_cases h1 : okN y ∧ okT t
    · rw [asQ_ok hz ⟨h1.2, hi, h1.1⟩] at HA
      have hn64 : n ≤ 64 := by have := hz.1.2; omega
      have wy : IntKind.i64.wrap (-y) = -y := IntWalk.i64_in _ (by have := h1.1.1; have := h1.1.2; omega)
      have HM1 := fun w hR => rmoved a n c zs (-y) hn64 hz.2 (by have := h1.1.1; have := h1.1.2; omega) w hR
      unfold RetM at HM1
      rw [upL_map hx, lwL_eq hz.2 h1.1.1] at HM1
      have HM2 := fun w hR => rmoved a n c zs y hn64 hz.2 (by have := h1.1.1; have := h1.1.2; omega) w hR
      unfold RetM at HM2
      rw [upL_map hx, upL_eq hz.2 h1.1.1] at HM2
      have HF1 := fun (a : Option Addr) (c : Nat) (w : World) (hR : Row w a n (iv (lwL y zs))) => rwide_any a n c (lwL y zs) t (lwL_ok hz h1.1.1) (by rw [lwL_length]; exact hx) h1.2 w hR
      have HF2 := fun (a : Option Addr) (c : Nat) (w : World) (hR : Row w a n (iv (upL y zs))) => rwide_any a n c (upL y zs) t (upL_ok hz h1.1.1) (by rw [upL_length]; exact hx) h1.2 w hR
      have e1 : wiS t zs y = both (WX t (lwL y zs)) (WX t (upL y zs)) := if_pos ⟨hz, h1⟩
      have e2 : wiE t zs y = if (WX t (lwL y zs)).isSome then 0 else 6 := asE_ok hz h1
      rw [e1, e2]
      cases ho : WX t (lwL y zs) with
      | none =>
        rw [ho] at HF1
        rw [show both none (WX t (upL y zs)) = none from rfl]
        exact rwi_n a n c zs (upL y zs) (lwL y zs) t 0 y _ _ 0 0 0 true w hR wy (Lib.hid HA) (Lib.hid HM1) (Lib.hid HF1)
      | some x =>
        obtain ⟨x', ho', -⟩ := WX_le (lw_up hz.2 h1.1.1) (by rw [lwL_length]; have := hz.1.1; omega) ho
        rw [ho] at HF1
        rw [ho'] at HF2 ⊢
        exact rwi_y a n c zs (upL y zs) (lwL y zs) t 0 y _ _ _ _ 0 true w hR wy (Lib.hid HA) (Lib.hid HM1) (Lib.hid HF1) (Lib.hid HM2) (Lib.hid HF2)
    · rw [asQ_arg hz (fun g => h1 ⟨g.2.2, g.1⟩)] at HA
      rw [show wiS t zs y = none from if_neg (fun g => h1 g.2), show wiE t zs y = _ from asE_arg hz h1]
      exact rwi_e a n c zs [] [] t 0 y 0 0 0 0 2 true w hR rfl (Lib.hid HA)
  · rw [asQ_no hz] at HA
    rw [show wiS t zs y = none from if_neg (fun g => hz g.1), show wiE t zs y = _ from asE_no hz]
    exact rwi_e a n c zs [] [] t 0 y 0 0 0 0 50 true w hR rfl (Lib.hid HA)
end Go.Proofs.Ytdimmnoflenfhaa
