/-
  The texts that the laws of this seat share, merged: part 7.
-/
import Derived.BigQuiet
import Derived.ChangeSame
import Derived.Deep.CutBlock
import Derived.Deep.DeepCutAuto
import Derived.Deep.DeepHandedRow
import Derived.Deep.Draws
import Derived.Deep.LoopGhost
import Derived.Deep.OwnRows
import Derived.Deep.QuietTactic
import Derived.Deep.RegionHeld3
import Derived.IntWalk
import Derived.LaidSub
import Derived.Laws.AppendOwn
import Derived.Laws.Bits64b
import Derived.Lay
import Derived.Lib.Hide
import Derived.Lib.ItoaNum
import Derived.Lib.SmallJoins
import Derived.LoopIn
import Derived.LoopNIn
import Derived.LoopTactic
import Derived.Maps.AppendAt
import Derived.OneCell
import Derived.OpenShut
import Derived.Orders
import Derived.OwnWalkIn
import Derived.ProofKit
import Derived.RangeFuncBound
import Derived.RangeFuncCalls
import Derived.RangeFuncLeaves
import Derived.RangeFuncNested
import Derived.Shelf.Abstract
import Derived.Shelf.AbstractIn
import Derived.Shelf.Bits.Mul64
import Derived.Shelf.RegionOpen
import Derived.Shelf.Small.Bits
import Derived.Shelf.Spec.BitsCarry
import Derived.Shelf.Strconv.Itoa0
import Derived.TacticsInMore
import Derived.Test.YtbcgebobfnclnaaProg
import Derived.Test.YtbcgebobfnclnaaRows
import Derived.WalkKit
import Derived.WalkLawsBesides
import Derived.WalkSmall
import Derived.WalkSpells
import Derived.Test.YtbcgebobfnclnaaM1
import Derived.Test.YtbcgebobfnclnaaM2
import Derived.Test.YtbcgebobfnclnaaM3
import Derived.Test.YtbcgebobfnclnaaM6
/-
  Layer 5: profiles in reverse order: the mathematics.
-/
namespace Go.Proofs.Ytbcgebobfnclnaa
open Go.RowKit Go.Shelf
set_option linter.unusedVariables false
set_option linter.unusedSimpArgs false

theorem beq0 {E : Int} (h : E ≠ 0) : (E == 0) = false := by simpa using h
theorem bne0 {E : Int} (h : E ≠ 0) : (E != 0) = true := by simpa using h
theorem revL (zs : List Int) : (List.range zs.length).map (fun k => zs[zs.length - 1 - k]?.getD 0) = zs.reverse := by
  apply List.ext_getElem?
  intro k
  by_cases h : k < zs.length
  · rw [List.getElem?_reverse h, List.getElem?_map, List.getElem?_range h]
    simp [List.getElem?_eq_getElem (show zs.length - 1 - k < zs.length by omega)]
  · rw [List.getElem?_eq_none (by simp; omega), List.getElem?_eq_none (by simp; omega)]
theorem LX_rev {t : Int} {zs : List Int} {p : Nat} (hp : p < zs.length) : LX t zs.reverse (zs.length - 1 - p) = (FX t zs p).map fun x => (((zs.length : Int) - 1 : Int) : Rat) - x := by
  unfold LX FX
  rw [show zs.length - 1 - p + 1 = zs.length - p by omega, List.take_reverse, List.reverse_reverse, show zs.length - (zs.length - p) = p by omega, Option.map_map]
  congr 1
  funext d
  show (((zs.length - 1 - p : Nat) : Int) : Rat) - d = (((zs.length : Int) - 1 : Int) : Rat) - (((p : Int) : Rat) + d)
  rw [show ((zs.length - 1 - p : Nat) : Int) = (zs.length : Int) - 1 - (p : Int) by omega, Rat.intCast_sub]
  grind
theorem FX_rev {t : Int} {zs : List Int} {p : Nat} (hp : p < zs.length) : FX t zs.reverse (zs.length - 1 - p) = (LX t zs p).map fun x => (((zs.length : Int) - 1 : Int) : Rat) - x := by
  unfold LX FX
  rw [List.drop_reverse, show zs.length - (zs.length - 1 - p) = p + 1 by omega, Option.map_map]
  congr 1
  funext d
  show (((zs.length - 1 - p : Nat) : Int) : Rat) + d = (((zs.length : Int) - 1 : Int) : Rat) - (((p : Int) : Rat) - d)
  rw [show ((zs.length - 1 - p : Nat) : Int) = (zs.length : Int) - 1 - (p : Int) by omega, Rat.intCast_sub]
  grind
theorem WX_rev {t : Int} {zs : List Int} (hl : 0 < zs.length) : WX t zs.reverse = WX t zs := by
  unfold WX
  have e1 := FX_rev (t := t) (zs := zs) (p := zs.length - 1) (by omega)
  have e2 := LX_rev (t := t) (zs := zs) (p := 0) hl
  rw [show zs.length - 1 - (zs.length - 1) = 0 by omega] at e1
  rw [show zs.length - 1 - 0 = zs.length - 1 by omega] at e2
  rw [List.length_reverse, e1, e2]
  cases FX t zs 0 with
  | none => cases LX t zs (zs.length - 1) <;> rfl
  | some x =>
    cases LX t zs (zs.length - 1) with
    | none => rfl
    | some y =>
      show some _ = some _
      congr 1
      grind
theorem okP_rev {zs : List Int} : okP zs.reverse ↔ okP zs := by
  unfold okP V8
  rw [List.length_reverse]
  simp only [List.mem_reverse]
theorem upL_rev (n : Int) (zs : List Int) : upL n zs.reverse = (upL n zs).reverse := by unfold upL; rw [List.map_reverse]
theorem lwL_rev (n : Int) (zs : List Int) : lwL n zs.reverse = (lwL n zs).reverse := by unfold lwL; rw [List.map_reverse]
theorem asE_iff {zs ys : List Int} {ok ok' : Prop} [Decidable ok] [Decidable ok'] {b b' : Bool} (h : okP ys ↔ okP zs) (k : ok' ↔ ok) (hb : okP zs → ok → b' = b) : asE ys ok' b' = asE zs ok b := by
  by_cases h1 : okP zs
  · by_cases h2 : ok
    · rw [asE_ok h1 h2, asE_ok (h.2 h1) (k.2 h2), hb h1 h2]
    · rw [asE_arg h1 h2, asE_arg (h.2 h1) (fun g => h2 (k.1 g))]
  · rw [asE_no h1, asE_no (fun g => h1 (h.1 g))]
/-- The index in the reverse order. -/
structure Back (zs : List Int) (p q : Int) : Prop where
  inl : inL zs.reverse q ↔ inL zs p
  at_ : inL zs p → q.toNat = zs.length - 1 - p.toNat
theorem back_of {zs : List Int} {p q : Int} (hl : zs.length ≤ 64) (p0 : -9223372036854775808 ≤ p) (p1 : p ≤ 9223372036854775807) (hq : IntKind.i64.wrap ((zs.length : Int) - 1 - p) = q) : Back zs p q := by
  by_cases h : p < 0
  · have hn : ¬ inL zs p := fun k => by have := k.1; omega
    refine ⟨⟨fun k => ?_, fun k => absurd k hn⟩, fun k => absurd k hn⟩
    exfalso
    have k1 := k.1
    have k2 := k.2
    rw [List.length_reverse] at k2
    by_cases h2 : (zs.length : Int) - 1 - p ≤ 9223372036854775807
    · rw [IntWalk.i64_in _ (by omega)] at hq; omega
    · simp only [IntKind.wrap, IntKind.bits, IntKind.signed] at hq; omega
  · rw [IntWalk.i64_in _ (by omega)] at hq
    refine ⟨?_, fun k => by have := k.1; have := k.2; omega⟩
    unfold inL
    rw [List.length_reverse]
    omega
theorem laO_rev {t : Int} {zs : List Int} {p q : Int} (hb : Back zs p q) : laO t zs.reverse q = (fiO t zs p).map fun x => (((zs.length : Int) - 1 : Int) : Rat) - x := by
  by_cases h : okP zs ∧ okT t ∧ inL zs p
  · rw [fiO_ok h, laO_ok ⟨okP_rev.2 h.1, h.2.1, hb.inl.2 h.2.2⟩, hb.at_ h.2.2, LX_rev (by have := h.2.2.1; have := h.2.2.2; omega)]
  · rw [fiO_bad h, laO_bad (fun k => h ⟨okP_rev.1 k.1, k.2.1, hb.inl.1 k.2.2⟩)]; rfl
theorem laE_rev {t : Int} {zs : List Int} {p q : Int} (hb : Back zs p q) : laE t zs.reverse q = fiE t zs p := by
  refine asE_iff okP_rev (and_congr Iff.rfl hb.inl) (fun h k => ?_)
  rw [hb.at_ k.2, LX_rev (by have := k.2.1; have := k.2.2; omega), Option.isSome_map]
theorem faE_rev {t nz : Int} {zs : List Int} {p q : Int} (hb : Back zs p q) : faE t zs.reverse q nz = riE t zs p nz := by
  refine asE_iff okP_rev (and_congr Iff.rfl (and_congr Iff.rfl hb.inl)) (fun h k => ?_)
  have hp : p.toNat < (lwL nz zs).length := by rw [lwL_length]; have := k.2.2.1; have := k.2.2.2; omega
  have := LX_rev (t := t) hp
  rw [lwL_length] at this
  rw [hb.at_ k.2.2, lwL_rev, this, Option.isSome_map]
theorem faS_rev {t nz : Int} {zs : List Int} {p q : Int} (hb : Back zs p q) : faS t zs.reverse q nz = (riS t zs p nz).map fun s => ((((zs.length : Int) - 1 : Int) : Rat) - s.2, (((zs.length : Int) - 1 : Int) : Rat) - s.1) := by
  unfold faS riS
  by_cases h : okP zs ∧ okN nz ∧ okT t ∧ inL zs p
  · rw [if_pos h, if_pos ⟨okP_rev.2 h.1, h.2.1, h.2.2.1, hb.inl.2 h.2.2.2⟩, hb.at_ h.2.2.2, lwL_rev, upL_rev]
    have hp : p.toNat < zs.length := by have := h.2.2.2.1; have := h.2.2.2.2; omega
    have e1 := LX_rev (t := t) (zs := lwL nz zs) (p := p.toNat) (by rw [lwL_length]; exact hp)
    have e2 := LX_rev (t := t) (zs := upL nz zs) (p := p.toNat) (by rw [upL_length]; exact hp)
    rw [lwL_length] at e1
    rw [upL_length] at e2
    rw [e1, e2]
    cases FX t (upL nz zs) p.toNat with
    | none => rw [show ∀ x : Option Rat, both none x = none from both_none', show (none : Option Rat).map (fun x => (((zs.length : Int) - 1 : Int) : Rat) - x) = none from rfl, both_none]; rfl
    | some x => cases FX t (lwL nz zs) p.toNat <;> rfl
  · rw [if_neg h, if_neg (fun k => h ⟨okP_rev.1 k.1, k.2.1, k.2.2.1, hb.inl.1 k.2.2.2⟩)]; rfl
theorem wiE_rev {t nz : Int} {zs : List Int} : wiE t zs.reverse nz = wiE t zs nz := by
  refine asE_iff okP_rev Iff.rfl (fun h k => ?_)
  rw [lwL_rev, WX_rev (by rw [lwL_length]; have := h.1; omega)]
theorem wiS_rev {t nz : Int} {zs : List Int} : wiS t zs.reverse nz = wiS t zs nz := by
  unfold wiS
  by_cases h : okP zs ∧ okN nz ∧ okT t
  · rw [if_pos h, if_pos ⟨okP_rev.2 h.1, h.2⟩, lwL_rev, upL_rev, WX_rev (by rw [lwL_length]; have := h.1.1; omega), WX_rev (by rw [upL_length]; have := h.1.1; omega)]
  · rw [if_neg h, if_neg (fun k => h ⟨okP_rev.1 k.1, k.2⟩)]
theorem fits_int {M : Int} (h : -64 ≤ M ∧ M ≤ 64) : fits (M : Rat) ∧ fn (M : Rat) = M ∧ fd (M : Rat) = 1 := by
  have e1 : fn (M : Rat) = M := by unfold fn; exact Rat.num_intCast M
  have e2 : fd (M : Rat) = 1 := by unfold fd; rw [Rat.den_intCast]; rfl
  exact ⟨by unfold fits; rw [e1, e2]; omega, e1, e2⟩
theorem frac_int (M : Int) (h : -64 ≤ M ∧ M ≤ 64) (w : World) :
    Calls Try.prog 23 #[.int .i64 M, .int .i64 1] w fun e w' => e = .returned (.agg #[.int .i64 (fn (M : Rat)), .int .i64 (fd (M : Rat))]) ∧ Below w.heap.size w w' := by
  have k := frac_any M 1 (by omega) (by omega) (by omega) (by omega) w
  have e : mkR M 1 = (M : Rat) := by rw [mkR_div]; grind
  have f := (fits_int h).1
  rw [show mA M 1 = _ from if_neg (by omega), show mB M 1 = _ from if_neg (by omega), e, show rn (M : Rat) = _ from if_pos f, show rd (M : Rat) = _ from if_pos f] at k
  exact k
/-- A number less a place, if there is one. -/
theorem sub_opt (m : Rat) (hm : fits m) (o : Option Rat) (ho : ∀ x, o = some x → fits x ∧ fits (m - x)) : ∃ K : Int, (o.isSome = true → K = 0) ∧ ∀ w,
    Calls Try.prog 50 #[.agg #[.int .i64 (fn m), .int .i64 (fd m)], .agg #[.int .i64 (oN o), .int .i64 (oD o)]] w fun e w' => e = .returned (.tuple #[.agg #[.int .i64 (oN (o.map (m - ·))), .int .i64 (oD (o.map (m - ·)))], .int .i64 K]) ∧ Below w.heap.size w w' := by
  cases o with
  | none => exact ⟨8, fun h => by simp at h, fun w => sub_bad _ _ 0 0 (fun k => by have := k.2.1; omega) w⟩
  | some x =>
    obtain ⟨f1, f2⟩ := ho x rfl
    refine ⟨0, fun _ => rfl, fun w => ?_⟩
    have k := sub_q m x hm f1 w
    rw [show rn (m - x) = _ from if_pos f2, show rd (m - x) = _ from if_pos f2, show re (m - x) = _ from if_pos f2] at k
    exact k
end Go.Proofs.Ytbcgebobfnclnaa
/-
  A list of small whole numbers among the arguments of a law.
-/
namespace Go.Proofs.Ytbcgebobfnclnaa
open Go.ChangeShapes Go.WideShapes Go.ChangeAt Go.RowKit
set_option linter.unusedVariables false
set_option linter.unusedSimpArgs false

section
variable {H : Type} {enc : TypeId × Value → H}
theorem bounds_i16 {n : Int} (h : (Lit.int .i16 n).wf = true) : -32768 ≤ n ∧ n ≤ 32767 := by
  simp [Lit.wf, IntKind.min, IntKind.max, IntKind.signed, IntKind.bits] at h
  omega
theorem hv_get {ms : List Int} {j : Nat} : (hv ms)[j]? = ms[j]?.map (Value.int .i16) := by simp [hv]
theorem row_i16s {W : World} {fuel : Nat} {v : Value} {x : DataW H × List MemPlace} (h : DataW.trod enc Try.prog W 0 (fun _ => true) true fuel 76 [v] = some x) :
    ∃ (a : Option Addr) (n c : Nat) (zs : List Int), v = .slice a n c ∧ n ≤ c ∧ c ≤ maxLen ∧ Row W a n (hv zs) ∧ (∀ z ∈ zs, -32768 ≤ z ∧ z ≤ 32767) := by
  rcases open_ints Try.underlying76 Try.underlying126 (by kernel_rfl) h with ⟨hcs, _⟩ | ⟨a, len, cap, zs, hcs, _, hl, hm, hz, hxx, hcell, hwz⟩
  · simp only [List.cons.injEq, and_true] at hcs
    exact ⟨none, 0, 0, [], hcs, Nat.le_refl _, Nat.zero_le _, ⟨rfl, fun h => absurd h (by omega)⟩, fun z hz => by simp at hz⟩
  · simp only [List.cons.injEq, and_true] at hcs
    have hz' : zs.length = cap := by simpa using hz
    have hlen : (zs.take len).length = len := by rw [List.length_take]; omega
    refine ⟨some a, len, cap, zs.take len, hcs, hl, hm, ⟨by rw [hv_length]; exact hlen, fun h0 => ?_⟩, fun z hz => bounds_i16 (hwz z (List.mem_of_mem_take hz))⟩
    obtain ⟨b, off, rfl, hc⟩ := ints_at hcell (by omega)
    refine ⟨b, off, rfl, ?_, fun j hj => ?_⟩
    · have := hc 0 (by omega)
      unfold World.cell? at this
      by_cases hb : b < W.heap.size
      · exact hb
      · simp [Array.getElem?_eq_none (show W.heap.size ≤ b by omega)] at this
    · have := hc j (by omega)
      rw [this, hv_get, List.getElem?_take_of_lt hj, List.getD_eq_getElem?_getD, List.getElem?_eq_getElem (show j < zs.length by omega)]
      rfl
set_option maxRecDepth 100000 in
theorem open_i16s {W : World} {b0 : Nat} {r : Reach} {v : Value} {d : DataW H} {p : List MemPlace} (hval : Value.okWide Try.prog W r b0 76 v) (h : DataW.Trod enc Try.prog W 0 (fun _ => true) true 76 v d p) :
    ∃ (a : Option Addr) (n c : Nat) (zs : List Int), v = .slice a n c ∧ n ≤ c ∧ c ≤ maxLen ∧ Row W a n (hv zs) ∧ (∀ z ∈ zs, -32768 ≤ z ∧ z ≤ 32767) := by
  obtain ⟨a0, n0, c0, rfl⟩ := okWide_slice Try.underlying76 hval
  obtain ⟨fuel, hf⟩ := h
  obtain ⟨a, n, c, zs, e, q1, q2, q3, q4⟩ := row_i16s (x := (d, p)) hf
  exact ⟨a, n, c, zs, e, q1, q2, q3, q4⟩
end
end Go.Proofs.Ytbcgebobfnclnaa
/-
  Layer 5: the first bright place of a list of numbers, by the statements' own text.
-/
namespace Go.Proofs.Ytbcgebobfnclnaa
open Go.RowKit Go.Shelf
set_option linter.unusedVariables false
set_option linter.unusedSimpArgs false

/-- What the statements' own first returns: a numerator, a denominator, and whether there is one. -/
def fvN (T : Int) (q : List Int) (p : Nat) : Int :=
  match fb T (q.drop p) with
  | none => 0
  | some 0 => p
  | some (j + 1) => ((p : Int) + j) * (q[p + (j + 1)]?.getD 0 - q[p + j]?.getD 0) + T - q[p + j]?.getD 0
def fvD (T : Int) (q : List Int) (p : Nat) : Int :=
  match fb T (q.drop p) with
  | none => 1
  | some 0 => 1
  | some (j + 1) => q[p + (j + 1)]?.getD 0 - q[p + j]?.getD 0
def fvB (T : Int) (q : List Int) (p : Nat) : Bool := (fb T (q.drop p)).isSome

set_option maxRecDepth 100000 in
set_option maxHeartbeats 4000000 in
theorem fst_any (a : Option Addr) (n c : Nat) (q : List Int) (T : Int) (p : Nat) (hn : n ≤ 100) (hp : p < n) (hq : ∀ z ∈ q, 0 ≤ z ∧ z ≤ 1020) (w : World) (hR : Row w a n (iv q)) :
    Calls Try.prog 53 #[.slice a n c, .int .i64 T, .int .i64 p] w fun e w' => e = .returned (.tuple #[.int .i64 (fvN T q p), .int .i64 (fvD T q p), .bool (fvB T q p)]) ∧ Below w.heap.size w w' := by
  have hl : q.length = n := by have := hR.1; rwa [iv_length] at this
  have HR := Lib.hid hR
  have HQ := Lib.hid hq
  have HL := Lib.hid hl
  obtain ⟨b0, o0, z0, ha0, hb0, hz0, cz0⟩ := hR.int hp
  obtain ⟨N, hN⟩ : ∃ N, fvN T q p = N := ⟨_, rfl⟩
  obtain ⟨D, hD⟩ : ∃ D, fvD T q p = D := ⟨_, rfl⟩
  obtain ⟨B, hB'⟩ : ∃ B, fvB T q p = B := ⟨_, rfl⟩
  have H0 : Hid (T ≤ z0 → N = p ∧ D = 1 ∧ B = true) := fun h => by
    have e : fb T (q.drop p) = some 0 := fb_some.2 ⟨z0, by rw [drop_get]; exact hz0, h, fun k hk => absurd hk (by omega)⟩
    rw [← hN, ← hD, ← hB']; unfold fvN fvD fvB; rw [e]; exact ⟨rfl, rfl, rfl⟩
  have HS : Hid (∀ (j : Nat) (v u : Int), q[p + (j + 1)]? = some v → q[p + j]? = some u → T ≤ v → (∀ x, x ≤ j → ∀ y, q[p + x]? = some y → y < T) → N = ((p : Int) + j) * (v - u) + T - u ∧ D = v - u ∧ B = true) := fun j v u hv hu h hd => by
    have e : fb T (q.drop p) = some (j + 1) := fb_some.2 ⟨v, by rw [drop_get]; exact hv, h, fun k hk y hy => hd k (by omega) y (by rw [drop_get] at hy; exact hy)⟩
    rw [← hN, ← hD, ← hB']; unfold fvN fvD fvB; rw [e]; dsimp only; rw [hv, hu]; exact ⟨rfl, rfl, rfl⟩
  have HE : Hid ((∀ x, p + x < n → ∀ y, q[p + x]? = some y → y < T) → N = 0 ∧ D = 1 ∧ B = false) := fun h => by
    have e : fb T (q.drop p) = none := fb_none.2 fun u hu => by
      obtain ⟨k, hk⟩ := List.getElem?_of_mem hu
      rw [drop_get] at hk
      exact h k (by have := (List.getElem?_eq_some_iff.1 hk).1; omega) u hk
    rw [← hN, ← hD, ← hB']; unfold fvN fvD fvB; rw [e]; exact ⟨rfl, rfl, rfl⟩
  rw [hN, hD, hB']
  have q0 : (0 : Int) ≤ (p : Int) := by omega
  have q1 : (p : Int) < (n : Int) := by omega
  have HZ0 := Lib.hid hz0
  subst ha0
  clear hR hq hl hN hD hB' hz0
  by_cases h : T ≤ z0
  · obtain ⟨rfl, rfl, rfl⟩ := H0.out h
    go_enter Try.func53, Try.ntmps53
    go_wp2
    exact bodyPost_ret (v := .tuple #[.int .i64 p, .int .i64 1, .bool true]) (by simp only [results, Try.results53]; go_simp) rfl ⟨rfl, by (repeat' (first | (with_reducible exact Below.refl _ _) | (with_reducible assumption) | (with_reducible refine belowThru ?_ (by assumption)) | (with_reducible refine belowAlloc ?_) | (with_reducible refine Below.setCell ?_ (by first | omega | (simp; done) | (simp; omega)) _) | (with_reducible refine Below.drew ?_) | (with_reducible refine below_drewN ?_ _)))⟩
  · have hdk : decide (T ≤ z0) = false := by simpa using h
    have HD0 := Lib.hid h
    have wp1 : IntKind.i64.wrap ((p : Int) + 1) = ((p + 1 : Nat) : Int) := by push_cast; exact IntWalk.i64_in _ (by omega)
    clear h
    go_enter Try.func53, Try.ntmps53
    go_wp2
    go_loopw [9] (fun i wr => ∃ k : Nat, p + 1 + k ≤ n ∧ i = .int .i64 ((p + 1 + k : Nat) : Int) ∧ Hid (∀ x, x ≤ k → ∀ y, q[p + x]? = some y → y < T) ∧ Below w.heap.size w wr) (fun i _ => n - (intOf i).toNat)
    case atStart =>
      refine ⟨0, by omega, rfl, ?_, by (repeat' (first | (with_reducible exact Below.refl _ _) | (with_reducible assumption) | (with_reducible refine belowThru ?_ (by assumption)) | (with_reducible refine belowAlloc ?_) | (with_reducible refine Below.setCell ?_ (by first | omega | (simp; done) | (simp; omega)) _) | (with_reducible refine Below.drew ?_) | (with_reducible refine below_drewN ?_ _)))⟩
      show ∀ x, x ≤ 0 → ∀ y, q[p + x]? = some y → y < T
      intro x hx y hy
      obtain rfl : x = 0 := by omega
      rw [Nat.add_zero, HZ0.out] at hy
      have := Option.some.inj hy; have := HD0.out; omega
    case round =>
      clear cz0 wp1 hdk
      obtain ⟨k, hk, rfl, hd, hB⟩ := hrel
      obtain ⟨i, hi⟩ : ∃ i, p + 1 + k = i := ⟨_, rfl⟩
      have HI := Lib.hid hi
      rw [hi] at hk ⊢
      have p0 : (0 : Int) ≤ (i : Int) := by omega
      by_cases hlt : i < n
      · have p1 : (i : Int) < (n : Int) := by omega
        obtain ⟨bb, oo, v, e1, hbb, hv, cv⟩ := HR.out.int hlt
        cases e1
        have cv := cell_later hB cv
        have hvv := HQ.out v (List.mem_of_getElem? hv)
        by_cases hT : T ≤ v
        · obtain ⟨j, hj⟩ : ∃ j, i = j + 1 := ⟨i - 1, by omega⟩
          obtain ⟨b2, o2, u, e2, hb2, hu, cu⟩ := HR.out.int (show j < n by omega)
          cases e2
          have cu := cell_later hB cu
          have huu := HQ.out u (List.mem_of_getElem? hu)
          have huT : u < T := hd.out k (by omega) u (by rw [show p + k = j by omega]; exact hu)
          obtain ⟨f1, f2, f3⟩ := HS.out k v u (by rw [show p + (k + 1) = i by omega]; exact hv) (by rw [show p + k = j by omega]; exact hu) hT hd.out
          have hji : ((p : Int) + k) = (j : Int) := by omega
          rw [hji] at f1
          have w1 : IntKind.i64.wrap ((i : Int) - 1) = (j : Int) := by rw [show (i : Int) - 1 = (j : Int) by omega]; exact IntWalk.i64_in _ (by omega)
          have j0 : (0 : Int) ≤ (j : Int) := by omega
          have j1 : (j : Int) < (n : Int) := by omega
          obtain ⟨R, hRR⟩ : ∃ R, v - u = R := ⟨_, rfl⟩
          have w2 : IntKind.i64.wrap (v - u) = R := by rw [hRR]; exact IntWalk.i64_in _ (by omega)
          have m1 := mul_bound (j : Int) R 100 1020 (by omega) (by omega) (by omega) (by omega)
          rw [hRR] at f1 f2
          obtain ⟨M, hM⟩ : ∃ M, (j : Int) * R = M := ⟨_, rfl⟩
          rw [hM] at m1 f1
          have w3 : IntKind.i64.wrap ((j : Int) * R) = M := by rw [hM]; exact IntWalk.i64_in _ (by omega)
          have w4 : IntKind.i64.wrap (M + T) = M + T := IntWalk.i64_in _ (by omega)
          have w5 : IntKind.i64.wrap (M + T - u) = M + T - u := IntWalk.i64_in _ (by omega)
          subst f1 f3
          obtain rfl := f2.symm
          clear hRR hM hj hi hji hd HS HE H0 hv hu
          go_wp2_with fail
          go_quiet (fail)
          go_wp2
          exact bodyPost_ret (v := .tuple #[.int .i64 (M + T - u), .int .i64 R, .bool true]) (by simp only [results, Try.results53]; go_simp) rfl ⟨rfl, by (repeat' (first | (with_reducible exact Below.refl _ _) | (with_reducible assumption) | (with_reducible refine belowThru ?_ (by assumption)) | (with_reducible refine belowAlloc ?_) | (with_reducible refine Below.setCell ?_ (by first | omega | (simp; done) | (simp; omega)) _) | (with_reducible refine Below.drew ?_) | (with_reducible refine below_drewN ?_ _)))⟩
        · have hdk : decide (T ≤ v) = false := by simpa using hT
          have hd' : Hid (∀ x, x ≤ k + 1 → ∀ y, q[p + x]? = some y → y < T) := fun x hx y hy => by
            rcases Nat.lt_or_ge k x with h | h
            · obtain rfl : x = k + 1 := by omega
              rw [show p + (k + 1) = i by omega, hv] at hy
              have := Option.some.inj hy; omega
            · exact hd.out x h y hy
          have w1 : IntKind.i64.wrap ((i : Int) + 1) = ((i + 1 : Nat) : Int) := by push_cast; exact IntWalk.i64_in _ (by omega)
          clear hT hv hd hi
          go_wp2
          go_roundw
          case rel => exact ⟨k + 1, by have := HI.out; omega, by rw [show p + 1 + (k + 1) = i + 1 by have := HI.out; omega] <;> rfl, hd', by (repeat' (first | (with_reducible exact Below.refl _ _) | (with_reducible assumption) | (with_reducible refine belowThru ?_ (by assumption)) | (with_reducible refine belowAlloc ?_) | (with_reducible refine Below.setCell ?_ (by first | omega | (simp; done) | (simp; omega)) _) | (with_reducible refine Below.drew ?_) | (with_reducible refine below_drewN ?_ _)))⟩
          case measure => simp [intOf]; omega
      · obtain ⟨f1, f2, f3⟩ := HE.out (fun x hx y hy => hd.out x (by omega) y hy)
        subst f1 f2 f3
        have p1 : (n : Int) ≤ (i : Int) := by omega
        clear hi
        go_wp2
        exact bodyPost_ret (v := .tuple #[.int .i64 0, .int .i64 1, .bool false]) (by simp only [results, Try.results53]; go_simp) rfl ⟨rfl, by (repeat' (first | (with_reducible exact Below.refl _ _) | (with_reducible assumption) | (with_reducible refine belowThru ?_ (by assumption)) | (with_reducible refine belowAlloc ?_) | (with_reducible refine Below.setCell ?_ (by first | omega | (simp; done) | (simp; omega)) _) | (with_reducible refine Below.drew ?_) | (with_reducible refine below_drewN ?_ _)))⟩
end Go.Proofs.Ytbcgebobfnclnaa
/-
  Layer 5: what the noise allows: the mathematics.
-/
namespace Go.Proofs.Ytbcgebobfnclnaa
open Go.RowKit Go.Shelf
set_option linter.unusedVariables false
set_option linter.unusedSimpArgs false

theorem FX_scale (t : Int) (q : List Int) (p : Nat) : FX (4 * t) (q.map (4 * ·)) p = FX t q p := by
  unfold FX; rw [← List.map_drop, br_scale]
theorem LX_scale (t : Int) (q : List Int) (p : Nat) : LX (4 * t) (q.map (4 * ·)) p = LX t q p := by
  unfold LX; rw [← List.map_take, ← List.map_reverse, br_scale]
theorem WX_scale (t : Int) (q : List Int) : WX (4 * t) (q.map (4 * ·)) = WX t q := by
  unfold WX; rw [FX_scale, List.length_map, LX_scale]
theorem byA_bd (ms : List Int) {nz : Int} (h : 0 ≤ nz) (k : Nat) : -(4 * nz) ≤ byA ms nz k ∧ byA ms nz k ≤ 4 * nz := by
  unfold byA
  split
  · exact tmod_bd _ (4 * nz) (by omega)
  · omega
/-- The values that are allowed. -/
def alL (zs ms : List Int) (nz : Int) : List Int := (List.range zs.length).map (alV zs ms nz)
theorem alL_length (zs ms : List Int) (nz : Int) : (alL zs ms nz).length = zs.length := by simp [alL]
theorem alL_get {zs ms : List Int} {nz : Int} {k : Nat} {u : Int} (h : (alL zs ms nz)[k]? = some u) : ∃ z, zs[k]? = some z ∧ u = min 1020 (max 0 (4 * z + byA ms nz k)) := by
  have hk : k < zs.length := by have := (List.getElem?_eq_some_iff.1 h).1; rwa [alL_length] at this
  refine ⟨zs[k], List.getElem?_eq_getElem hk, ?_⟩
  unfold alL at h
  rw [List.getElem?_map, List.getElem?_range hk] at h
  have := Option.some.inj h
  rw [← this]
  unfold alV
  rw [List.getElem?_eq_getElem hk]; rfl
theorem alL_bd (zs ms : List Int) (nz : Int) : ∀ z ∈ alL zs ms nz, 0 ≤ z ∧ z ≤ 1020 := fun z hz => by
  obtain ⟨k, hk⟩ := List.getElem?_of_mem hz
  obtain ⟨v, -, rfl⟩ := alL_get hk
  omega
theorem al_lw {zs ms : List Int} {nz : Int} (hz : V8 zs) (h : 0 ≤ nz) : LeL ((lwL nz zs).map (4 * ·)) (alL zs ms nz) := by
  refine ⟨by rw [alL_length, List.length_map, lwL_length], fun k u v hu hv => ?_⟩
  obtain ⟨z, hzk, rfl⟩ := alL_get hv
  rw [List.getElem?_map, lwL_get, hzk] at hu
  have := Option.some.inj hu
  have b := byA_bd ms h k
  have c := hz z (List.mem_of_getElem? hzk)
  dsimp only at this
  split at this <;> omega
theorem al_up {zs ms : List Int} {nz : Int} (hz : V8 zs) (h : 0 ≤ nz) : LeL (alL zs ms nz) ((upL nz zs).map (4 * ·)) := by
  refine ⟨by rw [alL_length, List.length_map, upL_length], fun k u v hu hv => ?_⟩
  obtain ⟨z, hzk, rfl⟩ := alL_get hu
  rw [List.getElem?_map, upL_get, hzk] at hv
  have := Option.some.inj hv
  have b := byA_bd ms h k
  have c := hz z (List.mem_of_getElem? hzk)
  dsimp only at this
  split at this <;> omega
/-- The first bright place as what the statements' own first returns. -/
theorem fv_spec {T : Int} {q : List Int} {p : Nat} (hq : ∀ z ∈ q, 0 ≤ z ∧ z ≤ 1020) (hl : q.length ≤ 64) (hp : p < q.length) {x : Rat} (h : FX T q p = some x) :
    fvB T q p = true ∧ x = mkR (fvN T q p) (fvD T q p) ∧ 1 ≤ fvD T q p ∧ fvD T q p ≤ 1020 ∧ 0 ≤ fvN T q p ∧ fvN T q p ≤ 70000 := by
  unfold FX br at h
  obtain ⟨d, hd, rfl⟩ := Option.map_eq_some_iff.1 h
  obtain ⟨j, hj, rfl⟩ := Option.map_eq_some_iff.1 hd
  unfold fvB fvN fvD
  rw [hj]
  cases j with
  | zero =>
    refine ⟨rfl, ?_, by dsimp only; omega, by dsimp only; omega, by dsimp only; omega, by dsimp only; omega⟩
    rw [pl_zero, mkR_div]; grind
  | succ j =>
    have hjl := fb_lt hj
    rw [List.length_drop] at hjl
    obtain ⟨v, u, hv, hu, h1, h2⟩ := fb_step hj
    rw [pl_succ T _ j hv hu]
    rw [drop_get] at hv hu
    dsimp only
    rw [hv, hu]
    have b1 := hq v (List.mem_of_getElem? hv)
    have b2 := hq u (List.mem_of_getElem? hu)
    have e0 := Int.mul_nonneg (show 0 ≤ (p : Int) + j by omega) (show 0 ≤ v - u by omega)
    have e1 := Int.mul_le_mul (show (p : Int) + j ≤ 64 by omega) (show v - u ≤ 1020 by omega) (by omega) (by omega)
    refine ⟨rfl, ?_, by show 1 ≤ v - u; omega, by show v - u ≤ 1020; omega, by show 0 ≤ ((p : Int) + j) * (v - u) + T - u; omega, by show ((p : Int) + j) * (v - u) + T - u ≤ 70000; omega⟩
    show ((p : Int) : Rat) + (((j : Int) : Rat) + 1 - ((v - T : Int) : Rat) / ((v - u : Int) : Rat)) = mkR (((p : Int) + j) * (v - u) + T - u) (v - u)
    have e2 : ((((p : Int) + j) * (v - u) + T - u : Int) : Rat) = (((p : Int) : Rat) + ((j : Int) : Rat)) * ((v - u : Int) : Rat) + ((v - u : Int) : Rat) - ((v - T : Int) : Rat) := by
      rw [show ((p : Int) + j) * (v - u) + T - u = (((p : Int) + j) * (v - u) + (v - u)) - (v - T) by omega, Rat.intCast_sub, Rat.intCast_add, Rat.intCast_mul, Rat.intCast_add]
    rw [mkR_div, e2]
    have := int_pos (show 0 < v - u by omega)
    obtain ⟨r, hr⟩ : ∃ r : Rat, ((v - u : Int) : Rat) = r := ⟨_, rfl⟩
    obtain ⟨s, hs⟩ : ∃ s : Rat, ((v - T : Int) : Rat) = s := ⟨_, rfl⟩
    rw [hr] at this ⊢
    rw [hs]
    grind
/-- What is less than a whole number by a fraction. -/
theorem mkR_less {M a b : Int} (hb : 1 ≤ b) : (M : Rat) - mkR a b = mkR (M * b - a) b := by
  rw [mkR_div, mkR_div, Rat.intCast_sub, Rat.intCast_mul]
  have := int_pos (show 0 < b by omega)
  grind
theorem mkR_minus {a b c d : Int} (hb : 1 ≤ b) (hd : 1 ≤ d) : mkR c d - mkR a b = mkR (c * b - a * d) (b * d) := by
  rw [mkR_div, mkR_div, mkR_div, Rat.intCast_sub, Rat.intCast_mul, Rat.intCast_mul, Rat.intCast_mul]
  have := int_pos (show 0 < b by omega)
  have := int_pos (show 0 < d by omega)
  grind
theorem mkR_fits {a b : Int} (hb : 1 ≤ b) (hB : b ≤ 2000000) (h1 : -1000000000 ≤ a) (h2 : a ≤ 1000000000) : fits (mkR a b) := by
  have := mkR_bound a b 1000000000 2000000 hb hB h1 h2
  unfold fits; omega

/-- The first, the last place and their distance, within what the noise allows. -/
theorem al_first {t : Int} {zs ms : List Int} {p nz : Int} (h : riE t zs p nz = 0) (q : List Int) (hq : alL zs ms nz = q) :
    fvB (4 * t) q p.toNat = true ∧ ∃ l h : Rat, riS t zs p nz = some (l, h) ∧ fits l ∧ fits h ∧ l ≤ mkR (fvN (4 * t) q p.toNat) (fvD (4 * t) q p.toNat) ∧ mkR (fvN (4 * t) q p.toNat) (fvD (4 * t) q p.toNat) ≤ h ∧
      1 ≤ fvD (4 * t) q p.toNat ∧ fvD (4 * t) q p.toNat ≤ 1020 ∧ 0 ≤ fvN (4 * t) q p.toNat ∧ fvN (4 * t) q p.toNat ≤ 70000 := by
  obtain ⟨z, o1, o2, o3, x, y, hx, hy, hyx, fx, fy, e⟩ := ri_found h
  subst hq
  have hp : p.toNat < (alL zs ms nz).length := by rw [alL_length]; have := o3.1; have := o3.2; omega
  obtain ⟨m, hm, k1⟩ := FX_le (al_lw (ms := ms) z.2 o1.1) (by rw [FX_scale]; exact hx)
  obtain ⟨y', hy', k2⟩ := FX_le (al_up (ms := ms) z.2 o1.1) hm
  rw [FX_scale, hy] at hy'
  obtain rfl := Option.some.inj hy'
  obtain ⟨f1, rfl, f2⟩ := fv_spec (alL_bd zs ms nz) (by rw [alL_length]; exact z.1.2) hp hm
  exact ⟨f1, y, x, e, fy, fx, k2, k1, f2⟩
theorem al_last {t : Int} {zs ms : List Int} {p nz : Int} (h : faE t zs p nz = 0) (q : List Int) (hq : alL zs ms nz = q) :
    fvB (4 * t) q.reverse (zs.length - 1 - p.toNat) = true ∧ ∃ l h : Rat, faS t zs p nz = some (l, h) ∧ fits l ∧ fits h ∧ (∃ v : Rat, v = (((zs.length : Int) - 1 : Int) : Rat) - mkR (fvN (4 * t) q.reverse (zs.length - 1 - p.toNat)) (fvD (4 * t) q.reverse (zs.length - 1 - p.toNat)) ∧ l ≤ v ∧ v ≤ h) ∧
      1 ≤ fvD (4 * t) q.reverse (zs.length - 1 - p.toNat) ∧ fvD (4 * t) q.reverse (zs.length - 1 - p.toNat) ≤ 1020 ∧ 0 ≤ fvN (4 * t) q.reverse (zs.length - 1 - p.toNat) ∧ fvN (4 * t) q.reverse (zs.length - 1 - p.toNat) ≤ 70000 := by
  obtain ⟨z, o1, o2, o3, x, y, hx, hy, hyx, fx, fy, e⟩ := fa_found h
  subst hq
  have hp0 : p.toNat < zs.length := by have := o3.1; have := o3.2; omega
  have hp : p.toNat < (alL zs ms nz).length := by rw [alL_length]; exact hp0
  obtain ⟨m, hm, k1⟩ := LX_le (al_lw (ms := ms) z.2 o1.1) (by rw [List.length_map, lwL_length]; exact hp0) (by rw [LX_scale]; exact hx)
  obtain ⟨y', hy', k2⟩ := LX_le (al_up (ms := ms) z.2 o1.1) hp hm
  rw [LX_scale, hy] at hy'
  obtain rfl := Option.some.inj hy'
  have hr := FX_rev (t := 4 * t) hp
  rw [hm, alL_length] at hr
  obtain ⟨f1, f2, f3⟩ := fv_spec (q := (alL zs ms nz).reverse) (fun z hz => alL_bd zs ms nz z (List.mem_reverse.1 hz)) (by rw [List.length_reverse, alL_length]; exact z.1.2) (by rw [List.length_reverse, alL_length]; omega) hr
  exact ⟨f1, x, y, e, fx, fy, ⟨m, by rw [← f2]; grind, k1, k2⟩, f3⟩
theorem al_wide {t : Int} {zs ms : List Int} {nz : Int} (h : wiE t zs nz = 0) (q : List Int) (hq : alL zs ms nz = q) :
    fvB (4 * t) q 0 = true ∧ fvB (4 * t) q.reverse 0 = true ∧ ∃ l h : Rat, wiS t zs nz = some (l, h) ∧ fits l ∧ fits h ∧ (∃ v : Rat, v = ((((zs.length : Int) - 1 : Int) : Rat) - mkR (fvN (4 * t) q.reverse 0) (fvD (4 * t) q.reverse 0)) - mkR (fvN (4 * t) q 0) (fvD (4 * t) q 0) ∧ l ≤ v ∧ v ≤ h) ∧
      (1 ≤ fvD (4 * t) q 0 ∧ fvD (4 * t) q 0 ≤ 1020 ∧ 0 ≤ fvN (4 * t) q 0 ∧ fvN (4 * t) q 0 ≤ 70000) ∧ (1 ≤ fvD (4 * t) q.reverse 0 ∧ fvD (4 * t) q.reverse 0 ≤ 1020 ∧ 0 ≤ fvN (4 * t) q.reverse 0 ∧ fvN (4 * t) q.reverse 0 ≤ 70000) := by
  obtain ⟨z, o1, o2, x, y, hx, hy, hyx, fx, fy, e⟩ := wi_found h
  subst hq
  have hl := z.1
  obtain ⟨m, hm, k1⟩ := WX_le (al_lw (ms := ms) z.2 o1.1) (by rw [List.length_map, lwL_length]; omega) (by rw [WX_scale]; exact hx)
  obtain ⟨y', hy', k2⟩ := WX_le (al_up (ms := ms) z.2 o1.1) (by rw [alL_length]; omega) hm
  rw [WX_scale, hy] at hy'
  obtain rfl := Option.some.inj hy'
  obtain ⟨u, v, hu, hv, rfl⟩ := WX_some.1 hm
  have hr := FX_rev (t := 4 * t) (zs := alL zs ms nz) (p := (alL zs ms nz).length - 1) (by rw [alL_length]; omega)
  rw [hv, show (alL zs ms nz).length - 1 - ((alL zs ms nz).length - 1) = 0 by omega, alL_length] at hr
  obtain ⟨f1, f2, f3⟩ := fv_spec (q := (alL zs ms nz).reverse) (fun z hz => alL_bd zs ms nz z (List.mem_reverse.1 hz)) (by rw [List.length_reverse, alL_length]; exact z.1.2) (by rw [List.length_reverse, alL_length]; omega) hr
  obtain ⟨g1, g2, g3⟩ := fv_spec (alL_bd zs ms nz) (by rw [alL_length]; exact z.1.2) (by rw [alL_length]; omega) hu
  exact ⟨g1, f1, x, y, e, fx, fy, ⟨v - u, by rw [← f2, ← g2]; grind, k1, k2⟩, g3, f3⟩
end Go.Proofs.Ytbcgebobfnclnaa
/-
  Layer 1: whether an enclosure contains a number, for any arguments.
-/
namespace Go.Proofs.Ytbcgebobfnclnaa
open Go.RowKit

theorem hasQ_iff {l h z : Rat} : hasQ l h z = true ↔ l ≤ z ∧ z ≤ h := by
  unfold hasQ; rw [Bool.and_eq_true, decide_eq_true_iff, decide_eq_true_iff]
end Go.Proofs.Ytbcgebobfnclnaa
/-
  Layer 5: whether the reference takes a profile, whether a span contains a number, by the statements' own texts.
-/
namespace Go.Proofs.Ytbcgebobfnclnaa
open Go.RowKit Go.Shelf
set_option linter.unusedVariables false
set_option linter.unusedSimpArgs false

set_option maxHeartbeats 400000 in
theorem rwithin_yes (n lo hi : Int) (h1 : lo ≤ n) (h2 : n ≤ hi) (w : World) :
    Calls Try.prog 94 #[.int .i64 n, .int .i64 lo, .int .i64 hi] w fun e w' => e = .returned (.bool true) ∧ w = w' := by
  go_enter Try.func94, Try.ntmps94
  go_wp2
  go_ret
  exact ⟨rfl, rfl⟩
set_option maxHeartbeats 400000 in
theorem rwithin_no (n lo hi : Int) (h : ¬ (lo ≤ n ∧ n ≤ hi)) (w : World) :
    Calls Try.prog 94 #[.int .i64 n, .int .i64 lo, .int .i64 hi] w fun e w' => e = .returned (.bool false) ∧ w = w' := by
  by_cases h1 : lo ≤ n
  · have hd : decide (n ≤ hi) = false := by simp; omega
    clear h
    go_enter Try.func94, Try.ntmps94
    go_wp2
    go_ret
    exact ⟨rfl, rfl⟩
  · have hd : decide (lo ≤ n) = false := by simpa using h1
    clear h
    go_enter Try.func94, Try.ntmps94
    go_wp2
    go_ret
    exact ⟨rfl, rfl⟩
set_option maxHeartbeats 2000000 in
theorem val_loop (a : Option Addr) (n c : Nat) (zs : List Int) (hn2 : 2 ≤ n) (hn64 : n ≤ 64) (w : World) (hR : Row w a n (iv zs)) :
    Calls Try.prog 51 #[.slice a n c] w fun e w' => e = .returned (.bool (decide (okP zs))) ∧ Below w.heap.size w w' := by
  have hx : zs.length = n := by have := hR.1; rwa [iv_length] at this
  have HX := Lib.hid hx; have HR := Lib.hid hR
  clear hx hR
  have p2 : (2 : Int) ≤ (n : Int) := by omega
  have p3 : (n : Int) ≤ 64 := by omega
  go_enter Try.func51, Try.ntmps51
  go_wp2
  go_loopw [3] (fun i wr => ∃ k : Nat, k ≤ n ∧ i = .int .i64 k ∧ Hid (V8 (zs.take k)) ∧ Below w.heap.size w wr) (fun i _ => n - (intOf i).toNat)
  case atStart => exact ⟨0, Nat.zero_le _, rfl, (show V8 (zs.take 0) from fun z hz => by simp at hz), by (repeat' (first | (with_reducible exact Below.refl _ _) | (with_reducible assumption) | (with_reducible refine belowThru ?_ (by assumption)) | (with_reducible refine belowAlloc ?_) | (with_reducible refine Below.setCell ?_ (by first | omega | (simp; done) | (simp; omega)) _) | (with_reducible refine Below.drew ?_) | (with_reducible refine below_drewN ?_ _)))⟩
  case round =>
    obtain ⟨k, hk, rfl, ht, hB⟩ := hrel
    by_cases hlt : k < n
    · obtain ⟨b1, o1, z1, rfl, l1, h1, c1⟩ := HR.out.int hlt
      have c1 := cell_later hB c1
      have p0 : (0 : Int) ≤ (k : Int) := by omega
      have p1 : (k : Int) < (n : Int) := by omega
      by_cases he : 0 ≤ z1 ∧ z1 ≤ 255
      · have ht' : Hid (V8 (zs.take (k + 1))) := V8.snoc ht.out h1 he
        have HC := Lib.hid (rwithin_yes z1 0 255 he.1 he.2)
        clear h1 he
        go_wp2_with (go_at_call 94; ((with_reducible refine (HC.out _).mono ?_); rintro e w1 ⟨rfl, rfl⟩))
        go_roundw
        case rel => exact ⟨k + 1, hlt, by go_num, ht', by (repeat' (first | (with_reducible exact Below.refl _ _) | (with_reducible assumption) | (with_reducible refine belowThru ?_ (by assumption)) | (with_reducible refine belowAlloc ?_) | (with_reducible refine Below.setCell ?_ (by first | omega | (simp; done) | (simp; omega)) _) | (with_reducible refine Below.drew ?_) | (with_reducible refine below_drewN ?_ _)))⟩
        case measure => simp [intOf]; omega
      · have hz : decide (okP zs) = false := decide_eq_false (fun h => V8.not h1 he h.2)
        have HC := Lib.hid (rwithin_no z1 0 255 he)
        clear h1 he
        go_wp2_with (go_at_call 94; ((with_reducible refine (HC.out _).mono ?_); rintro e w1 ⟨rfl, rfl⟩))
        go_ret
        exact ⟨by rw [hz]; rfl, by (repeat' (first | (with_reducible exact Below.refl _ _) | (with_reducible assumption) | (with_reducible refine belowThru ?_ (by assumption)) | (with_reducible refine belowAlloc ?_) | (with_reducible refine Below.setCell ?_ (by first | omega | (simp; done) | (simp; omega)) _) | (with_reducible refine Below.drew ?_) | (with_reducible refine below_drewN ?_ _)))⟩
    · have hz : decide (okP zs) = true := decide_eq_true ⟨⟨by rw [HX.out]; exact hn2, by rw [HX.out]; exact hn64⟩, V8.all (k := k) ht.out (by rw [HX.out]; omega)⟩
      have p1 : (n : Int) ≤ (k : Int) := by omega
      go_wp2
      go_ret
      exact ⟨by rw [hz]; rfl, by (repeat' (first | (with_reducible exact Below.refl _ _) | (with_reducible assumption) | (with_reducible refine belowThru ?_ (by assumption)) | (with_reducible refine belowAlloc ?_) | (with_reducible refine Below.setCell ?_ (by first | omega | (simp; done) | (simp; omega)) _) | (with_reducible refine Below.drew ?_) | (with_reducible refine below_drewN ?_ _)))⟩
set_option maxHeartbeats 400000 in
theorem val_any (a : Option Addr) (n c : Nat) (zs : List Int) (hn : n ≤ 64) (w : World) (hR : Row w a n (iv zs)) :
    Calls Try.prog 51 #[.slice a n c] w fun e w' => e = .returned (.bool (decide (okP zs))) ∧ Below w.heap.size w w' := by
  by_cases hl : 2 ≤ n
  · exact val_loop a n c zs hl hn w hR
  · have hx : zs.length = n := by have := hR.1; rwa [iv_length] at this
    rw [decide_eq_false (fun h : okP zs => hl (by rw [← hx]; exact h.1.1))]
    have p1 : (n : Int) < 2 := by omega
    have hd : decide ((n : Int) < 2) = true := decide_eq_true p1
    clear hl hx hR
    go_enter Try.func51, Try.ntmps51
    go_wp2
    go_ret
    exact ⟨rfl, by (repeat' (first | (with_reducible exact Below.refl _ _) | (with_reducible assumption) | (with_reducible refine belowThru ?_ (by assumption)) | (with_reducible refine belowAlloc ?_) | (with_reducible refine Below.setCell ?_ (by first | omega | (simp; done) | (simp; omega)) _) | (with_reducible refine Below.drew ?_) | (with_reducible refine below_drewN ?_ _)))⟩
set_option maxHeartbeats 1000000 in
theorem holds_walk (s1 s2 s3 s4 n d A B : Int) (w : World) (HM : Hid (∀ w, Calls Try.prog 57 #[.int .i64 n, .int .i64 d] w fun e w' => e = .returned (.tuple #[.agg #[.int .i64 A, .int .i64 B], .int .i64 0]) ∧ Below w.heap.size w w'))
    (HI : Hid (∀ w, Calls Try.prog 59 #[.agg #[.int .i64 s1, .int .i64 s2, .int .i64 s3, .int .i64 s4], .agg #[.int .i64 A, .int .i64 B]] w fun e w' => e = .returned (.tuple #[.bool true, .int .i64 0]) ∧ Below w.heap.size w w')) :
    Calls Try.prog 54 #[.agg #[.int .i64 s1, .int .i64 s2, .int .i64 s3, .int .i64 s4], .int .i64 n, .int .i64 d] w fun e w' => e = .returned (.bool true) ∧ Below w.heap.size w w' := by
  go_enter Try.func54, Try.ntmps54
  go_wp2_with fail
  refine (HM.out _).mono ?_
  rintro e w1 ⟨rfl, hb⟩
  have kn0 : Blk w1 (w.heap.size) #[.int .i64 s1, .int .i64 s2, .int .i64 s3, .int .i64 s4] 30 := Blk.later hb (by (repeat' (first | (with_reducible assumption) | (with_reducible refine Blk.set2 ?_) | ((with_reducible refine Blk.new ?_); first | rfl | (simp; done)) | (with_reducible refine Blk.later (by assumption) ?_) | (with_reducible refine Blk.alloc ?_) | (with_reducible refine Blk.drewN ?_) | (with_reducible refine Blk.drew ?_) | (with_reducible refine Blk.other ?_ (by first | omega | (simp; done) | (simp; omega))))))
  have k0 := kn0; clear kn0; obtain ⟨a0, b0⟩ := k0.read; have y0 := k0.lt
  have hBw : Below w.heap.size w w1 := by (repeat' (first | (with_reducible exact Below.refl _ _) | (with_reducible assumption) | (with_reducible refine belowThru ?_ (by assumption)) | (with_reducible refine belowAlloc ?_) | (with_reducible refine Below.setCell ?_ (by first | omega | (simp; done) | (simp; omega)) _) | (with_reducible refine Below.drew ?_) | (with_reducible refine below_drewN ?_ _)))
  have hzw1 := hBw.size
  clear hb
  go_wp2_with fail
  refine (HI.out _).mono ?_
  rintro e w2 ⟨rfl, hb⟩
  have kn0 : Blk w2 (w.heap.size) #[.int .i64 s1, .int .i64 s2, .int .i64 s3, .int .i64 s4] 30 := Blk.later hb (by (repeat' (first | (with_reducible assumption) | (with_reducible refine Blk.set2 ?_) | ((with_reducible refine Blk.new ?_); first | rfl | (simp; done)) | (with_reducible refine Blk.later (by assumption) ?_) | (with_reducible refine Blk.alloc ?_) | (with_reducible refine Blk.drewN ?_) | (with_reducible refine Blk.drew ?_) | (with_reducible refine Blk.other ?_ (by first | omega | (simp; done) | (simp; omega))))))
  have kn1 : Blk w2 (w1.heap.size) #[.int .i64 A, .int .i64 B] 23 := Blk.later hb (by (repeat' (first | (with_reducible assumption) | (with_reducible refine Blk.set2 ?_) | ((with_reducible refine Blk.new ?_); first | rfl | (simp; done)) | (with_reducible refine Blk.later (by assumption) ?_) | (with_reducible refine Blk.alloc ?_) | (with_reducible refine Blk.drewN ?_) | (with_reducible refine Blk.drew ?_) | (with_reducible refine Blk.other ?_ (by first | omega | (simp; done) | (simp; omega))))))
  clear k0 a0 b0 y0
  have k0 := kn0; clear kn0; obtain ⟨a0, b0⟩ := k0.read; have y0 := k0.lt
  have k1 := kn1; clear kn1; obtain ⟨a1, b1⟩ := k1.read; have y1 := k1.lt
  replace hBw : Below w.heap.size w w2 := belowThru (by (repeat' (first | (with_reducible exact Below.refl _ _) | (with_reducible assumption) | (with_reducible refine belowThru ?_ (by assumption)) | (with_reducible refine belowAlloc ?_) | (with_reducible refine Below.setCell ?_ (by first | omega | (simp; done) | (simp; omega)) _) | (with_reducible refine Below.drew ?_) | (with_reducible refine below_drewN ?_ _)))) hb
  have hzw2 := hBw.size
  clear hb
  go_wp2_with fail
  go_ret
  exact ⟨rfl, by (repeat' (first | (with_reducible exact Below.refl _ _) | (with_reducible assumption) | (with_reducible refine belowThru ?_ (by assumption)) | (with_reducible refine belowAlloc ?_) | (with_reducible refine Below.setCell ?_ (by first | omega | (simp; done) | (simp; omega)) _) | (with_reducible refine Below.drew ?_) | (with_reducible refine below_drewN ?_ _)))⟩
/-- A span contains a number between its ends. -/
theorem holds_q (l h : Rat) (n d : Int) (fl : fits l) (fh : fits h) (hd1 : 1 ≤ d) (hd2 : d ≤ 2000000) (n1 : -1000000000 ≤ n) (n2 : n ≤ 1000000000) (h1 : l ≤ mkR n d) (h2 : mkR n d ≤ h) (fx : fits (mkR n d)) (w : World) :
    Calls Try.prog 54 #[.agg #[.int .i64 (fn l), .int .i64 (fd l), .int .i64 (fn h), .int .i64 (fd h)], .int .i64 n, .int .i64 d] w fun e w' => e = .returned (.bool true) ∧ Below w.heap.size w w' := by
  refine holds_walk _ _ _ _ n d (fn (mkR n d)) (fd (mkR n d)) w (fun w => ?_) (fun w => ?_)
  · have k := make_any n d (by omega) (by omega) (by omega) (by omega) w
    rw [show mA n d = _ from if_neg (by omega), show mB n d = _ from if_neg (by omega), show mE n d = _ from if_neg (by omega), show rn (mkR n d) = _ from if_pos fx, show rd (mkR n d) = _ from if_pos fx, show re (mkR n d) = _ from if_pos fx] at k
    exact k
  · have k := in_q l h (mkR n d) fl fh fx (Rat.le_trans h1 h2) w
    rw [hasQ_iff.2 ⟨h1, h2⟩] at k
    exact k
end Go.Proofs.Ytbcgebobfnclnaa
