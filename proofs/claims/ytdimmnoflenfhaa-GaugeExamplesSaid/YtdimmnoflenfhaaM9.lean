/-
  The texts that the laws of this seat share, merged: part 9.
-/
import Derived.BigQuiet
import Derived.Deep.CutBlock
import Derived.Deep.DeepCutAuto
import Derived.Deep.Draws
import Derived.Deep.LoopGhost
import Derived.Deep.OwnRows
import Derived.Deep.QuietTactic
import Derived.Deep.RegionHeld3
import Derived.IntWalk
import Derived.Laws.AppendOwn
import Derived.Laws.Bits64b
import Derived.Lib.Hide
import Derived.Lib.ItoaNum
import Derived.LoopIn
import Derived.LoopNIn
import Derived.LoopTactic
import Derived.OneCell
import Derived.Orders
import Derived.OwnWalkIn
import Derived.RangeFuncBound
import Derived.RangeFuncCalls
import Derived.RangeFuncLeaves
import Derived.RangeFuncNested
import Derived.Shelf.Abstract
import Derived.Shelf.AbstractIn
import Derived.Shelf.Bits.Mul64
import Derived.Shelf.RegionOpen
import Derived.Shelf.Small.Bits
import Derived.Shelf.Spec.BitsCarry
import Derived.Shelf.Strconv.Itoa0
import Derived.TacticsInMore
import Derived.Test.YtdimmnoflenfhaaProg
import Derived.WalkKit
import Derived.WalkLawsBesides
import Derived.WalkSmall
import Derived.WalkSpells
import Derived.Test.YtdimmnoflenfhaaM4
import Derived.Test.YtdimmnoflenfhaaM6
import Derived.Test.YtdimmnoflenfhaaM7
import Derived.Test.YtdimmnoflenfhaaM8
/-
  Layers 1, 5: operations on valid spans, by the code, one after the other.
-/
namespace Go.Proofs.Ytdimmnoflenfhaa
open Go.RowKit
set_option linter.unusedVariables false
set_option linter.unusedSimpArgs false

theorem clo4 {p q r s : Rat} (h1 : fits p) (h2 : fits q) (h3 : fits r) (h4 : fits s) : fits (loQ p [q, r, s]) := by
  obtain ⟨-, -, -, -, e | e | e | e⟩ := loQ3 p q r s <;> rw [e] <;> assumption
theorem chi4 {p q r s : Rat} (h1 : fits p) (h2 : fits q) (h3 : fits r) (h4 : fits s) : fits (hiQ p [q, r, s]) := by
  obtain ⟨-, -, -, -, e | e | e | e⟩ := hiQ3 p q r s <;> rw [e] <;> assumption
theorem clh3 (p q r s : Rat) : loQ p [q, r, s] ≤ hiQ p [q, r, s] := Rat.le_trans (loQ3 p q r s).1 (hiQ3 p q r s).1
def spI (l h : Rat) : Array Value := #[.int .i64 (fn l), .int .i64 (fd l), .int .i64 (fn h), .int .i64 (fd h)]
/-- What the code answers for two valid spans: the error 4, or a valid span, which is what the operation makes. -/
def CodeV (F : FuncId) (k : Nat) (l h m n : Rat) : Prop :=
  ∃ A B C D E : Int, (∀ w, Calls Try.prog F #[.agg (spI l h), .agg (spI m n)] w fun e w' => e = .returned (.tuple #[.agg #[.int .i64 A, .int .i64 B, .int .i64 C, .int .i64 D], .int .i64 E]) ∧ Below w.heap.size w w') ∧ True ∧
    (E = 4 ∨ E = 0 ∧ ∃ L H : Rat, fits L ∧ fits H ∧ L ≤ H ∧ isSp k l h m n L H ∧ A = fn L ∧ B = fd L ∧ C = fn H ∧ D = fd H)
theorem code_fin {ok : Prop} {L H : Rat} (f : ok → fits L ∧ fits H ∧ L ≤ H) {k : Nat} {l h m n : Rat} (hs : ok → isSp k l h m n L H) :
    oe ok = 4 ∨ oe ok = 0 ∧ ∃ L' H' : Rat, fits L' ∧ fits H' ∧ L' ≤ H' ∧ isSp k l h m n L' H' ∧ oz ok (fn L) = fn L' ∧ oz ok (fd L) = fd L' ∧ oz ok (fn H) = fn H' ∧ oz ok (fd H) = fd H' := by
  by_cases x : ok
  · exact .inr ⟨oe_yes x, L, H, (f x).1, (f x).2.1, (f x).2.2, hs x, oz_yes x _, oz_yes x _, oz_yes x _, oz_yes x _⟩
  · exact .inl (oe_no x)
theorem code_mul (l h m k : Rat) (fl : fits l) (fh : fits h) (fm : fits m) (fk : fits k) (hlh : l ≤ h) (hmk : m ≤ k) : CodeV 51 2 l h m k :=
  ⟨_, _, _, _, _, mulSpans_q l h m k fl fh fm fk hlh hmk, trivial, code_fin (fun x => ⟨clo4 x.1 x.2.1 x.2.2.1 x.2.2.2, chi4 x.1 x.2.1 x.2.2.1 x.2.2.2, clh3 _ _ _ _⟩) (fun x => .inr (.inr (.inl ⟨rfl, rfl, rfl⟩)))⟩
theorem code_add (l h m k : Rat) (fl : fits l) (fh : fits h) (fm : fits m) (fk : fits k) (hlh : l ≤ h) (hmk : m ≤ k) : CodeV 84 0 l h m k :=
  ⟨_, _, _, _, _, addSpans_q l h m k fl fh fm fk hlh hmk, trivial, code_fin (fun x => ⟨x.1, x.2, by grind⟩) (fun x => .inl ⟨rfl, rfl, rfl⟩)⟩
theorem code_sub (l h m k : Rat) (fl : fits l) (fh : fits h) (fm : fits m) (fk : fits k) (hlh : l ≤ h) (hmk : m ≤ k) : CodeV 82 1 l h m k :=
  ⟨_, _, _, _, _, subSpans_q l h m k fl fh fm fk hlh hmk, trivial, code_fin (fun x => ⟨x.1, x.2, by grind⟩) (fun x => .inr (.inl ⟨rfl, rfl, rfl⟩))⟩
theorem code_div (l h m k : Rat) (fl : fits l) (fh : fits h) (fm : fits m) (fk : fits k) (hlh : l ≤ h) (hmk : m ≤ k) (hz' : hasQ m k 0 = false) : CodeV 85 3 l h m k := by
  have hzz : ¬ (m ≤ 0 ∧ 0 ≤ k) := fun x => by
    unfold hasQ at hz'; rw [decide_eq_true x.1, decide_eq_true x.2] at hz'; cases hz'
  exact ⟨_, _, _, _, _, divSpans_q l h m k fl fh fm fk hlh hmk hz', trivial, code_fin (fun x => ⟨clo4 x.1 x.2.1 x.2.2.1 x.2.2.2, chi4 x.1 x.2.1 x.2.2.1 x.2.2.2, clh3 _ _ _ _⟩) (fun x => .inr (.inr (.inr ⟨rfl, hzz, rfl, rfl⟩)))⟩
end Go.Proofs.Ytdimmnoflenfhaa
/-
  Layer 5: corners of valid lines, by the code.
-/
namespace Go.Proofs.Ytdimmnoflenfhaa
open Go.RowKit
set_option linter.unusedVariables false
set_option linter.unusedSimpArgs false

/-- One coordinate of a corner. -/
def CoIs (fl fh cl ch hl hh dl dh x1 x2 : Rat) : Prop := ∃ p1 p2 s1 s2, isSp 2 fl fh hl hh p1 p2 ∧ isSp 0 cl ch p1 p2 s1 s2 ∧ isSp 3 s1 s2 dl dh x1 x2
def DiIs (fl fh gl gh dl dh : Rat) : Prop := ∃ p1 p2, isSp 2 fl fh gl gh p1 p2 ∧ isSp 1 1 1 p1 p2 dl dh
theorem fitsOne : fits 1 := by unfold fits fn fd; decide
theorem hasQ_false {l h : Rat} (x : ¬ (l ≤ 0 ∧ 0 ≤ h)) : hasQ l h 0 = false := by
  unfold hasQ
  by_cases a : l ≤ 0
  · by_cases b : 0 ≤ h
    · exact absurd ⟨a, b⟩ x
    · rw [decide_eq_false b, Bool.and_false]
  · rw [decide_eq_false a, Bool.false_and]
theorem sgn_le {q : Rat} : fn q ≤ 0 ↔ q ≤ 0 := by
  unfold fn
  have h : 0 ≤ (-q).num ↔ 0 ≤ -q := Rat.num_nonneg
  rw [Rat.neg_num] at h
  constructor
  · intro k
    have := h.1 (by omega)
    grind
  · intro k
    have := h.2 (by grind)
    omega
theorem sgn_ge {q : Rat} : 0 ≤ fn q ↔ 0 ≤ q := by unfold fn; exact Rat.num_nonneg
theorem meet_co (fl fh cl ch gl gh hl hh dl dh : Rat) (flf : fits fl) (fhf : fits fh) (clf : fits cl) (chf : fits ch) (glf : fits gl) (ghf : fits gh) (hlf : fits hl) (hhf : fits hh) (dlf : fits dl) (dhf : fits dh) (oF : fl ≤ fh) (oC : cl ≤ ch) (oG : gl ≤ gh) (oH : hl ≤ hh) (oD : dl ≤ dh) (hz : ¬ (dl ≤ 0 ∧ 0 ≤ dh)) :
    ∃ r1 r2 r3 r4 E : Int, (∀ w, Calls Try.prog 48 #[.agg #[.int .i64 (fn fl), .int .i64 (fd fl), .int .i64 (fn fh), .int .i64 (fd fh), .int .i64 (fn cl), .int .i64 (fd cl), .int .i64 (fn ch), .int .i64 (fd ch)], .agg #[.int .i64 (fn gl), .int .i64 (fd gl), .int .i64 (fn gh), .int .i64 (fd gh), .int .i64 (fn hl), .int .i64 (fd hl), .int .i64 (fn hh), .int .i64 (fd hh)], .agg #[.int .i64 (fn dl), .int .i64 (fd dl), .int .i64 (fn dh), .int .i64 (fd dh)]] w fun e w' => e = .returned (.tuple #[.agg #[.int .i64 r1, .int .i64 r2, .int .i64 r3, .int .i64 r4], .int .i64 E]) ∧ Below w.heap.size w w') ∧
      True ∧
      (E = 4 ∨ E = 0 ∧ ∃ x1 x2, fits x1 ∧ fits x2 ∧ x1 ≤ x2 ∧ CoIs fl fh cl ch hl hh dl dh x1 x2 ∧ r1 = fn x1 ∧ r2 = fd x1 ∧ r3 = fn x2 ∧ r4 = fd x2) := by
  obtain ⟨a1, a2, a3, a4, e1, ca, ra, ha⟩ := code_mul fl fh hl hh flf fhf hlf hhf oF oH
  simp only [spI] at ca
  rcases ha with rfl | ⟨rfl, p1, p2, pf1, pf2, po, pi, rfl, rfl, rfl, rfl⟩
  · exact ⟨0, 0, 0, 0, 4, fun w => meeting_1 (fn fl) (fd fl) (fn fh) (fd fh) (fn cl) (fd cl) (fn ch) (fd ch) (fn gl) (fd gl) (fn gh) (fd gh) (fn hl) (fd hl) (fn hh) (fd hh) (fn dl) (fd dl) (fn dh) (fd dh) a1 a2 a3 a4 0 0 0 0 0 0 0 0 4 w rfl (Lib.hid ca), trivial, .inl rfl⟩
  obtain ⟨b1, b2, b3, b4, e2, cb, rb, hb⟩ := code_add cl ch p1 p2 clf chf pf1 pf2 oC po
  simp only [spI] at cb
  rcases hb with rfl | ⟨rfl, s1, s2, sf1, sf2, so, si, rfl, rfl, rfl, rfl⟩
  · exact ⟨0, 0, 0, 0, 4, fun w => meeting_2 (fn fl) (fd fl) (fn fh) (fd fh) (fn cl) (fd cl) (fn ch) (fd ch) (fn gl) (fd gl) (fn gh) (fd gh) (fn hl) (fd hl) (fn hh) (fd hh) (fn dl) (fd dl) (fn dh) (fd dh) (fn p1) (fd p1) (fn p2) (fd p2) b1 b2 b3 b4 0 0 0 0 4 w rfl (Lib.hid ca) (Lib.hid cb), trivial, .inl rfl⟩
  obtain ⟨d1, d2, d3, d4, e3, cd, rd, hd⟩ := code_div s1 s2 dl dh sf1 sf2 dlf dhf so oD (hasQ_false hz)
  simp only [spI] at cd
  refine ⟨d1, d2, d3, d4, e3, fun w => meeting_3 (fn fl) (fd fl) (fn fh) (fd fh) (fn cl) (fd cl) (fn ch) (fd ch) (fn gl) (fd gl) (fn gh) (fd gh) (fn hl) (fd hl) (fn hh) (fd hh) (fn dl) (fd dl) (fn dh) (fd dh) (fn p1) (fd p1) (fn p2) (fd p2) (fn s1) (fd s1) (fn s2) (fd s2) d1 d2 d3 d4 e3 w (Lib.hid ca) (Lib.hid cb) (Lib.hid cd), trivial, ?_⟩
  rcases hd with rfl | ⟨rfl, x1, x2, xf1, xf2, xo, xi, rfl, rfl, rfl, rfl⟩
  · exact .inl rfl
  · exact .inr ⟨rfl, x1, x2, xf1, xf2, xo, ⟨p1, p2, s1, s2, pi, si, xi⟩, rfl, rfl, rfl, rfl⟩
/-- A corner of valid lines. -/
theorem corner_c (fl fh cl ch gl gh hl hh : Rat) (flf : fits fl) (fhf : fits fh) (clf : fits cl) (chf : fits ch) (glf : fits gl) (ghf : fits gh) (hlf : fits hl) (hhf : fits hh) (oF : fl ≤ fh) (oC : cl ≤ ch) (oG : gl ≤ gh) (oH : hl ≤ hh) :
    ∃ x1 x2 x3 x4 y1 y2 y3 y4 E : Int, (∀ w, Calls Try.prog 17 #[.agg #[.int .i64 (fn fl), .int .i64 (fd fl), .int .i64 (fn fh), .int .i64 (fd fh), .int .i64 (fn cl), .int .i64 (fd cl), .int .i64 (fn ch), .int .i64 (fd ch)], .agg #[.int .i64 (fn gl), .int .i64 (fd gl), .int .i64 (fn gh), .int .i64 (fd gh), .int .i64 (fn hl), .int .i64 (fd hl), .int .i64 (fn hh), .int .i64 (fd hh)]] w fun e w' => e = .returned (.tuple #[.agg #[.int .i64 x1, .int .i64 x2, .int .i64 x3, .int .i64 x4], .agg #[.int .i64 y1, .int .i64 y2, .int .i64 y3, .int .i64 y4], .int .i64 E]) ∧ Below w.heap.size w w') ∧
      True ∧
      (E = 4 ∨ (E = 6 ∧ ∃ dl dh, DiIs fl fh gl gh dl dh ∧ dl ≤ 0 ∧ 0 ≤ dh) ∨ (E = 0 ∧ ∃ dl dh p1 p2 q1 q2, DiIs fl fh gl gh dl dh ∧ ¬ (dl ≤ 0 ∧ 0 ≤ dh) ∧ dl ≤ dh ∧ fits p1 ∧ fits p2 ∧ p1 ≤ p2 ∧ fits q1 ∧ fits q2 ∧ q1 ≤ q2 ∧ CoIs fl fh cl ch hl hh dl dh p1 p2 ∧ CoIs gl gh hl hh cl ch dl dh q1 q2 ∧ x1 = fn p1 ∧ x2 = fd p1 ∧ x3 = fn p2 ∧ x4 = fd p2 ∧ y1 = fn q1 ∧ y2 = fd q1 ∧ y3 = fn q2 ∧ y4 = fd q2)) := by
  have K : ∀ l h : Rat, fits l → fits h → l ≤ h → Hid (∀ w, Calls Try.prog 46 #[.agg #[.int .i64 (fn l), .int .i64 (fd l), .int .i64 (fn h), .int .i64 (fd h)]] w fun e w' => e = .returned (.int .i64 0) ∧ Below w.heap.size w w') := fun l h f1 f2 o w => by
    have := checkSpan_any (fn l) (fd l) (fn h) (fd h) w; rwa [ckS_ok f1 f2 o] at this
  have k1 := K fl fh flf fhf oF
  have k2 := K cl ch clf chf oC
  have k3 := K gl gh glf ghf oG
  have k4 := K hl hh hlf hhf oH
  clear K
  obtain ⟨a1, a2, a3, a4, e1, ca, ra, ha⟩ := code_mul fl fh gl gh flf fhf glf ghf oF oG
  simp only [spI] at ca
  rcases ha with rfl | ⟨rfl, p1, p2, pf1, pf2, po, pi, rfl, rfl, rfl, rfl⟩
  · refine ⟨0, 0, 0, 0, 0, 0, 0, 0, 4, fun w => corner_1 (fn fl) (fd fl) (fn fh) (fd fh) (fn cl) (fd cl) (fn ch) (fd ch) (fn gl) (fd gl) (fn gh) (fd gh) (fn hl) (fd hl) (fn hh) (fd hh) 0 0 0 0 a1 a2 a3 a4 0 0 0 0 0 0 0 0 4 0 0 0 0 0 0 0 0 0 0 0 0 w rfl k1 k2 k3 k4 (Lib.hid fun w => divisor_1 (fn fl) (fd fl) (fn fh) (fd fh) (fn cl) (fd cl) (fn ch) (fd ch) (fn gl) (fd gl) (fn gh) (fd gh) (fn hl) (fd hl) (fn hh) (fd hh) 0 0 0 0 a1 a2 a3 a4 0 0 0 0 0 0 0 0 4 w rfl (Lib.hid ca)), trivial, .inl rfl⟩
  obtain ⟨b1, b2, b3, b4, e2, cb, rb, hb⟩ := code_sub 1 1 p1 p2 fitsOne fitsOne pf1 pf2 Rat.le_refl po
  simp only [spI, show fn (1 : Rat) = 1 from rfl, show fd (1 : Rat) = 1 from rfl] at cb
  rcases hb with rfl | ⟨rfl, dl, dh, dlf, dhf, oD, di, rfl, rfl, rfl, rfl⟩
  · refine ⟨0, 0, 0, 0, 0, 0, 0, 0, 4, fun w => corner_1 (fn fl) (fd fl) (fn fh) (fd fh) (fn cl) (fd cl) (fn ch) (fd ch) (fn gl) (fd gl) (fn gh) (fd gh) (fn hl) (fd hl) (fn hh) (fd hh) 0 0 0 0 (fn p1) (fd p1) (fn p2) (fd p2) 0 0 0 0 0 0 0 0 4 0 0 0 0 0 0 0 0 0 0 0 0 w rfl k1 k2 k3 k4 (Lib.hid fun w => divisor_2 (fn fl) (fd fl) (fn fh) (fd fh) (fn cl) (fd cl) (fn ch) (fd ch) (fn gl) (fd gl) (fn gh) (fd gh) (fn hl) (fd hl) (fn hh) (fd hh) 0 0 0 0 (fn p1) (fd p1) (fn p2) (fd p2) b1 b2 b3 b4 0 0 0 0 0 w 4 rfl (Lib.hid ca) (Lib.hid cb)), trivial, .inl rfl⟩
  have hi := in_q dl dh 0 dlf dhf fits_zero oD
  simp only [show fn (0 : Rat) = 0 from rfl, show fd (0 : Rat) = 1 from rfl] at hi
  by_cases hz : dl ≤ 0 ∧ 0 ≤ dh
  · have hq : hasQ dl dh 0 = true := by unfold hasQ; rw [decide_eq_true hz.1, decide_eq_true hz.2]; rfl
    rw [hq] at hi
    exact ⟨0, 0, 0, 0, 0, 0, 0, 0, 6, fun w => corner_1 (fn fl) (fd fl) (fn fh) (fd fh) (fn cl) (fd cl) (fn ch) (fd ch) (fn gl) (fd gl) (fn gh) (fd gh) (fn hl) (fd hl) (fn hh) (fd hh) 0 0 0 0 (fn p1) (fd p1) (fn p2) (fd p2) (fn dl) (fd dl) (fn dh) (fd dh) 0 0 0 0 6 0 0 0 0 0 0 0 0 0 0 0 0 w rfl k1 k2 k3 k4 (Lib.hid fun w => divisor_3 (fn fl) (fd fl) (fn fh) (fd fh) (fn cl) (fd cl) (fn ch) (fd ch) (fn gl) (fd gl) (fn gh) (fd gh) (fn hl) (fd hl) (fn hh) (fd hh) 0 0 0 0 (fn p1) (fd p1) (fn p2) (fd p2) (fn dl) (fd dl) (fn dh) (fd dh) 0 0 0 0 0 w (Lib.hid ca) (Lib.hid cb) (Lib.hid hi)), trivial, .inr (.inl ⟨rfl, dl, dh, ⟨p1, p2, pi, di⟩, hz⟩)⟩
  rw [hasQ_false hz] at hi
  have HD := fun w => divisor_4 (fn fl) (fd fl) (fn fh) (fd fh) (fn cl) (fd cl) (fn ch) (fd ch) (fn gl) (fd gl) (fn gh) (fd gh) (fn hl) (fd hl) (fn hh) (fd hh) (fn dl) (fd dl) (fn dh) (fd dh) (fn p1) (fd p1) (fn p2) (fd p2) (fn dl) (fd dl) (fn dh) (fd dh) 0 0 0 0 0 w (Lib.hid ca) (Lib.hid cb) (Lib.hid hi)
  obtain ⟨x1, x2, x3, x4, ex, cx, rx, hx⟩ := meet_co fl fh cl ch gl gh hl hh dl dh flf fhf clf chf glf ghf hlf hhf dlf dhf oF oC oG oH oD hz
  obtain ⟨y1, y2, y3, y4, ey, cy, ry, hy⟩ := meet_co gl gh hl hh fl fh cl ch dl dh glf ghf hlf hhf flf fhf clf chf dlf dhf oG oH oF oC oD hz
  have hzz : decide (fn dl ≤ 0) = false ∨ (decide (fn dl ≤ 0) = true ∧ decide (0 ≤ fn dh) = false) := by
    by_cases z1 : dl ≤ 0
    · refine .inr ⟨decide_eq_true (sgn_le.2 z1), decide_eq_false fun h => hz ⟨z1, sgn_ge.1 h⟩⟩
    · exact .inl (decide_eq_false fun h => z1 (sgn_le.1 h))
  rcases hx with rfl | ⟨rfl, u1, u2, uf1, uf2, uo, ui, rfl, rfl, rfl, rfl⟩
  · refine ⟨0, 0, 0, 0, 0, 0, 0, 0, 4, fun w => corner_2 (fn fl) (fd fl) (fn fh) (fd fh) (fn cl) (fd cl) (fn ch) (fd ch) (fn gl) (fd gl) (fn gh) (fd gh) (fn hl) (fd hl) (fn hh) (fd hh) (fn dl) (fd dl) (fn dh) (fd dh) (fn p1) (fd p1) (fn p2) (fd p2) (fn dl) (fd dl) (fn dh) (fd dh) 0 0 0 0 4 0 0 0 0 x1 x2 x3 x4 0 0 0 0 w rfl k1 k2 k3 k4 (Lib.hid HD) (Lib.hid cx), trivial, .inl rfl⟩
  rcases hy with rfl | ⟨rfl, q1, q2, qf1, qf2, qo, qi, rfl, rfl, rfl, rfl⟩
  · refine ⟨0, 0, 0, 0, 0, 0, 0, 0, 4, fun w => corner_3 (fn fl) (fd fl) (fn fh) (fd fh) (fn cl) (fd cl) (fn ch) (fd ch) (fn gl) (fd gl) (fn gh) (fd gh) (fn hl) (fd hl) (fn hh) (fd hh) (fn dl) (fd dl) (fn dh) (fd dh) (fn p1) (fd p1) (fn p2) (fd p2) (fn dl) (fd dl) (fn dh) (fd dh) 0 0 0 0 4 0 0 0 0 (fn u1) (fd u1) (fn u2) (fd u2) y1 y2 y3 y4 w rfl k1 k2 k3 k4 (Lib.hid HD) (Lib.hid cx) (Lib.hid cy), trivial, .inl rfl⟩
  refine ⟨_, _, _, _, _, _, _, _, 0, fun w => corner_4 (fn fl) (fd fl) (fn fh) (fd fh) (fn cl) (fd cl) (fn ch) (fd ch) (fn gl) (fd gl) (fn gh) (fd gh) (fn hl) (fd hl) (fn hh) (fd hh) (fn dl) (fd dl) (fn dh) (fd dh) (fn p1) (fd p1) (fn p2) (fd p2) (fn dl) (fd dl) (fn dh) (fd dh) 0 0 0 0 0 0 0 0 0 (fn u1) (fd u1) (fn u2) (fd u2) (fn q1) (fd q1) (fn q2) (fd q2) w k1 k2 k3 k4 (Lib.hid HD) (Lib.hid cx) (Lib.hid cy), trivial, .inr (.inr ⟨rfl, dl, dh, u1, u2, q1, q2, ⟨p1, p2, pi, di⟩, hz, oD, uf1, uf2, uo, qf1, qf2, qo, ui, qi, rfl, rfl, rfl, rfl, rfl, rfl, rfl, rfl⟩)⟩
end Go.Proofs.Ytdimmnoflenfhaa
/-
  Layer 5: a corner of points within the spans lies within the corner's spans.
-/
namespace Go.Proofs.Ytdimmnoflenfhaa
set_option linter.unusedVariables false

theorem isSp_pt {k : Nat} {x y L H : Rat} (hs : isSp k x x y y L H) : L = H := by
  rcases isSp_lo hs with rfl | rfl | rfl | rfl <;> rcases isSp_hi hs with rfl | rfl | rfl | rfl <;> rfl
/-- A point of a span. -/
def In1 (l h x : Rat) : Prop := l ≤ x ∧ x ≤ h
theorem sp_in {k : Nat} {l h m n L H x y L' H' : Rat} (hs : isSp k l h m n L H) (hs' : isSp k x x y y L' H') (h1 : In1 l h x) (h2 : In1 m n y) : L' = H' ∧ In1 L H L' := by
  have e := isSp_pt hs'
  have := isSp_within hs hs' h1.1 h1.2 h1.1 h1.2 h2.1 h2.2 h2.1 h2.2
  exact ⟨e, this.1⟩
theorem di_in {fl fh gl gh dl dh x y d1 d2 : Rat} (hb : DiIs fl fh gl gh dl dh) (hs : DiIs x x y y d1 d2) (hx : In1 fl fh x) (hy : In1 gl gh y) : d1 = d2 ∧ In1 dl dh d1 := by
  obtain ⟨p1, p2, a1, a2⟩ := hb
  obtain ⟨q1, q2, b1, b2⟩ := hs
  obtain ⟨e, i⟩ := sp_in a1 b1 hx hy
  subst e
  exact sp_in a2 b2 ⟨Rat.le_refl, Rat.le_refl⟩ i
theorem co_in {fl fh cl ch hl hh dl dh x1 x2 P Q S d1 d2 y1 y2 : Rat} (hb : CoIs fl fh cl ch hl hh dl dh x1 x2) (hs : CoIs P P Q Q S S d1 d2 y1 y2) (hd : d1 = d2) (iP : In1 fl fh P) (iQ : In1 cl ch Q) (iS : In1 hl hh S) (iD : In1 dl dh d1) : y1 = y2 ∧ In1 x1 x2 y1 := by
  subst hd
  obtain ⟨p1, p2, s1, s2, a1, a2, a3⟩ := hb
  obtain ⟨q1, q2, t1, t2, b1, b2, b3⟩ := hs
  obtain ⟨e, i⟩ := sp_in a1 b1 iP iS
  subst e
  obtain ⟨e, i⟩ := sp_in a2 b2 iQ i
  subst e
  exact sp_in a3 b3 i iD
end Go.Proofs.Ytdimmnoflenfhaa
/-
  Layer 5: Measure, by the code.
-/
namespace Go.Proofs.Ytdimmnoflenfhaa
open Go.RowKit Go.Shelf
set_option linter.unusedVariables false
set_option linter.unusedSimpArgs false

set_option maxRecDepth 100000 in
set_option maxHeartbeats 4000000 in
theorem unm_any (t n s1 s2 s3 s4 l1 l2 h1 h2 : Int) (a : Option Addr) (m c : Nat) (zs : List Int) (hz : okP zs) (hT : okT t) (hN : okN n) (w : World) (hR : Row w a m (iv zs)) :
    Calls Try.prog 50 #[.agg #[.int .i64 t, .int .i64 n, .int .i64 s1, .int .i64 s2, .int .i64 s3, .int .i64 s4, .int .i64 l1, .int .i64 l2, .int .i64 h1, .int .i64 h2], .slice a m c] w fun e w' => e = .returned (.int .u8 (if (FX t (upL n zs) 0).isSome then 3 else 2)) ∧ Below w.heap.size w w' := by
  have hl : zs.length = m := by have := hR.1; rwa [iv_length] at this
  have hm : m ≤ maxLen := by have := hz.1.2; unfold maxLen; omega
  have HU := Lib.hid (fun w => up_ok a m c zs n hz hN w)
  have zu := upL_ok hz hN.1
  have HF : Hid (∀ (b : Nat) (w : World), Blk w b (ints (upL n zs)) 3 → Calls Try.prog 9 #[.slice (some ⟨b, 0, none⟩) m m, .int .i64 t, .int .i64 0] w fun e w' => e = .returned (.tuple #[.agg #[.int .i64 (oN (FX t (upL n zs) 0)), .int .i64 (oD (FX t (upL n zs) 0))], .int .i64 (if (FX t (upL n zs) 0).isSome then 0 else 6)]) ∧ Below w.heap.size w w') := fun b w hk => by
    have h := first_any (some ⟨b, 0, none⟩) m m (upL n zs) t 0 hm w (Row.of_ints (by rw [upL_length, hl]) hk)
    have i0 : inL (upL n zs) 0 := ⟨by omega, by have := zu.1.1; omega⟩
    rw [fiO_ok ⟨zu, hT, i0⟩, show fiE t (upL n zs) 0 = _ from asE_ok zu ⟨hT, i0⟩] at h
    exact h
  have HR := Lib.hid hR
  obtain ⟨A, hA⟩ : ∃ z, oN (FX t (upL n zs) 0) = z := ⟨_, rfl⟩
  obtain ⟨B, hB⟩ : ∃ z, oD (FX t (upL n zs) 0) = z := ⟨_, rfl⟩
  rw [hA, hB] at HF
  obtain ⟨b0, hb0⟩ : ∃ z, (FX t (upL n zs) 0).isSome = z := ⟨_, rfl⟩
  rw [hb0] at HF ⊢
  clear hR hz hT hN zu hl hm hA hB hb0
  cases b0
  all_goals
    go_enter Try.func50, Try.ntmps50
    go_wp2_with fail
    refine (HU.out _ (HR.out.later (by (repeat' (first | (with_reducible exact Below.refl _ _) | (with_reducible assumption) | (with_reducible refine belowThru ?_ (by assumption)) | (with_reducible refine belowAlloc ?_) | (with_reducible refine Below.setCell ?_ (by first | omega | (simp; done) | (simp; omega)) _) | (with_reducible refine Below.drew ?_) | (with_reducible refine below_drewN ?_ _)))))).mono ?_
    rintro e w1 ⟨bu, rfl, hbu, ku, hb⟩
    have k0 : Blk w1 w.heap.size #[.int .i64 t, .int .i64 n, .int .i64 s1, .int .i64 s2, .int .i64 s3, .int .i64 s4, .int .i64 l1, .int .i64 l2, .int .i64 h1, .int .i64 h2] 41 := Blk.later hb (by (repeat' (first | (with_reducible assumption) | ((with_reducible refine Blk.new ?_); first | rfl | (simp; done)) | (with_reducible refine Blk.later (by assumption) ?_) | (with_reducible refine Blk.alloc ?_) | (with_reducible refine Blk.drewN ?_) | (with_reducible refine Blk.drew ?_) | (with_reducible refine Blk.other ?_ (by first | omega | (simp; done) | (simp; omega))))))
    obtain ⟨a0, b0⟩ := k0.read
    have hB1 : Below w.heap.size w w1 := by (repeat' (first | (with_reducible exact Below.refl _ _) | (with_reducible assumption) | (with_reducible refine belowThru ?_ (by assumption)) | (with_reducible refine belowAlloc ?_) | (with_reducible refine Below.setCell ?_ (by first | omega | (simp; done) | (simp; omega)) _) | (with_reducible refine Below.drew ?_) | (with_reducible refine below_drewN ?_ _)))
    clear hb
    go_wp2_with fail
    refine (HF.out _ _ ku).mono ?_
    rintro e w2 ⟨rfl, hb⟩
    have hB2 := belowThru hB1 hb
    clear hb hB1
    go_wp2
    go_ret
    exact ⟨rfl, by (repeat' (first | (with_reducible exact Below.refl _ _) | (with_reducible assumption) | (with_reducible refine belowThru ?_ (by assumption)) | (with_reducible refine belowAlloc ?_) | (with_reducible refine Below.setCell ?_ (by first | omega | (simp; done) | (simp; omega)) _) | (with_reducible refine Below.drew ?_) | (with_reducible refine below_drewN ?_ _)))⟩
set_option maxRecDepth 100000 in
set_option maxHeartbeats 4000000 in
theorem mea_bad (t n s1 s2 s3 s4 l1 l2 h1 h2 : Int) (a : Option Addr) (m c : Nat) (w : World) (HC : Hid (∀ w, Calls Try.prog 36 #[.agg #[.int .i64 t, .int .i64 n, .int .i64 s1, .int .i64 s2, .int .i64 s3, .int .i64 s4, .int .i64 l1, .int .i64 l2, .int .i64 h1, .int .i64 h2]] w fun e w' => e = .returned (.int .i64 8) ∧ Below w.heap.size w w')) :
    Calls Try.prog 19 #[.agg #[.int .i64 t, .int .i64 n, .int .i64 s1, .int .i64 s2, .int .i64 s3, .int .i64 s4, .int .i64 l1, .int .i64 l2, .int .i64 h1, .int .i64 h2], .slice a m c] w fun e w' => e = .returned (.tuple #[.agg #[.int .i64 0, .int .i64 0, .int .i64 0, .int .i64 0], .int .u8 0, .int .i64 8]) ∧ Below w.heap.size w w' := by
  go_enter Try.func19, Try.ntmps19
  go_wp2_with fail
  refine (HC.out _).mono ?_
  rintro e w1 ⟨rfl, hb⟩
  have k0 : Blk w1 w.heap.size #[.int .i64 t, .int .i64 n, .int .i64 s1, .int .i64 s2, .int .i64 s3, .int .i64 s4, .int .i64 l1, .int .i64 l2, .int .i64 h1, .int .i64 h2] 41 := Blk.later hb (by (repeat' (first | (with_reducible assumption) | ((with_reducible refine Blk.new ?_); first | rfl | (simp; done)) | (with_reducible refine Blk.later (by assumption) ?_) | (with_reducible refine Blk.alloc ?_) | (with_reducible refine Blk.drewN ?_) | (with_reducible refine Blk.drew ?_) | (with_reducible refine Blk.other ?_ (by first | omega | (simp; done) | (simp; omega))))))
  have k1 : Blk w1 (w.heap.size + 1) #[.int .i64 0, .int .i64 0, .int .i64 0, .int .i64 0] 30 := Blk.later hb (by (repeat' (first | (with_reducible assumption) | ((with_reducible refine Blk.new ?_); first | rfl | (simp; done)) | (with_reducible refine Blk.later (by assumption) ?_) | (with_reducible refine Blk.alloc ?_) | (with_reducible refine Blk.drewN ?_) | (with_reducible refine Blk.drew ?_) | (with_reducible refine Blk.other ?_ (by first | omega | (simp; done) | (simp; omega))))))
  obtain ⟨a0, b0⟩ := k0.read
  obtain ⟨a1, b1⟩ := k1.read
  have hB1 : Below w.heap.size w w1 := by (repeat' (first | (with_reducible exact Below.refl _ _) | (with_reducible assumption) | (with_reducible refine belowThru ?_ (by assumption)) | (with_reducible refine belowAlloc ?_) | (with_reducible refine Below.setCell ?_ (by first | omega | (simp; done) | (simp; omega)) _) | (with_reducible refine Below.drew ?_) | (with_reducible refine below_drewN ?_ _)))
  clear hb
  go_wp2
  exact bodyPost_ret (v := .tuple #[.agg #[.int .i64 0, .int .i64 0, .int .i64 0, .int .i64 0], .int .u8 0, .int .i64 8]) (by simp only [results, Try.results19]; go_simp) rfl ⟨rfl, by (repeat' (first | (with_reducible exact Below.refl _ _) | (with_reducible assumption) | (with_reducible refine belowThru ?_ (by assumption)) | (with_reducible refine belowAlloc ?_) | (with_reducible refine Below.setCell ?_ (by first | omega | (simp; done) | (simp; omega)) _) | (with_reducible refine Below.drew ?_) | (with_reducible refine below_drewN ?_ _)))⟩
set_option maxRecDepth 100000 in
set_option maxHeartbeats 4000000 in
theorem mea_prof (t n s1 s2 s3 s4 l1 l2 h1 h2 : Int) (a : Option Addr) (m c : Nat) (zs : List Int) (W1 W2 W3 W4 E : Int) (hE1 : (E == 6) = false) (hE2 : (E != 0) = true) (w : World) (hR : Row w a m (iv zs)) (HC : Hid (∀ w, Calls Try.prog 36 #[.agg #[.int .i64 t, .int .i64 n, .int .i64 s1, .int .i64 s2, .int .i64 s3, .int .i64 s4, .int .i64 l1, .int .i64 l2, .int .i64 h1, .int .i64 h2]] w fun e w' => e = .returned (.int .i64 0) ∧ Below w.heap.size w w')) (HW : Hid (∀ w, Row w a m (iv zs) → Calls Try.prog 31 #[.slice a m c, .int .i64 t, .int .i64 n] w fun e w' => e = .returned (.tuple #[.agg #[.int .i64 W1, .int .i64 W2, .int .i64 W3, .int .i64 W4], .int .i64 E]) ∧ Below w.heap.size w w')) :
    Calls Try.prog 19 #[.agg #[.int .i64 t, .int .i64 n, .int .i64 s1, .int .i64 s2, .int .i64 s3, .int .i64 s4, .int .i64 l1, .int .i64 l2, .int .i64 h1, .int .i64 h2], .slice a m c] w fun e w' => e = .returned (.tuple #[.agg #[.int .i64 0, .int .i64 0, .int .i64 0, .int .i64 0], .int .u8 0, .int .i64 E]) ∧ Below w.heap.size w w' := by
  have HR := Lib.hid hR
  clear hR
  go_enter Try.func19, Try.ntmps19
  go_wp2_with fail
  refine (HC.out _).mono ?_
  rintro e w1 ⟨rfl, hb⟩
  have k0 : Blk w1 w.heap.size #[.int .i64 t, .int .i64 n, .int .i64 s1, .int .i64 s2, .int .i64 s3, .int .i64 s4, .int .i64 l1, .int .i64 l2, .int .i64 h1, .int .i64 h2] 41 := Blk.later hb (by (repeat' (first | (with_reducible assumption) | ((with_reducible refine Blk.new ?_); first | rfl | (simp; done)) | (with_reducible refine Blk.later (by assumption) ?_) | (with_reducible refine Blk.alloc ?_) | (with_reducible refine Blk.drewN ?_) | (with_reducible refine Blk.drew ?_) | (with_reducible refine Blk.other ?_ (by first | omega | (simp; done) | (simp; omega))))))
  have k1 : Blk w1 (w.heap.size + 1) #[.int .i64 0, .int .i64 0, .int .i64 0, .int .i64 0] 30 := Blk.later hb (by (repeat' (first | (with_reducible assumption) | ((with_reducible refine Blk.new ?_); first | rfl | (simp; done)) | (with_reducible refine Blk.later (by assumption) ?_) | (with_reducible refine Blk.alloc ?_) | (with_reducible refine Blk.drewN ?_) | (with_reducible refine Blk.drew ?_) | (with_reducible refine Blk.other ?_ (by first | omega | (simp; done) | (simp; omega))))))
  obtain ⟨a0, b0⟩ := k0.read
  obtain ⟨a1, b1⟩ := k1.read
  have hB1 : Below w.heap.size w w1 := by (repeat' (first | (with_reducible exact Below.refl _ _) | (with_reducible assumption) | (with_reducible refine belowThru ?_ (by assumption)) | (with_reducible refine belowAlloc ?_) | (with_reducible refine Below.setCell ?_ (by first | omega | (simp; done) | (simp; omega)) _) | (with_reducible refine Below.drew ?_) | (with_reducible refine below_drewN ?_ _)))
  clear hb
  go_wp2_with fail
  refine (HW.out _ (HR.out.later hB1)).mono ?_
  rintro e w2 ⟨rfl, hb⟩
  replace k0 := Blk.later hb k0
  replace k1 := Blk.later hb k1
  have hB2 := belowThru hB1 hb
  clear a0 b0 a1 b1 hb hB1
  obtain ⟨a0, b0⟩ := k0.read
  obtain ⟨a1, b1⟩ := k1.read
  have y0 := k0.lt
  have y1 := k1.lt
  go_wp2
  exact bodyPost_ret (v := .tuple #[.agg #[.int .i64 0, .int .i64 0, .int .i64 0, .int .i64 0], .int .u8 0, .int .i64 E]) (by simp only [results, Try.results19]; go_simp) rfl ⟨rfl, by (repeat' (first | (with_reducible exact Below.refl _ _) | (with_reducible assumption) | (with_reducible refine belowThru ?_ (by assumption)) | (with_reducible refine belowAlloc ?_) | (with_reducible refine Below.setCell ?_ (by first | omega | (simp; done) | (simp; omega)) _) | (with_reducible refine Below.drew ?_) | (with_reducible refine below_drewN ?_ _)))⟩
set_option maxRecDepth 100000 in
set_option maxHeartbeats 4000000 in
theorem mea_some (t n s1 s2 s3 s4 l1 l2 h1 h2 : Int) (a : Option Addr) (m c : Nat) (zs : List Int) (W1 W2 W3 W4 L1 L2 L3 L4 e1 V e2 : Int) (w : World) (hR : Row w a m (iv zs)) (HC : Hid (∀ w, Calls Try.prog 36 #[.agg #[.int .i64 t, .int .i64 n, .int .i64 s1, .int .i64 s2, .int .i64 s3, .int .i64 s4, .int .i64 l1, .int .i64 l2, .int .i64 h1, .int .i64 h2]] w fun e w' => e = .returned (.int .i64 0) ∧ Below w.heap.size w w')) (HW : Hid (∀ w, Row w a m (iv zs) → Calls Try.prog 31 #[.slice a m c, .int .i64 t, .int .i64 n] w fun e w' => e = .returned (.tuple #[.agg #[.int .i64 W1, .int .i64 W2, .int .i64 W3, .int .i64 W4], .int .i64 0]) ∧ Below w.heap.size w w')) (HM : Hid (∀ w, Calls Try.prog 51 #[.agg #[.int .i64 W1, .int .i64 W2, .int .i64 W3, .int .i64 W4], .agg #[.int .i64 s1, .int .i64 s2, .int .i64 s3, .int .i64 s4]] w fun e w' => e = .returned (.tuple #[.agg #[.int .i64 L1, .int .i64 L2, .int .i64 L3, .int .i64 L4], .int .i64 e1]) ∧ Below w.heap.size w w')) (HD : Hid (∀ w, Calls Try.prog 33 #[.agg #[.int .i64 L1, .int .i64 L2, .int .i64 L3, .int .i64 L4], .agg #[.int .i64 l1, .int .i64 l2], .agg #[.int .i64 h1, .int .i64 h2]] w fun e w' => e = .returned (.tuple #[.int .u8 V, .int .i64 e2]) ∧ Below w.heap.size w w')) :
    Calls Try.prog 19 #[.agg #[.int .i64 t, .int .i64 n, .int .i64 s1, .int .i64 s2, .int .i64 s3, .int .i64 s4, .int .i64 l1, .int .i64 l2, .int .i64 h1, .int .i64 h2], .slice a m c] w fun e w' => e = .returned (.tuple #[.agg #[.int .i64 L1, .int .i64 L2, .int .i64 L3, .int .i64 L4], .int .u8 V, .int .i64 0]) ∧ Below w.heap.size w w' := by
  have HR := Lib.hid hR
  clear hR
  go_enter Try.func19, Try.ntmps19
  go_wp2_with fail
  refine (HC.out _).mono ?_
  rintro e w1 ⟨rfl, hb⟩
  have k0 : Blk w1 w.heap.size #[.int .i64 t, .int .i64 n, .int .i64 s1, .int .i64 s2, .int .i64 s3, .int .i64 s4, .int .i64 l1, .int .i64 l2, .int .i64 h1, .int .i64 h2] 41 := Blk.later hb (by (repeat' (first | (with_reducible assumption) | ((with_reducible refine Blk.new ?_); first | rfl | (simp; done)) | (with_reducible refine Blk.later (by assumption) ?_) | (with_reducible refine Blk.alloc ?_) | (with_reducible refine Blk.drewN ?_) | (with_reducible refine Blk.drew ?_) | (with_reducible refine Blk.other ?_ (by first | omega | (simp; done) | (simp; omega))))))
  have k1 : Blk w1 (w.heap.size + 1) #[.int .i64 0, .int .i64 0, .int .i64 0, .int .i64 0] 30 := Blk.later hb (by (repeat' (first | (with_reducible assumption) | ((with_reducible refine Blk.new ?_); first | rfl | (simp; done)) | (with_reducible refine Blk.later (by assumption) ?_) | (with_reducible refine Blk.alloc ?_) | (with_reducible refine Blk.drewN ?_) | (with_reducible refine Blk.drew ?_) | (with_reducible refine Blk.other ?_ (by first | omega | (simp; done) | (simp; omega))))))
  obtain ⟨a0, b0⟩ := k0.read
  obtain ⟨a1, b1⟩ := k1.read
  have hB1 : Below w.heap.size w w1 := by (repeat' (first | (with_reducible exact Below.refl _ _) | (with_reducible assumption) | (with_reducible refine belowThru ?_ (by assumption)) | (with_reducible refine belowAlloc ?_) | (with_reducible refine Below.setCell ?_ (by first | omega | (simp; done) | (simp; omega)) _) | (with_reducible refine Below.drew ?_) | (with_reducible refine below_drewN ?_ _)))
  clear hb
  go_wp2_with fail
  refine (HW.out _ (HR.out.later hB1)).mono ?_
  rintro e w2 ⟨rfl, hb⟩
  replace k0 := Blk.later hb k0
  replace k1 := Blk.later hb k1
  have hB2 := belowThru hB1 hb
  clear a0 b0 a1 b1 hb hB1
  obtain ⟨a0, b0⟩ := k0.read
  obtain ⟨a1, b1⟩ := k1.read
  have y0 := k0.lt
  have y1 := k1.lt
  go_wp2_with fail
  refine (HM.out _).mono ?_
  rintro e w3 ⟨rfl, hb⟩
  replace k0 : Blk w3 w.heap.size #[.int .i64 t, .int .i64 n, .int .i64 s1, .int .i64 s2, .int .i64 s3, .int .i64 s4, .int .i64 l1, .int .i64 l2, .int .i64 h1, .int .i64 h2] 41 := Blk.later hb (by (repeat' (first | (with_reducible assumption) | ((with_reducible refine Blk.new ?_); first | rfl | (simp; done)) | (with_reducible refine Blk.later (by assumption) ?_) | (with_reducible refine Blk.alloc ?_) | (with_reducible refine Blk.drewN ?_) | (with_reducible refine Blk.drew ?_) | (with_reducible refine Blk.other ?_ (by first | omega | (simp; done) | (simp; omega))))))
  replace k1 : Blk w3 (w.heap.size + 1) #[.int .i64 0, .int .i64 0, .int .i64 0, .int .i64 0] 30 := Blk.later hb (by (repeat' (first | (with_reducible assumption) | ((with_reducible refine Blk.new ?_); first | rfl | (simp; done)) | (with_reducible refine Blk.later (by assumption) ?_) | (with_reducible refine Blk.alloc ?_) | (with_reducible refine Blk.drewN ?_) | (with_reducible refine Blk.drew ?_) | (with_reducible refine Blk.other ?_ (by first | omega | (simp; done) | (simp; omega))))))
  have hB3 : Below w.heap.size w w3 := by (repeat' (first | (with_reducible exact Below.refl _ _) | (with_reducible assumption) | (with_reducible refine belowThru ?_ (by assumption)) | (with_reducible refine belowAlloc ?_) | (with_reducible refine Below.setCell ?_ (by first | omega | (simp; done) | (simp; omega)) _) | (with_reducible refine Below.drew ?_) | (with_reducible refine below_drewN ?_ _)))
  clear a0 b0 a1 b1 hb hB2
  obtain ⟨a0, b0⟩ := k0.read
  obtain ⟨a1, b1⟩ := k1.read
  have y2 := k0.lt
  have y3 := k1.lt
  go_wp2_with fail
  refine (HD.out _).mono ?_
  rintro e w4 ⟨rfl, hb⟩
  replace k1 : Blk w4 (w.heap.size + 1) #[.int .i64 0, .int .i64 0, .int .i64 0, .int .i64 0] 30 := Blk.later hb (by (repeat' (first | (with_reducible assumption) | ((with_reducible refine Blk.new ?_); first | rfl | (simp; done)) | (with_reducible refine Blk.later (by assumption) ?_) | (with_reducible refine Blk.alloc ?_) | (with_reducible refine Blk.drewN ?_) | (with_reducible refine Blk.drew ?_) | (with_reducible refine Blk.other ?_ (by first | omega | (simp; done) | (simp; omega))))))
  have k2 : Blk w4 w3.heap.size #[.int .i64 L1, .int .i64 L2, .int .i64 L3, .int .i64 L4] 30 := Blk.later hb (by (repeat' (first | (with_reducible assumption) | (with_reducible refine Blk.set2 ?_) | ((with_reducible refine Blk.new ?_); first | rfl | (simp; done)) | (with_reducible refine Blk.later (by assumption) ?_) | (with_reducible refine Blk.alloc ?_) | (with_reducible refine Blk.drewN ?_) | (with_reducible refine Blk.drew ?_) | (with_reducible refine Blk.other ?_ (by first | omega | (simp; done) | (simp; omega))))))
  have hB4 : Below w.heap.size w w4 := by (repeat' (first | (with_reducible exact Below.refl _ _) | (with_reducible assumption) | (with_reducible refine belowThru ?_ (by assumption)) | (with_reducible refine belowAlloc ?_) | (with_reducible refine Below.setCell ?_ (by first | omega | (simp; done) | (simp; omega)) _) | (with_reducible refine Below.drew ?_) | (with_reducible refine below_drewN ?_ _)))
  clear a0 b0 a1 b1 hb hB3
  obtain ⟨a1, b1⟩ := k1.read
  obtain ⟨a2, b2⟩ := k2.read
  have y4 := k1.lt
  have y5 := k2.lt
  go_wp2
  exact bodyPost_ret (v := .tuple #[.agg #[.int .i64 L1, .int .i64 L2, .int .i64 L3, .int .i64 L4], .int .u8 V, .int .i64 0]) (by simp only [results, Try.results19]; go_simp) rfl ⟨rfl, by (repeat' (first | (with_reducible exact Below.refl _ _) | (with_reducible assumption) | (with_reducible refine belowThru ?_ (by assumption)) | (with_reducible refine belowAlloc ?_) | (with_reducible refine Below.setCell ?_ (by first | omega | (simp; done) | (simp; omega)) _) | (with_reducible refine Below.drew ?_) | (with_reducible refine below_drewN ?_ _)))⟩
set_option maxRecDepth 100000 in
set_option maxHeartbeats 4000000 in
theorem mea_none (t n s1 s2 s3 s4 l1 l2 h1 h2 : Int) (a : Option Addr) (m c : Nat) (zs : List Int) (W1 W2 W3 W4 V : Int) (w : World) (hR : Row w a m (iv zs)) (HC : Hid (∀ w, Calls Try.prog 36 #[.agg #[.int .i64 t, .int .i64 n, .int .i64 s1, .int .i64 s2, .int .i64 s3, .int .i64 s4, .int .i64 l1, .int .i64 l2, .int .i64 h1, .int .i64 h2]] w fun e w' => e = .returned (.int .i64 0) ∧ Below w.heap.size w w')) (HW : Hid (∀ w, Row w a m (iv zs) → Calls Try.prog 31 #[.slice a m c, .int .i64 t, .int .i64 n] w fun e w' => e = .returned (.tuple #[.agg #[.int .i64 W1, .int .i64 W2, .int .i64 W3, .int .i64 W4], .int .i64 6]) ∧ Below w.heap.size w w')) (HP : Hid (∀ w, Row w a m (iv zs) → Calls Try.prog 50 #[.agg #[.int .i64 t, .int .i64 n, .int .i64 s1, .int .i64 s2, .int .i64 s3, .int .i64 s4, .int .i64 l1, .int .i64 l2, .int .i64 h1, .int .i64 h2], .slice a m c] w fun e w' => e = .returned (.int .u8 V) ∧ Below w.heap.size w w')) :
    Calls Try.prog 19 #[.agg #[.int .i64 t, .int .i64 n, .int .i64 s1, .int .i64 s2, .int .i64 s3, .int .i64 s4, .int .i64 l1, .int .i64 l2, .int .i64 h1, .int .i64 h2], .slice a m c] w fun e w' => e = .returned (.tuple #[.agg #[.int .i64 0, .int .i64 1, .int .i64 0, .int .i64 1], .int .u8 V, .int .i64 0]) ∧ Below w.heap.size w w' := by
  have HR := Lib.hid hR
  clear hR
  go_enter Try.func19, Try.ntmps19
  go_wp2_with fail
  refine (HC.out _).mono ?_
  rintro e w1 ⟨rfl, hb⟩
  have k0 : Blk w1 w.heap.size #[.int .i64 t, .int .i64 n, .int .i64 s1, .int .i64 s2, .int .i64 s3, .int .i64 s4, .int .i64 l1, .int .i64 l2, .int .i64 h1, .int .i64 h2] 41 := Blk.later hb (by (repeat' (first | (with_reducible assumption) | ((with_reducible refine Blk.new ?_); first | rfl | (simp; done)) | (with_reducible refine Blk.later (by assumption) ?_) | (with_reducible refine Blk.alloc ?_) | (with_reducible refine Blk.drewN ?_) | (with_reducible refine Blk.drew ?_) | (with_reducible refine Blk.other ?_ (by first | omega | (simp; done) | (simp; omega))))))
  have k1 : Blk w1 (w.heap.size + 1) #[.int .i64 0, .int .i64 0, .int .i64 0, .int .i64 0] 30 := Blk.later hb (by (repeat' (first | (with_reducible assumption) | ((with_reducible refine Blk.new ?_); first | rfl | (simp; done)) | (with_reducible refine Blk.later (by assumption) ?_) | (with_reducible refine Blk.alloc ?_) | (with_reducible refine Blk.drewN ?_) | (with_reducible refine Blk.drew ?_) | (with_reducible refine Blk.other ?_ (by first | omega | (simp; done) | (simp; omega))))))
  obtain ⟨a0, b0⟩ := k0.read
  obtain ⟨a1, b1⟩ := k1.read
  have hB1 : Below w.heap.size w w1 := by (repeat' (first | (with_reducible exact Below.refl _ _) | (with_reducible assumption) | (with_reducible refine belowThru ?_ (by assumption)) | (with_reducible refine belowAlloc ?_) | (with_reducible refine Below.setCell ?_ (by first | omega | (simp; done) | (simp; omega)) _) | (with_reducible refine Below.drew ?_) | (with_reducible refine below_drewN ?_ _)))
  clear hb
  go_wp2_with fail
  refine (HW.out _ (HR.out.later hB1)).mono ?_
  rintro e w2 ⟨rfl, hb⟩
  replace k0 := Blk.later hb k0
  replace k1 := Blk.later hb k1
  have hB2 := belowThru hB1 hb
  clear a0 b0 a1 b1 hb hB1
  obtain ⟨a0, b0⟩ := k0.read
  obtain ⟨a1, b1⟩ := k1.read
  have y0 := k0.lt
  have y1 := k1.lt
  have hmx : Try.prog.follows .mixedOrders = true := by kernel_rfl
  go_wp2_with fail
  obtain ⟨W0, hW0⟩ : ∃ W0, w2.alloc (.cells #[.int .i64 W1, .int .i64 W2, .int .i64 W3, .int .i64 W4] 30) = W0 := ⟨_, rfl⟩
  replace k0 : Blk W0 w.heap.size #[.int .i64 t, .int .i64 n, .int .i64 s1, .int .i64 s2, .int .i64 s3, .int .i64 s4, .int .i64 l1, .int .i64 l2, .int .i64 h1, .int .i64 h2] 41 := by rw [← hW0]; (repeat' (first | (with_reducible assumption) | ((with_reducible refine Blk.new ?_); first | rfl | (simp; done)) | (with_reducible refine Blk.later (by assumption) ?_) | (with_reducible refine Blk.alloc ?_) | (with_reducible refine Blk.drewN ?_) | (with_reducible refine Blk.drew ?_) | (with_reducible refine Blk.other ?_ (by first | omega | (simp; done) | (simp; omega)))))
  replace k1 : Blk W0 (w.heap.size + 1) #[.int .i64 0, .int .i64 0, .int .i64 0, .int .i64 0] 30 := by rw [← hW0]; (repeat' (first | (with_reducible assumption) | ((with_reducible refine Blk.new ?_); first | rfl | (simp; done)) | (with_reducible refine Blk.later (by assumption) ?_) | (with_reducible refine Blk.alloc ?_) | (with_reducible refine Blk.drewN ?_) | (with_reducible refine Blk.drew ?_) | (with_reducible refine Blk.other ?_ (by first | omega | (simp; done) | (simp; omega)))))
  have hB0 : Below w.heap.size w W0 := by rw [← hW0]; (repeat' (first | (with_reducible exact Below.refl _ _) | (with_reducible assumption) | (with_reducible refine belowThru ?_ (by assumption)) | (with_reducible refine belowAlloc ?_) | (with_reducible refine Below.setCell ?_ (by first | omega | (simp; done) | (simp; omega)) _) | (with_reducible refine Below.drew ?_) | (with_reducible refine below_drewN ?_ _)))
  rw [hW0]
  clear hW0 a0 b0 a1 b1 hB2
  have HO := Lib.hid (only_any 0)
  refine wp_region_held_drew (S := fun w' => (Blk w' w.heap.size #[.int .i64 t, .int .i64 n, .int .i64 s1, .int .i64 s2, .int .i64 s3, .int .i64 s4, .int .i64 l1, .int .i64 l2, .int .i64 h1, .int .i64 h2] 41 ∧ (∀ i : Nat, w'.cell? ⟨w.heap.size, i, none⟩ = (#[.int .i64 t, .int .i64 n, .int .i64 s1, .int .i64 s2, .int .i64 s3, .int .i64 s4, .int .i64 l1, .int .i64 l2, .int .i64 h1, .int .i64 h2] : Array Value)[i]?)) ∧ Below w.heap.size w w') hmx ⟨k0.drew.full, hB0.drew⟩ (fun hHeld => ?_)
  refine wpAnyH_take (i := 1) (v := ?_) rfl (by kernel_rfl) (by kernel_rfl) (by kernel_rfl) (fun _ _ _ h => h) (Or.inl ⟨by rfl, ?hT0⟩) (by assumption) ?_
  case hT0 => ((intro w hSw; (try dsimp only at hSw); go_simp); try (with_reducible rfl))
  try simp only [Act.put, List.setIfInBounds_toArray, List.set_cons_zero, List.set_cons_succ]
  refine wpAnyH_take (i := 2) (v := ?_) rfl (by kernel_rfl) (by kernel_rfl) (by kernel_rfl) (fun _ _ _ h => h) (Or.inl ⟨by rfl, ?hT1⟩) (by assumption) ?_
  case hT1 => ((intro w hSw; (try dsimp only at hSw); go_simp); try (with_reducible rfl))
  try simp only [Act.put, List.setIfInBounds_toArray, List.set_cons_zero, List.set_cons_succ]
  refine wpAnyH_ready (rs := [0]) (by kernel_rfl) (by simp) ?_
  refine AllReadyH.cons rfl (fun K hK => ?_) AllReadyH.nil
  go_simp
  refine (HO.out _).mono ?_
  rintro e wA ⟨rfl, hb⟩
  have q1 := Blk.later hb k1.drew
  refine hK.out _ _ ?_ (fun hHeldN => ?_)
  · (try dsimp only); (((first | (apply hold1; (focus assumption); intro p0 pB) | skip); refine ⟨Blk.full ?_, ?_⟩; all_goals (first | ((repeat' (first | (with_reducible assumption) | ((with_reducible refine Blk.new ?_); first | rfl | (simp; done)) | (with_reducible refine Blk.later (by assumption) ?_) | (with_reducible refine Blk.alloc ?_) | (with_reducible refine Blk.drewN ?_) | (with_reducible refine Blk.drew ?_) | (with_reducible refine Blk.other ?_ (by first | omega | (simp; done) | (simp; omega))))); done) | ((repeat' (first | (with_reducible exact Below.refl _ _) | (with_reducible assumption) | (with_reducible refine belowThru ?_ (by assumption)) | (with_reducible refine belowAlloc ?_) | (with_reducible refine Below.setCell ?_ (by first | omega | (simp; done) | (simp; omega)) _) | (with_reducible refine Below.drew ?_) | (with_reducible refine below_drewN ?_ _))); done))))
  clear hK K hHeld
  have hHeld := hHeldN
  clear hHeldN
  try simp only [Act.put, List.setIfInBounds_toArray, List.set_cons_zero, List.set_cons_succ]
  have hBA := hHeld.2
  clear hb
  refine wpAnyH_ready (rs := [3]) (by kernel_rfl) (by simp) ?_
  refine AllReadyH.cons rfl (fun K hK => ?_) AllReadyH.nil
  go_simp
  refine (HP.out _ (HR.out.later hBA)).mono ?_
  rintro e wD ⟨rfl, hb⟩
  replace q1 := Blk.later hb q1
  refine hK.out _ _ ?_ (fun hHeldN => ?_)
  · (try dsimp only); (((first | (apply hold1; (focus assumption); intro p0 pB) | skip); refine ⟨Blk.full ?_, ?_⟩; all_goals (first | ((repeat' (first | (with_reducible assumption) | ((with_reducible refine Blk.new ?_); first | rfl | (simp; done)) | (with_reducible refine Blk.later (by assumption) ?_) | (with_reducible refine Blk.alloc ?_) | (with_reducible refine Blk.drewN ?_) | (with_reducible refine Blk.drew ?_) | (with_reducible refine Blk.other ?_ (by first | omega | (simp; done) | (simp; omega))))); done) | ((repeat' (first | (with_reducible exact Below.refl _ _) | (with_reducible assumption) | (with_reducible refine belowThru ?_ (by assumption)) | (with_reducible refine belowAlloc ?_) | (with_reducible refine Below.setCell ?_ (by first | omega | (simp; done) | (simp; omega)) _) | (with_reducible refine Below.drew ?_) | (with_reducible refine below_drewN ?_ _))); done))))
  clear hK K hHeld
  have hHeld := hHeldN
  clear hHeldN
  try simp only [Act.put, List.setIfInBounds_toArray, List.set_cons_zero, List.set_cons_succ]
  clear hb
  obtain ⟨r0, s0⟩ := q1.read
  refine wpAnyH_ready (rs := [4]) (by kernel_rfl) (by simp) ?_
  refine AllReadyH.cons rfl (fun K hK => ?_) AllReadyH.nil
  go_simp
  refine hK.out _ _ ?_ (fun hHeldN => ?_)
  · (try dsimp only); (((first | (apply hold1; (focus assumption); intro p0 pB) | skip); refine ⟨Blk.full ?_, ?_⟩; all_goals (first | ((repeat' (first | (with_reducible assumption) | ((with_reducible refine Blk.new ?_); first | rfl | (simp; done)) | (with_reducible refine Blk.later (by assumption) ?_) | (with_reducible refine Blk.alloc ?_) | (with_reducible refine Blk.drewN ?_) | (with_reducible refine Blk.drew ?_) | (with_reducible refine Blk.other ?_ (by first | omega | (simp; done) | (simp; omega))))); done) | ((repeat' (first | (with_reducible exact Below.refl _ _) | (with_reducible assumption) | (with_reducible refine belowThru ?_ (by assumption)) | (with_reducible refine belowAlloc ?_) | (with_reducible refine Below.setCell ?_ (by first | omega | (simp; done) | (simp; omega)) _) | (with_reducible refine Below.drew ?_) | (with_reducible refine below_drewN ?_ _))); done))))
  clear hK K hHeld
  have hHeld := hHeldN
  clear hHeldN
  try simp only [Act.put, List.setIfInBounds_toArray, List.set_cons_zero, List.set_cons_succ]
  refine wpAnyH_ready (rs := [5]) (by kernel_rfl) (by simp) ?_
  refine AllReadyH.cons rfl (fun K hK => ?_) AllReadyH.nil
  go_simp
  refine hK.out _ _ ?_ (fun hHeldN => ?_)
  · (try dsimp only); (((first | (apply hold1; (focus assumption); intro p0 pB) | skip); refine ⟨Blk.full ?_, ?_⟩; all_goals (first | ((repeat' (first | (with_reducible assumption) | ((with_reducible refine Blk.new ?_); first | rfl | (simp; done)) | (with_reducible refine Blk.later (by assumption) ?_) | (with_reducible refine Blk.alloc ?_) | (with_reducible refine Blk.drewN ?_) | (with_reducible refine Blk.drew ?_) | (with_reducible refine Blk.other ?_ (by first | omega | (simp; done) | (simp; omega))))); done) | ((repeat' (first | (with_reducible exact Below.refl _ _) | (with_reducible assumption) | (with_reducible refine belowThru ?_ (by assumption)) | (with_reducible refine belowAlloc ?_) | (with_reducible refine Below.setCell ?_ (by first | omega | (simp; done) | (simp; omega)) _) | (with_reducible refine Below.drew ?_) | (with_reducible refine below_drewN ?_ _))); done))))
  clear hK K hHeld
  have hHeld := hHeldN
  clear hHeldN
  try simp only [Act.put, List.setIfInBounds_toArray, List.set_cons_zero, List.set_cons_succ]
  refine wpAnyH_ready (rs := [6]) (by kernel_rfl) (by simp) ?_
  refine AllReadyH.cons rfl (fun K hK => ?_) AllReadyH.nil
  go_simp
  refine hK.out _ _ ?_ (fun hHeldN => ?_)
  · (try dsimp only); (((first | (apply hold1; (focus assumption); intro p0 pB) | skip); refine ⟨Blk.full ?_, ?_⟩; all_goals (first | ((repeat' (first | (with_reducible assumption) | ((with_reducible refine Blk.new ?_); first | rfl | (simp; done)) | (with_reducible refine Blk.later (by assumption) ?_) | (with_reducible refine Blk.alloc ?_) | (with_reducible refine Blk.drewN ?_) | (with_reducible refine Blk.drew ?_) | (with_reducible refine Blk.other ?_ (by first | omega | (simp; done) | (simp; omega))))); done) | ((repeat' (first | (with_reducible exact Below.refl _ _) | (with_reducible assumption) | (with_reducible refine belowThru ?_ (by assumption)) | (with_reducible refine belowAlloc ?_) | (with_reducible refine Below.setCell ?_ (by first | omega | (simp; done) | (simp; omega)) _) | (with_reducible refine Below.drew ?_) | (with_reducible refine below_drewN ?_ _))); done))))
  clear hK K hHeld
  have hHeld := hHeldN
  clear hHeldN
  try simp only [Act.put, List.setIfInBounds_toArray, List.set_cons_zero, List.set_cons_succ]
  refine wpAnyH_done (by kernel_rfl) ?_ _
  obtain ⟨-, qB⟩ := hHeld
  have q2 : Blk ((((wD.setCell ⟨w.heap.size + 1, 0, none⟩ (.int .i64 0)).setCell ⟨w.heap.size + 1, 1, none⟩ (.int .i64 1)).setCell ⟨w.heap.size + 1, 2, none⟩ (.int .i64 0)).setCell ⟨w.heap.size + 1, 3, none⟩ (.int .i64 1)) (w.heap.size + 1) #[.int .i64 0, .int .i64 1, .int .i64 0, .int .i64 1] 30 := Blk.set (Blk.set (Blk.set (Blk.set q1)))
  obtain ⟨r1, s1⟩ := q2.read
  go_wp2
  exact bodyPost_ret (v := .tuple #[.agg #[.int .i64 0, .int .i64 1, .int .i64 0, .int .i64 1], .int .u8 V, .int .i64 0]) (by simp only [results, Try.results19]; go_simp) rfl ⟨rfl, qB⟩
end Go.Proofs.Ytdimmnoflenfhaa
/-
  Layer 5: Measure for any arguments.
-/
namespace Go.Proofs.Ytdimmnoflenfhaa
open Go.RowKit Go.Shelf
set_option linter.unusedVariables false
set_option linter.unusedSimpArgs false

theorem mul_small {x s : Rat} (h1 : -4161600 ≤ fn x ∧ fn x ≤ 4161600 ∧ fd x ≤ 65025) (h2 : smF (fn s) (fd s)) : fits (x * s) := by
  have dx := fd_pos x; have ds := fd_pos s
  have e : x * s = mkR (fn x * fn s) (fd x * fd s) := by
    have hx := mkR_self x; have hs := mkR_self s
    rw [mkR_div] at hx hs
    rw [mkR_div, Rat.intCast_mul, Rat.intCast_mul]
    have := int_pos (show 0 < fd x by omega); have := int_pos (show 0 < fd s by omega)
    grind
  have m1 := mul_bound (fn x) (fn s) 4161600 1000000 ⟨h1.1, h1.2.1⟩ h2.1 (by omega) (by omega)
  have m2 := Int.mul_le_mul h1.2.2 h2.2 (by omega) (by omega)
  have m3 := Int.mul_pos (show 0 < fd x by omega) (show 0 < fd s by omega)
  have b := mkR_bound (fn x * fn s) (fd x * fd s) 4161600000000 65025000000 (by omega) (by omega) (by omega) (by omega)
  rw [← e] at b
  unfold fits; omega
/-- What Measure returns for a valid gauge and a profile with a width. -/
def MeaY (t n s1 s2 s3 s4 l1 l2 h1 h2 : Int) (zs : List Int) (Z1 Z2 Z3 Z4 V : Int) : Prop :=
  ∃ x y sl sh tl th L H : Rat, WX t (lwL n zs) = some x ∧ WX t (upL n zs) = some y ∧ x ≤ y ∧ fits x ∧ fits y ∧ fits sl ∧ fits sh ∧ fits tl ∧ fits th ∧ s1 = fn sl ∧ s2 = fd sl ∧ s3 = fn sh ∧ s4 = fd sh ∧ l1 = fn tl ∧ l2 = fd tl ∧ h1 = fn th ∧ h2 = fd th ∧ sl ≤ sh ∧ tl ≤ th ∧
    L = loQ (x * sl) [x * sh, y * sl, y * sh] ∧ H = hiQ (x * sl) [x * sh, y * sl, y * sh] ∧ fits L ∧ fits H ∧ L ≤ H ∧ Z1 = fn L ∧ Z2 = fd L ∧ Z3 = fn H ∧ Z4 = fd H ∧ V = deV L H tl th
def MeaN (t n : Int) (zs : List Int) (Z1 Z2 Z3 Z4 V : Int) : Prop :=
  WX t (lwL n zs) = none ∧ FX t (lwL n zs) 0 = none ∧ Z1 = 0 ∧ Z2 = 1 ∧ Z3 = 0 ∧ Z4 = 1 ∧ V = if (FX t (upL n zs) 0).isSome then 3 else 2
theorem mea_any (t n s1 s2 s3 s4 l1 l2 h1 h2 : Int) (a : Option Addr) (m c : Nat) (zs : List Int) (hm : m ≤ maxLen) (hl : zs.length = m) :
    ∃ Z1 Z2 Z3 Z4 V E, (∀ w, Row w a m (iv zs) → Calls Try.prog 19 #[.agg #[.int .i64 t, .int .i64 n, .int .i64 s1, .int .i64 s2, .int .i64 s3, .int .i64 s4, .int .i64 l1, .int .i64 l2, .int .i64 h1, .int .i64 h2], .slice a m c] w fun e w' => e = .returned (.tuple #[.agg #[.int .i64 Z1, .int .i64 Z2, .int .i64 Z3, .int .i64 Z4], .int .u8 V, .int .i64 E]) ∧ Below w.heap.size w w') ∧
      ((¬ okG t n s1 s2 s3 s4 l1 l2 h1 h2 ∧ E = 8 ∧ V = 0) ∨ (okG t n s1 s2 s3 s4 l1 l2 h1 h2 ∧ ¬ okP zs ∧ E = 50 ∧ V = 0) ∨ (okG t n s1 s2 s3 s4 l1 l2 h1 h2 ∧ okP zs ∧ E = 0 ∧ (MeaN t n zs Z1 Z2 Z3 Z4 V ∨ MeaY t n s1 s2 s3 s4 l1 l2 h1 h2 zs Z1 Z2 Z3 Z4 V))) := by
  have HC := fun w => ckG_any t n s1 s2 s3 s4 l1 l2 h1 h2 w
  by_cases hg : okG t n s1 s2 s3 s4 l1 l2 h1 h2
  · have HC0 : ∀ w, Calls Try.prog 36 #[.agg #[.int .i64 t, .int .i64 n, .int .i64 s1, .int .i64 s2, .int .i64 s3, .int .i64 s4, .int .i64 l1, .int .i64 l2, .int .i64 h1, .int .i64 h2]] w fun e w' => e = .returned (.int .i64 0) ∧ Below w.heap.size w w' := fun w => (HC w).mono fun e w' h => by
      rcases h with ⟨⟨_, h⟩ | ⟨k, _⟩, hb⟩
      · exact ⟨h, hb⟩
      · exact absurd hg k
    have HW := fun w => wi_any a m c zs t n hm w
    by_cases hz : okP zs
    · have e2 : wiE t zs n = _ := asE_ok hz ⟨hg.2.1, hg.1⟩
      have e1 : wiS t zs n = _ := if_pos ⟨hz, hg.2.1, hg.1⟩
      have zl := lwL_ok hz hg.2.1.1
      have zu := upL_ok hz hg.2.1.1
      cases hx : WX t (lwL n zs) with
      | none =>
        rw [hx] at e1 e2
        rw [e1, e2] at HW
        have hf := (WX_none (by have := zl.1; omega)).1 hx
        refine ⟨_, _, _, _, _, _, fun w hR => mea_none t n s1 s2 s3 s4 l1 l2 h1 h2 a m c zs 0 0 0 0 _ w hR HC0 HW (fun w hR => unm_any t n s1 s2 s3 s4 l1 l2 h1 h2 a m c zs hz hg.1 hg.2.1 w hR), .inr (.inr ⟨hg, hz, rfl, .inl ⟨hx, hf, rfl, rfl, rfl, rfl, rfl⟩⟩)⟩
      | some x =>
        obtain ⟨y, hy, hxy⟩ := WX_le (lw_up hz.2 hg.2.1.1) (by have := zl.1; omega) hx
        obtain ⟨bx, fx⟩ := WX_fits zl hg.1.1 hx
        obtain ⟨by', fy⟩ := WX_fits zu hg.1.1 hy
        rw [hx, hy] at e1
        rw [hx] at e2
        rw [e1, e2] at HW
        obtain ⟨-, -, ⟨sl, sh, fsl, fsh, rfl, rfl, rfl, rfl, hs⟩, ⟨tl, th, ftl, fth, rfl, rfl, rfl, rfl, ht⟩, h0, m1, m2, -, -⟩ := id hg
        have f1 := mul_small bx m1; have f2 := mul_small bx m2; have f3 := mul_small by' m1; have f4 := mul_small by' m2
        have HM := fun w => mulSpans_q x y sl sh fx fy fsl fsh hxy hs w
        have all : fits (x * sl) ∧ fits (x * sh) ∧ fits (y * sl) ∧ fits (y * sh) := ⟨f1, f2, f3, f4⟩
        simp only [oz_yes all, oe_yes all] at HM
        have am : ∀ z ∈ [x * sh, y * sl, y * sh], fits z := by intro z hz; simp at hz; rcases hz with rfl | rfl | rfl <;> assumption
        have fL := loQ_fits (x * sl) f1 _ am
        have fH := hiQ_fits (x * sl) f1 _ am
        have hLH : loQ (x * sl) [x * sh, y * sl, y * sh] ≤ hiQ (x * sl) [x * sh, y * sl, y * sh] := Rat.le_trans (loQ3 _ _ _ _).1 (hiQ3 _ _ _ _).1
        refine ⟨_, _, _, _, _, _, fun w hR => mea_some t n _ _ _ _ _ _ _ _ a m c zs _ _ _ _ _ _ _ _ _ _ _ w hR HC0 HW HM (fun w => dec_q _ _ tl th fL fH ftl fth hLH ht w), .inr (.inr ⟨hg, hz, rfl, .inr ⟨x, y, sl, sh, tl, th, _, _, hx, hy, hxy, fx, fy, fsl, fsh, ftl, fth, rfl, rfl, rfl, rfl, rfl, rfl, rfl, rfl, hs, ht, rfl, rfl, fL, fH, hLH, rfl, rfl, rfl, rfl, rfl⟩⟩)⟩
    · have e2 : wiE t zs n = 50 := asE_no hz
      rw [e2] at HW
      refine ⟨_, _, _, _, _, _, fun w hR => mea_prof t n s1 s2 s3 s4 l1 l2 h1 h2 a m c zs _ _ _ _ 50 rfl rfl w hR HC0 HW, .inr (.inl ⟨hg, hz, rfl, rfl⟩)⟩
  · have HC0 : ∀ w, Calls Try.prog 36 #[.agg #[.int .i64 t, .int .i64 n, .int .i64 s1, .int .i64 s2, .int .i64 s3, .int .i64 s4, .int .i64 l1, .int .i64 l2, .int .i64 h1, .int .i64 h2]] w fun e w' => e = .returned (.int .i64 8) ∧ Below w.heap.size w w' := fun w => (HC w).mono fun e w' h => by
      rcases h with ⟨⟨k, _⟩ | ⟨_, h⟩, hb⟩
      · exact absurd k hg
      · exact ⟨h, hb⟩
    exact ⟨_, _, _, _, _, _, fun w hR => mea_bad t n s1 s2 s3 s4 l1 l2 h1 h2 a m c w HC0, .inl ⟨hg, rfl, rfl⟩⟩
end Go.Proofs.Ytdimmnoflenfhaa
/-
  Layer 5: the statements' own examples: literals.
-/
namespace Go.Proofs.Ytdimmnoflenfhaa
open Go.RowKit Go.Shelf
set_option linter.unusedVariables false
set_option linter.unusedSimpArgs false

/-- The profile of the examples. -/
def smp : List Int := [10, 10, 60, 110, 110, 30]
set_option maxHeartbeats 1000000 in
theorem sample_any (w : World) :
    Calls Try.prog 10 #[] w fun e w' => ∃ b, e = .returned (.slice (some ⟨b, 0, none⟩) 6 6) ∧ w.heap.size ≤ b ∧ Blk w' b (ints smp) 3 ∧ Below w.heap.size w w' := by
  go_enter Try.func10, Try.ntmps10
  go_wp2
  go_ret
  exact ⟨w.heap.size, rfl, Nat.le_refl _, Blk.new rfl, by (repeat' (first | (with_reducible exact Below.refl _ _) | (with_reducible assumption) | (with_reducible refine belowThru ?_ (by assumption)) | (with_reducible refine belowAlloc ?_) | (with_reducible refine Below.setCell ?_ (by first | omega | (simp; done) | (simp; omega)) _) | (with_reducible refine Below.drew ?_) | (with_reducible refine below_drewN ?_ _)))⟩
set_option maxHeartbeats 1000000 in
theorem frac_any (n d : Int) (n1 : -9223372036854775808 ≤ n) (n2 : n ≤ 9223372036854775807) (d1 : -9223372036854775808 ≤ d) (d2 : d ≤ 9223372036854775807) (w : World) :
    Calls Try.prog 15 #[.int .i64 n, .int .i64 d] w fun e w' => e = .returned (.agg #[.int .i64 (mA n d), .int .i64 (mB n d)]) ∧ Below w.heap.size w w' := by
  have HM := Lib.hid (make_any n d n1 n2 d1 d2)
  go_enter Try.func15, Try.ntmps15
  go_wp2_with fail
  refine (HM.out _).mono ?_
  rintro e w1 ⟨rfl, hb⟩
  have k0 : Blk w1 w.heap.size #[.int .i64 0, .int .i64 0] 23 := Blk.later hb (by (repeat' (first | (with_reducible assumption) | ((with_reducible refine Blk.new ?_); first | rfl | (simp; done)) | (with_reducible refine Blk.later (by assumption) ?_) | (with_reducible refine Blk.alloc ?_) | (with_reducible refine Blk.drewN ?_) | (with_reducible refine Blk.drew ?_) | (with_reducible refine Blk.other ?_ (by first | omega | (simp; done) | (simp; omega))))))
  obtain ⟨a0, b0⟩ := k0.read
  have y0 := k0.lt
  have hB1 : Below w.heap.size w w1 := by (repeat' (first | (with_reducible exact Below.refl _ _) | (with_reducible assumption) | (with_reducible refine belowThru ?_ (by assumption)) | (with_reducible refine belowAlloc ?_) | (with_reducible refine Below.setCell ?_ (by first | omega | (simp; done) | (simp; omega)) _) | (with_reducible refine Below.drew ?_) | (with_reducible refine below_drewN ?_ _)))
  clear hb
  go_wp2
  exact bodyPost_ret (v := .agg #[.int .i64 (mA n d), .int .i64 (mB n d)]) (by simp only [results, Try.results15]; go_simp) rfl ⟨rfl, by (repeat' (first | (with_reducible exact Below.refl _ _) | (with_reducible assumption) | (with_reducible refine belowThru ?_ (by assumption)) | (with_reducible refine belowAlloc ?_) | (with_reducible refine Below.setCell ?_ (by first | omega | (simp; done) | (simp; omega)) _) | (with_reducible refine Below.drew ?_) | (with_reducible refine below_drewN ?_ _)))⟩
/-- A fraction that is in lowest terms. -/
theorem frac_lit (n d : Int) (h : mA n d = n ∧ mB n d = d) (hb : -1000 ≤ n ∧ n ≤ 1000 ∧ 1 ≤ d ∧ d ≤ 1000) (w : World) :
    Calls Try.prog 15 #[.int .i64 n, .int .i64 d] w fun e w' => e = .returned (.agg #[.int .i64 n, .int .i64 d]) ∧ Below w.heap.size w w' := by
  have := frac_any n d (by omega) (by omega) (by omega) (by omega) w
  rwa [h.1, h.2] at this
theorem a_first (b : Nat) (w : World) (hk : Blk w b (ints smp) 3) :
    Calls Try.prog 9 #[.slice (some ⟨b, 0, none⟩) 6 6, .int .i64 85, .int .i64 0] w fun e w' => e = .returned (.tuple #[.agg #[.int .i64 5, .int .i64 2], .int .i64 0]) ∧ Below w.heap.size w w' := by
  have h := first_any (some ⟨b, 0, none⟩) 6 6 smp 85 0 (by unfold maxLen; omega) w (Row.of_ints rfl hk)
  rw [show oN (fiO 85 smp 0) = 5 by kernel_rfl, show oD (fiO 85 smp 0) = 2 by kernel_rfl, show fiE 85 smp 0 = 0 by kernel_rfl] at h
  exact h
theorem a_last (b : Nat) (w : World) (hk : Blk w b (ints smp) 3) :
    Calls Try.prog 11 #[.slice (some ⟨b, 0, none⟩) 6 6, .int .i64 60, .int .i64 5] w fun e w' => e = .returned (.tuple #[.agg #[.int .i64 37, .int .i64 8], .int .i64 0]) ∧ Below w.heap.size w w' := by
  have h := last_any (some ⟨b, 0, none⟩) 6 6 smp 60 5 (by unfold maxLen; omega) w (Row.of_ints rfl hk)
  rw [show oN (laO 60 smp 5) = 37 by kernel_rfl, show oD (laO 60 smp 5) = 8 by kernel_rfl, show laE 60 smp 5 = 0 by kernel_rfl] at h
  exact h
theorem a_rise (b : Nat) (w : World) (hk : Blk w b (ints smp) 3) :
    Calls Try.prog 13 #[.slice (some ⟨b, 0, none⟩) 6 6, .int .i64 60, .int .i64 0, .int .i64 10] w fun e w' => e = .returned (.tuple #[.agg #[.int .i64 9, .int .i64 5, .int .i64 11, .int .i64 5], .int .i64 0]) ∧ Below w.heap.size w w' := by
  have h := ri_any (some ⟨b, 0, none⟩) 6 6 smp 60 0 10 (by unfold maxLen; omega) w (Row.of_ints rfl hk)
  rw [show s1 (riS 60 smp 0 10) = 9 by kernel_rfl, show s2 (riS 60 smp 0 10) = 5 by kernel_rfl, show s3 (riS 60 smp 0 10) = 11 by kernel_rfl, show s4 (riS 60 smp 0 10) = 5 by kernel_rfl, show riE 60 smp 0 10 = 0 by kernel_rfl] at h
  exact h
theorem a_width (b : Nat) (w : World) (hk : Blk w b (ints smp) 3) :
    Calls Try.prog 31 #[.slice (some ⟨b, 0, none⟩) 6 6, .int .i64 60, .int .i64 10] w fun e w' => e = .returned (.tuple #[.agg #[.int .i64 23, .int .i64 10, .int .i64 59, .int .i64 20], .int .i64 0]) ∧ Below w.heap.size w w' := by
  have h := wi_any (some ⟨b, 0, none⟩) 6 6 smp 60 10 (by unfold maxLen; omega) w (Row.of_ints rfl hk)
  rw [show s1 (wiS 60 smp 10) = 23 by kernel_rfl, show s2 (wiS 60 smp 10) = 10 by kernel_rfl, show s3 (wiS 60 smp 10) = 59 by kernel_rfl, show s4 (wiS 60 smp 10) = 20 by kernel_rfl, show wiE 60 smp 10 = 0 by kernel_rfl] at h
  exact h
set_option maxRecDepth 100000 in
set_option maxHeartbeats 1000000 in
theorem twice_any (lo hi : Int) (h1 : mA lo 1 = lo ∧ mB lo 1 = 1) (b1 : -1000 ≤ lo ∧ lo ≤ 1000) (h2 : mA hi 1 = hi ∧ mB hi 1 = 1) (b2 : -1000 ≤ hi ∧ hi ≤ 1000) (w : World) :
    Calls Try.prog 18 #[.int .i64 lo, .int .i64 hi] w fun e w' => e = .returned (.agg #[.int .i64 60, .int .i64 10, .int .i64 2, .int .i64 1, .int .i64 2, .int .i64 1, .int .i64 lo, .int .i64 1, .int .i64 hi, .int .i64 1]) ∧ Below w.heap.size w w' := by
  have H2 := Lib.hid (frac_lit 2 1 ⟨by kernel_rfl, by kernel_rfl⟩ (by decide))
  have HL := Lib.hid (frac_lit lo 1 h1 ⟨b1.1, b1.2, by decide, by decide⟩)
  have HH := Lib.hid (frac_lit hi 1 h2 ⟨b2.1, b2.2, by decide, by decide⟩)
  clear h1 h2
  go_enter Try.func18, Try.ntmps18
  go_wp2_with fail
  refine (H2.out _).mono ?_
  rintro e w1 ⟨rfl, hb⟩
  have k0 : Blk w1 w.heap.size #[.int .i64 0, .int .i64 0, .int .i64 0, .int .i64 0, .int .i64 0, .int .i64 0, .int .i64 0, .int .i64 0, .int .i64 0, .int .i64 0] 41 := Blk.later hb (by (repeat' (first | (with_reducible assumption) | ((with_reducible refine Blk.new ?_); first | rfl | (simp; done)) | (with_reducible refine Blk.later (by assumption) ?_) | (with_reducible refine Blk.alloc ?_) | (with_reducible refine Blk.drewN ?_) | (with_reducible refine Blk.drew ?_) | (with_reducible refine Blk.other ?_ (by first | omega | (simp; done) | (simp; omega))))))
  have hB : Below w.heap.size w w1 := by (repeat' (first | (with_reducible exact Below.refl _ _) | (with_reducible assumption) | (with_reducible refine belowThru ?_ (by assumption)) | (with_reducible refine belowAlloc ?_) | (with_reducible refine Below.setCell ?_ (by first | omega | (simp; done) | (simp; omega)) _) | (with_reducible refine Below.drew ?_) | (with_reducible refine below_drewN ?_ _)))
  clear hb
  go_wp2_with fail
  refine (H2.out _).mono ?_
  rintro e w2 ⟨rfl, hb⟩
  replace k0 := Blk.later hb k0
  replace hB := belowThru hB hb
  clear hb
  go_wp2_with fail
  refine (HL.out _).mono ?_
  rintro e w3 ⟨rfl, hb⟩
  replace k0 := Blk.later hb k0
  replace hB := belowThru hB hb
  clear hb
  go_wp2_with fail
  refine (HH.out _).mono ?_
  rintro e w4 ⟨rfl, hb⟩
  replace k0 := Blk.later hb k0
  replace hB := belowThru hB hb
  clear hb
  obtain ⟨a0, b0⟩ := k0.read
  go_wp2
  exact bodyPost_ret (v := .agg #[.int .i64 60, .int .i64 10, .int .i64 2, .int .i64 1, .int .i64 2, .int .i64 1, .int .i64 lo, .int .i64 1, .int .i64 hi, .int .i64 1]) (by simp only [results, Try.results18]; go_simp) rfl ⟨rfl, by (repeat' (first | (with_reducible exact Below.refl _ _) | (with_reducible assumption) | (with_reducible refine belowThru ?_ (by assumption)) | (with_reducible refine belowAlloc ?_) | (with_reducible refine Below.setCell ?_ (by first | omega | (simp; done) | (simp; omega)) _) | (with_reducible refine Below.drew ?_) | (with_reducible refine below_drewN ?_ _)))⟩
theorem okS_lit {a b c d : Int} (q r : Rat) (h : fits q ∧ fits r ∧ a = fn q ∧ b = fd q ∧ c = fn r ∧ d = fd r ∧ q ≤ r) : okS a b c d := ⟨q, r, h⟩
/-- Measure at the examples' gauge with a tolerance. -/
theorem a_meas (lo hi V : Int) (hok : okS lo 1 hi 1) (hs : smF lo 1 ∧ smF hi 1) (hV : deV (loQ (mkR 23 10 * mkR 2 1) [mkR 23 10 * mkR 2 1, mkR 59 20 * mkR 2 1, mkR 59 20 * mkR 2 1]) (hiQ (mkR 23 10 * mkR 2 1) [mkR 23 10 * mkR 2 1, mkR 59 20 * mkR 2 1, mkR 59 20 * mkR 2 1]) (mkR lo 1) (mkR hi 1) = V) (b : Nat) (w : World) (hk : Blk w b (ints smp) 3) :
    Calls Try.prog 19 #[.agg #[.int .i64 60, .int .i64 10, .int .i64 2, .int .i64 1, .int .i64 2, .int .i64 1, .int .i64 lo, .int .i64 1, .int .i64 hi, .int .i64 1], .slice (some ⟨b, 0, none⟩) 6 6] w fun e w' => e = .returned (.tuple #[.agg #[.int .i64 23, .int .i64 5, .int .i64 59, .int .i64 10], .int .u8 V, .int .i64 0]) ∧ Below w.heap.size w w' := by
  obtain ⟨Z1, Z2, Z3, Z4, V', E, H, h⟩ := mea_any 60 10 2 1 2 1 lo 1 hi 1 (some ⟨b, 0, none⟩) 6 6 smp (by unfold maxLen; omega) rfl
  have hg : okG 60 10 2 1 2 1 lo 1 hi 1 := ⟨by decide, by decide, okS_lit (mkR 2 1) (mkR 2 1) ⟨of_decide_eq_true (by kernel_rfl), of_decide_eq_true (by kernel_rfl), by kernel_rfl, by kernel_rfl, by kernel_rfl, by kernel_rfl, Rat.le_refl⟩, hok, by decide, ⟨by decide, by decide⟩, ⟨by decide, by decide⟩, hs.1, hs.2⟩
  have hp : okP smp := by decide
  have e1 : WX 60 (lwL 10 smp) = some (mkR 23 10) := by kernel_rfl
  have e2 : WX 60 (upL 10 smp) = some (mkR 59 20) := by kernel_rfl
  rcases h with ⟨k, _⟩ | ⟨_, k, _⟩ | ⟨-, -, rfl, ⟨k, _⟩ | ⟨x, y, sl, sh, tl, th, L, H', hx, hy, -, -, -, -, -, ftl, fth, q1, q2, q3, q4, q5, q6, q7, q8, -, -, rfl, rfl, -, -, -, rfl, rfl, rfl, rfl, rfl⟩⟩
  · exact absurd hg k
  · exact absurd hp k
  · rw [e1] at k; cases k
  · rw [e1] at hx; rw [e2] at hy
    obtain rfl := Option.some.inj hx
    obtain rfl := Option.some.inj hy
    obtain rfl : mkR 2 1 = sl := q_ext (by rw [← q1]; kernel_rfl) (by rw [← q2]; kernel_rfl)
    obtain rfl : mkR 2 1 = sh := q_ext (by rw [← q3]; kernel_rfl) (by rw [← q4]; kernel_rfl)
    have r1 : mkR lo 1 = tl := by rw [q5, q6]; exact mkR_self tl
    have r2 : mkR hi 1 = th := by rw [q7, q8]; exact mkR_self th
    rw [← r1, ← r2, hV] at H
    have := H w (Row.of_ints rfl hk)
    rw [show fn (loQ (mkR 23 10 * mkR 2 1) [mkR 23 10 * mkR 2 1, mkR 59 20 * mkR 2 1, mkR 59 20 * mkR 2 1]) = 23 by kernel_rfl, show fd (loQ (mkR 23 10 * mkR 2 1) [mkR 23 10 * mkR 2 1, mkR 59 20 * mkR 2 1, mkR 59 20 * mkR 2 1]) = 5 by kernel_rfl, show fn (hiQ (mkR 23 10 * mkR 2 1) [mkR 23 10 * mkR 2 1, mkR 59 20 * mkR 2 1, mkR 59 20 * mkR 2 1]) = 59 by kernel_rfl, show fd (hiQ (mkR 23 10 * mkR 2 1) [mkR 23 10 * mkR 2 1, mkR 59 20 * mkR 2 1, mkR 59 20 * mkR 2 1]) = 10 by kernel_rfl] at this
    exact this
end Go.Proofs.Ytdimmnoflenfhaa
/-
  Layer 5: the statements' own examples.
-/
namespace Go.Proofs.Ytdimmnoflenfhaa
open Go.RowKit Go.Shelf
set_option linter.unusedVariables false
set_option linter.unusedSimpArgs false

theorem holdG4A {w : World} {b0 b1 b2 b3 : Nat} {c0 c1 c2 c3 : Array Value} {t0 t1 t2 t3 : TypeId} {D0 D1 D2 D3 E G : Prop} (h : (Blk w b0 c0 t0 ∧ D0) ∧ (Blk w b1 c1 t1 ∧ D1) ∧ (Blk w b2 c2 t2 ∧ D2) ∧ (Blk w b3 c3 t3 ∧ D3) ∧ E) (g : Blk w b0 c0 t0 → Blk w b1 c1 t1 → Blk w b2 c2 t2 → Blk w b3 c3 t3 → E → G) : G := g h.1.1 h.2.1.1 h.2.2.1.1 h.2.2.2.1.1 h.2.2.2.2
set_option maxRecDepth 100000 in
set_option maxHeartbeats 16000000 in
theorem alive_true (w : World) :
    Calls Try.prog 14 #[] w fun e w' => e = .returned (.bool true) ∧ Below w.heap.size w w' := by
  have F5_2 := Lib.hid (frac_lit 5 2 ⟨by kernel_rfl, by kernel_rfl⟩ (by decide))
  have F37_8 := Lib.hid (frac_lit 37 8 ⟨by kernel_rfl, by kernel_rfl⟩ (by decide))
  have F9_5 := Lib.hid (frac_lit 9 5 ⟨by kernel_rfl, by kernel_rfl⟩ (by decide))
  have F11_5 := Lib.hid (frac_lit 11 5 ⟨by kernel_rfl, by kernel_rfl⟩ (by decide))
  have F23_10 := Lib.hid (frac_lit 23 10 ⟨by kernel_rfl, by kernel_rfl⟩ (by decide))
  have F59_20 := Lib.hid (frac_lit 59 20 ⟨by kernel_rfl, by kernel_rfl⟩ (by decide))
  have F23_5 := Lib.hid (frac_lit 23 5 ⟨by kernel_rfl, by kernel_rfl⟩ (by decide))
  have F59_10 := Lib.hid (frac_lit 59 10 ⟨by kernel_rfl, by kernel_rfl⟩ (by decide))
  have M1 := Lib.hid (a_meas 4 6 1 (okS_lit (mkR 4 1) (mkR 6 1) ⟨of_decide_eq_true (by kernel_rfl), of_decide_eq_true (by kernel_rfl), by kernel_rfl, by kernel_rfl, by kernel_rfl, by kernel_rfl, of_decide_eq_true (by kernel_rfl)⟩) ⟨⟨by decide, by decide⟩, ⟨by decide, by decide⟩⟩ (by kernel_rfl))
  have M2 := Lib.hid (a_meas 5 6 3 (okS_lit (mkR 5 1) (mkR 6 1) ⟨of_decide_eq_true (by kernel_rfl), of_decide_eq_true (by kernel_rfl), by kernel_rfl, by kernel_rfl, by kernel_rfl, by kernel_rfl, of_decide_eq_true (by kernel_rfl)⟩) ⟨⟨by decide, by decide⟩, ⟨by decide, by decide⟩⟩ (by kernel_rfl))
  have M3 := Lib.hid (a_meas 6 7 2 (okS_lit (mkR 6 1) (mkR 7 1) ⟨of_decide_eq_true (by kernel_rfl), of_decide_eq_true (by kernel_rfl), by kernel_rfl, by kernel_rfl, by kernel_rfl, by kernel_rfl, of_decide_eq_true (by kernel_rfl)⟩) ⟨⟨by decide, by decide⟩, ⟨by decide, by decide⟩⟩ (by kernel_rfl))
  have T46 := Lib.hid (twice_any 4 6 ⟨by kernel_rfl, by kernel_rfl⟩ (by decide) ⟨by kernel_rfl, by kernel_rfl⟩ (by decide))
  have T56 := Lib.hid (twice_any 5 6 ⟨by kernel_rfl, by kernel_rfl⟩ (by decide) ⟨by kernel_rfl, by kernel_rfl⟩ (by decide))
  have T67 := Lib.hid (twice_any 6 7 ⟨by kernel_rfl, by kernel_rfl⟩ (by decide) ⟨by kernel_rfl, by kernel_rfl⟩ (by decide))
  go_enter Try.func14, Try.ntmps14
  go_wp2_with fail
  refine (sample_any _).mono ?_
  rintro e w1 ⟨bs, rfl, hbs, kS, hb⟩
  clear hbs
  have hBw : Below w.heap.size w w1 := by (repeat' (first | (with_reducible exact Below.refl _ _) | (with_reducible assumption) | (with_reducible refine belowThru ?_ (by assumption)) | (with_reducible refine belowAlloc ?_) | (with_reducible refine Below.setCell ?_ (by first | omega | (simp; done) | (simp; omega)) _) | (with_reducible refine Below.drew ?_) | (with_reducible refine below_drewN ?_ _)))
  have hzw1 := hBw.size
  clear hb
  go_wp2_with fail
  refine (a_first _ _ kS).mono ?_
  rintro e w2 ⟨rfl, hb⟩
  replace hBw : Below w.heap.size w w2 := belowThru (by (repeat' (first | (with_reducible exact Below.refl _ _) | (with_reducible assumption) | (with_reducible refine belowThru ?_ (by assumption)) | (with_reducible refine belowAlloc ?_) | (with_reducible refine Below.setCell ?_ (by first | omega | (simp; done) | (simp; omega)) _) | (with_reducible refine Below.drew ?_) | (with_reducible refine below_drewN ?_ _)))) hb
  have hzw2 := hBw.size
  clear hb
  clear kS
  go_wp2_with fail
  refine (sample_any _).mono ?_
  rintro e w3 ⟨bs, rfl, hbs, kS, hb⟩
  clear hbs
  have kn0 : Blk w3 (w2.heap.size) #[.int .i64 5, .int .i64 2] 23 := Blk.later hb (by (repeat' (first | (with_reducible assumption) | (with_reducible refine Blk.set2 ?_) | ((with_reducible refine Blk.new ?_); first | rfl | (simp; done)) | (with_reducible refine Blk.later (by assumption) ?_) | (with_reducible refine Blk.alloc ?_) | (with_reducible refine Blk.drewN ?_) | (with_reducible refine Blk.drew ?_) | (with_reducible refine Blk.other ?_ (by first | omega | (simp; done) | (simp; omega))))))
  have k0 := kn0; clear kn0; obtain ⟨a0, b0⟩ := k0.read; have y0 := k0.lt
  replace hBw : Below w.heap.size w w3 := belowThru (by (repeat' (first | (with_reducible exact Below.refl _ _) | (with_reducible assumption) | (with_reducible refine belowThru ?_ (by assumption)) | (with_reducible refine belowAlloc ?_) | (with_reducible refine Below.setCell ?_ (by first | omega | (simp; done) | (simp; omega)) _) | (with_reducible refine Below.drew ?_) | (with_reducible refine below_drewN ?_ _)))) hb
  have hzw3 := hBw.size
  clear hb
  go_wp2_with fail
  refine (a_last _ _ kS).mono ?_
  rintro e w4 ⟨rfl, hb⟩
  have kn0 : Blk w4 (w2.heap.size) #[.int .i64 5, .int .i64 2] 23 := Blk.later hb (by (repeat' (first | (with_reducible assumption) | (with_reducible refine Blk.set2 ?_) | ((with_reducible refine Blk.new ?_); first | rfl | (simp; done)) | (with_reducible refine Blk.later (by assumption) ?_) | (with_reducible refine Blk.alloc ?_) | (with_reducible refine Blk.drewN ?_) | (with_reducible refine Blk.drew ?_) | (with_reducible refine Blk.other ?_ (by first | omega | (simp; done) | (simp; omega))))))
  clear k0 a0 b0 y0
  have k0 := kn0; clear kn0; obtain ⟨a0, b0⟩ := k0.read; have y0 := k0.lt
  replace hBw : Below w.heap.size w w4 := belowThru (by (repeat' (first | (with_reducible exact Below.refl _ _) | (with_reducible assumption) | (with_reducible refine belowThru ?_ (by assumption)) | (with_reducible refine belowAlloc ?_) | (with_reducible refine Below.setCell ?_ (by first | omega | (simp; done) | (simp; omega)) _) | (with_reducible refine Below.drew ?_) | (with_reducible refine below_drewN ?_ _)))) hb
  have hzw4 := hBw.size
  clear hb
  clear kS
  go_wp2_with fail
  refine (sample_any _).mono ?_
  rintro e w5 ⟨bs, rfl, hbs, kS, hb⟩
  clear hbs
  have kn0 : Blk w5 (w2.heap.size) #[.int .i64 5, .int .i64 2] 23 := Blk.later hb (by (repeat' (first | (with_reducible assumption) | (with_reducible refine Blk.set2 ?_) | ((with_reducible refine Blk.new ?_); first | rfl | (simp; done)) | (with_reducible refine Blk.later (by assumption) ?_) | (with_reducible refine Blk.alloc ?_) | (with_reducible refine Blk.drewN ?_) | (with_reducible refine Blk.drew ?_) | (with_reducible refine Blk.other ?_ (by first | omega | (simp; done) | (simp; omega))))))
  have kn1 : Blk w5 (w4.heap.size) #[.int .i64 37, .int .i64 8] 23 := Blk.later hb (by (repeat' (first | (with_reducible assumption) | (with_reducible refine Blk.set2 ?_) | ((with_reducible refine Blk.new ?_); first | rfl | (simp; done)) | (with_reducible refine Blk.later (by assumption) ?_) | (with_reducible refine Blk.alloc ?_) | (with_reducible refine Blk.drewN ?_) | (with_reducible refine Blk.drew ?_) | (with_reducible refine Blk.other ?_ (by first | omega | (simp; done) | (simp; omega))))))
  clear k0 a0 b0 y0
  have k0 := kn0; clear kn0; obtain ⟨a0, b0⟩ := k0.read; have y0 := k0.lt
  have k1 := kn1; clear kn1; obtain ⟨a1, b1⟩ := k1.read; have y1 := k1.lt
  replace hBw : Below w.heap.size w w5 := belowThru (by (repeat' (first | (with_reducible exact Below.refl _ _) | (with_reducible assumption) | (with_reducible refine belowThru ?_ (by assumption)) | (with_reducible refine belowAlloc ?_) | (with_reducible refine Below.setCell ?_ (by first | omega | (simp; done) | (simp; omega)) _) | (with_reducible refine Below.drew ?_) | (with_reducible refine below_drewN ?_ _)))) hb
  have hzw5 := hBw.size
  clear hb
  go_wp2_with fail
  refine (a_rise _ _ kS).mono ?_
  rintro e w6 ⟨rfl, hb⟩
  have kn0 : Blk w6 (w2.heap.size) #[.int .i64 5, .int .i64 2] 23 := Blk.later hb (by (repeat' (first | (with_reducible assumption) | (with_reducible refine Blk.set2 ?_) | ((with_reducible refine Blk.new ?_); first | rfl | (simp; done)) | (with_reducible refine Blk.later (by assumption) ?_) | (with_reducible refine Blk.alloc ?_) | (with_reducible refine Blk.drewN ?_) | (with_reducible refine Blk.drew ?_) | (with_reducible refine Blk.other ?_ (by first | omega | (simp; done) | (simp; omega))))))
  have kn1 : Blk w6 (w4.heap.size) #[.int .i64 37, .int .i64 8] 23 := Blk.later hb (by (repeat' (first | (with_reducible assumption) | (with_reducible refine Blk.set2 ?_) | ((with_reducible refine Blk.new ?_); first | rfl | (simp; done)) | (with_reducible refine Blk.later (by assumption) ?_) | (with_reducible refine Blk.alloc ?_) | (with_reducible refine Blk.drewN ?_) | (with_reducible refine Blk.drew ?_) | (with_reducible refine Blk.other ?_ (by first | omega | (simp; done) | (simp; omega))))))
  clear k0 a0 b0 y0
  clear k1 a1 b1 y1
  have k0 := kn0; clear kn0; obtain ⟨a0, b0⟩ := k0.read; have y0 := k0.lt
  have k1 := kn1; clear kn1; obtain ⟨a1, b1⟩ := k1.read; have y1 := k1.lt
  replace hBw : Below w.heap.size w w6 := belowThru (by (repeat' (first | (with_reducible exact Below.refl _ _) | (with_reducible assumption) | (with_reducible refine belowThru ?_ (by assumption)) | (with_reducible refine belowAlloc ?_) | (with_reducible refine Below.setCell ?_ (by first | omega | (simp; done) | (simp; omega)) _) | (with_reducible refine Below.drew ?_) | (with_reducible refine below_drewN ?_ _)))) hb
  have hzw6 := hBw.size
  clear hb
  clear kS
  go_wp2_with fail
  refine (sample_any _).mono ?_
  rintro e w7 ⟨bs, rfl, hbs, kS, hb⟩
  clear hbs
  have kn0 : Blk w7 (w2.heap.size) #[.int .i64 5, .int .i64 2] 23 := Blk.later hb (by (repeat' (first | (with_reducible assumption) | (with_reducible refine Blk.set2 ?_) | ((with_reducible refine Blk.new ?_); first | rfl | (simp; done)) | (with_reducible refine Blk.later (by assumption) ?_) | (with_reducible refine Blk.alloc ?_) | (with_reducible refine Blk.drewN ?_) | (with_reducible refine Blk.drew ?_) | (with_reducible refine Blk.other ?_ (by first | omega | (simp; done) | (simp; omega))))))
  have kn1 : Blk w7 (w4.heap.size) #[.int .i64 37, .int .i64 8] 23 := Blk.later hb (by (repeat' (first | (with_reducible assumption) | (with_reducible refine Blk.set2 ?_) | ((with_reducible refine Blk.new ?_); first | rfl | (simp; done)) | (with_reducible refine Blk.later (by assumption) ?_) | (with_reducible refine Blk.alloc ?_) | (with_reducible refine Blk.drewN ?_) | (with_reducible refine Blk.drew ?_) | (with_reducible refine Blk.other ?_ (by first | omega | (simp; done) | (simp; omega))))))
  have kn2 : Blk w7 (w6.heap.size) #[.int .i64 9, .int .i64 5, .int .i64 11, .int .i64 5] 30 := Blk.later hb (by (repeat' (first | (with_reducible assumption) | (with_reducible refine Blk.set2 ?_) | ((with_reducible refine Blk.new ?_); first | rfl | (simp; done)) | (with_reducible refine Blk.later (by assumption) ?_) | (with_reducible refine Blk.alloc ?_) | (with_reducible refine Blk.drewN ?_) | (with_reducible refine Blk.drew ?_) | (with_reducible refine Blk.other ?_ (by first | omega | (simp; done) | (simp; omega))))))
  clear k0 a0 b0 y0
  clear k1 a1 b1 y1
  have k0 := kn0; clear kn0; obtain ⟨a0, b0⟩ := k0.read; have y0 := k0.lt
  have k1 := kn1; clear kn1; obtain ⟨a1, b1⟩ := k1.read; have y1 := k1.lt
  have k2 := kn2; clear kn2; obtain ⟨a2, b2⟩ := k2.read; have y2 := k2.lt
  replace hBw : Below w.heap.size w w7 := belowThru (by (repeat' (first | (with_reducible exact Below.refl _ _) | (with_reducible assumption) | (with_reducible refine belowThru ?_ (by assumption)) | (with_reducible refine belowAlloc ?_) | (with_reducible refine Below.setCell ?_ (by first | omega | (simp; done) | (simp; omega)) _) | (with_reducible refine Below.drew ?_) | (with_reducible refine below_drewN ?_ _)))) hb
  have hzw7 := hBw.size
  clear hb
  go_wp2_with fail
  refine (a_width _ _ kS).mono ?_
  rintro e w8 ⟨rfl, hb⟩
  have kn0 : Blk w8 (w2.heap.size) #[.int .i64 5, .int .i64 2] 23 := Blk.later hb (by (repeat' (first | (with_reducible assumption) | (with_reducible refine Blk.set2 ?_) | ((with_reducible refine Blk.new ?_); first | rfl | (simp; done)) | (with_reducible refine Blk.later (by assumption) ?_) | (with_reducible refine Blk.alloc ?_) | (with_reducible refine Blk.drewN ?_) | (with_reducible refine Blk.drew ?_) | (with_reducible refine Blk.other ?_ (by first | omega | (simp; done) | (simp; omega))))))
  have kn1 : Blk w8 (w4.heap.size) #[.int .i64 37, .int .i64 8] 23 := Blk.later hb (by (repeat' (first | (with_reducible assumption) | (with_reducible refine Blk.set2 ?_) | ((with_reducible refine Blk.new ?_); first | rfl | (simp; done)) | (with_reducible refine Blk.later (by assumption) ?_) | (with_reducible refine Blk.alloc ?_) | (with_reducible refine Blk.drewN ?_) | (with_reducible refine Blk.drew ?_) | (with_reducible refine Blk.other ?_ (by first | omega | (simp; done) | (simp; omega))))))
  have kn2 : Blk w8 (w6.heap.size) #[.int .i64 9, .int .i64 5, .int .i64 11, .int .i64 5] 30 := Blk.later hb (by (repeat' (first | (with_reducible assumption) | (with_reducible refine Blk.set2 ?_) | ((with_reducible refine Blk.new ?_); first | rfl | (simp; done)) | (with_reducible refine Blk.later (by assumption) ?_) | (with_reducible refine Blk.alloc ?_) | (with_reducible refine Blk.drewN ?_) | (with_reducible refine Blk.drew ?_) | (with_reducible refine Blk.other ?_ (by first | omega | (simp; done) | (simp; omega))))))
  clear k0 a0 b0 y0
  clear k1 a1 b1 y1
  clear k2 a2 b2 y2
  have k0 := kn0; clear kn0; obtain ⟨a0, b0⟩ := k0.read; have y0 := k0.lt
  have k1 := kn1; clear kn1; obtain ⟨a1, b1⟩ := k1.read; have y1 := k1.lt
  have k2 := kn2; clear kn2; obtain ⟨a2, b2⟩ := k2.read; have y2 := k2.lt
  replace hBw : Below w.heap.size w w8 := belowThru (by (repeat' (first | (with_reducible exact Below.refl _ _) | (with_reducible assumption) | (with_reducible refine belowThru ?_ (by assumption)) | (with_reducible refine belowAlloc ?_) | (with_reducible refine Below.setCell ?_ (by first | omega | (simp; done) | (simp; omega)) _) | (with_reducible refine Below.drew ?_) | (with_reducible refine below_drewN ?_ _)))) hb
  have hzw8 := hBw.size
  clear hb
  clear kS
  go_wp2_with fail
  obtain ⟨Wp, hWp⟩ : ∃ Wp, (w8.alloc (.cells #[.int .i64 23, .int .i64 10, .int .i64 59, .int .i64 20] 30)) = Wp := ⟨_, rfl⟩
  have kn0 : Blk Wp (w2.heap.size) #[.int .i64 5, .int .i64 2] 23 := by rw [← hWp]; (repeat' (first | (with_reducible assumption) | ((with_reducible refine Blk.new ?_); first | rfl | (simp; done)) | (with_reducible refine Blk.later (by assumption) ?_) | (with_reducible refine Blk.alloc ?_) | (with_reducible refine Blk.drewN ?_) | (with_reducible refine Blk.drew ?_) | (with_reducible refine Blk.other ?_ (by first | omega | (simp; done) | (simp; omega)))))
  have kn1 : Blk Wp (w4.heap.size) #[.int .i64 37, .int .i64 8] 23 := by rw [← hWp]; (repeat' (first | (with_reducible assumption) | ((with_reducible refine Blk.new ?_); first | rfl | (simp; done)) | (with_reducible refine Blk.later (by assumption) ?_) | (with_reducible refine Blk.alloc ?_) | (with_reducible refine Blk.drewN ?_) | (with_reducible refine Blk.drew ?_) | (with_reducible refine Blk.other ?_ (by first | omega | (simp; done) | (simp; omega)))))
  have kn2 : Blk Wp (w6.heap.size) #[.int .i64 9, .int .i64 5, .int .i64 11, .int .i64 5] 30 := by rw [← hWp]; (repeat' (first | (with_reducible assumption) | ((with_reducible refine Blk.new ?_); first | rfl | (simp; done)) | (with_reducible refine Blk.later (by assumption) ?_) | (with_reducible refine Blk.alloc ?_) | (with_reducible refine Blk.drewN ?_) | (with_reducible refine Blk.drew ?_) | (with_reducible refine Blk.other ?_ (by first | omega | (simp; done) | (simp; omega)))))
  have kn3 : Blk Wp (w8.heap.size) #[.int .i64 23, .int .i64 10, .int .i64 59, .int .i64 20] 30 := by rw [← hWp]; (repeat' (first | (with_reducible assumption) | ((with_reducible refine Blk.new ?_); first | rfl | (simp; done)) | (with_reducible refine Blk.later (by assumption) ?_) | (with_reducible refine Blk.alloc ?_) | (with_reducible refine Blk.drewN ?_) | (with_reducible refine Blk.drew ?_) | (with_reducible refine Blk.other ?_ (by first | omega | (simp; done) | (simp; omega)))))
  replace hBw : Below w.heap.size w Wp := by rw [← hWp]; (repeat' (first | (with_reducible exact Below.refl _ _) | (with_reducible assumption) | (with_reducible refine belowThru ?_ (by assumption)) | (with_reducible refine belowAlloc ?_) | (with_reducible refine Below.setCell ?_ (by first | omega | (simp; done) | (simp; omega)) _) | (with_reducible refine Below.drew ?_) | (with_reducible refine below_drewN ?_ _)))
  clear k0 a0 b0 y0
  clear k1 a1 b1 y1
  clear k2 a2 b2 y2
  rw [hWp]
  clear hWp
  have k0 := kn0; clear kn0; have y0 := k0.lt
  have k1 := kn1; clear kn1; have y1 := k1.lt
  have k2 := kn2; clear kn2; have y2 := k2.lt
  have k3 := kn3; clear kn3; have y3 := k3.lt
  go_cut [72] (fun s72 wx => s72 = .bool false ∧ Below Wp.heap.size Wp wx)
  case first =>
    go_region_held3 (fun w' => (Blk w' (w2.heap.size) #[.int .i64 5, .int .i64 2] 23 ∧ (∀ i : Nat, w'.cell? ⟨w2.heap.size, i, none⟩ = (#[.int .i64 5, .int .i64 2] : Array Value)[i]?)) ∧ (Blk w' (w4.heap.size) #[.int .i64 37, .int .i64 8] 23 ∧ (∀ i : Nat, w'.cell? ⟨w4.heap.size, i, none⟩ = (#[.int .i64 37, .int .i64 8] : Array Value)[i]?)) ∧ (Blk w' (w6.heap.size) #[.int .i64 9, .int .i64 5, .int .i64 11, .int .i64 5] 30 ∧ (∀ i : Nat, w'.cell? ⟨w6.heap.size, i, none⟩ = (#[.int .i64 9, .int .i64 5, .int .i64 11, .int .i64 5] : Array Value)[i]?)) ∧ (Blk w' (w8.heap.size) #[.int .i64 23, .int .i64 10, .int .i64 59, .int .i64 20] 30 ∧ (∀ i : Nat, w'.cell? ⟨w8.heap.size, i, none⟩ = (#[.int .i64 23, .int .i64 10, .int .i64 59, .int .i64 20] : Array Value)[i]?)) ∧ Below Wp.heap.size Wp w')
      (((first | (apply holdG4A; (focus assumption); intro p0 p1 p2 p3 pB) | skip); refine ⟨Blk.full ?_, Blk.full ?_, Blk.full ?_, Blk.full ?_, ?_⟩; all_goals (first | ((repeat' (first | (with_reducible assumption) | ((with_reducible refine Blk.new ?_); first | rfl | (simp; done)) | (with_reducible refine Blk.later (by assumption) ?_) | (with_reducible refine Blk.alloc ?_) | (with_reducible refine Blk.drewN ?_) | (with_reducible refine Blk.drew ?_) | (with_reducible refine Blk.other ?_ (by first | omega | (simp; done) | (simp; omega))))); done) | ((repeat' (first | (with_reducible exact Below.refl _ _) | (with_reducible assumption) | (with_reducible refine belowThru ?_ (by assumption)) | (with_reducible refine belowAlloc ?_) | (with_reducible refine Below.setCell ?_ (by first | omega | (simp; done) | (simp; omega)) _) | (with_reducible refine Below.drew ?_) | (with_reducible refine below_drewN ?_ _))); done) | exact Below.refl _ _)))
      (first
      | (go_at_call 15; (with_reducible refine (F5_2.out _).mono ?_); rintro e w1 ⟨rfl, hb⟩)
      | (go_at_call 15; (with_reducible refine (F37_8.out _).mono ?_); rintro e w1 ⟨rfl, hb⟩)
      | (go_at_call 15; (with_reducible refine (F9_5.out _).mono ?_); rintro e w1 ⟨rfl, hb⟩)
      | (go_at_call 15; (with_reducible refine (F11_5.out _).mono ?_); rintro e w1 ⟨rfl, hb⟩)
      | (go_at_call 15; (with_reducible refine (F23_10.out _).mono ?_); rintro e w1 ⟨rfl, hb⟩)
      | (go_at_call 15; (with_reducible refine (F59_20.out _).mono ?_); rintro e w1 ⟨rfl, hb⟩))
    all_goals
      apply holdG4A; (focus assumption); intro p0 p1 p2 p3 pB
      go_wp2_with fail
      go_meet
      exact ⟨rfl, pB⟩
  case rest =>
    obtain ⟨rfl, hb⟩ := hcut
    obtain ⟨w9, rfl⟩ : ∃ z, z = wc := ⟨_, rfl⟩
    replace k0 := Blk.later hb k0; clear y0; obtain ⟨a0, b0⟩ := k0.read; have y0 := k0.lt
    replace k1 := Blk.later hb k1; clear y1; obtain ⟨a1, b1⟩ := k1.read; have y1 := k1.lt
    replace k2 := Blk.later hb k2; clear y2; obtain ⟨a2, b2⟩ := k2.read; have y2 := k2.lt
    replace k3 := Blk.later hb k3; clear y3; obtain ⟨a3, b3⟩ := k3.read; have y3 := k3.lt
    replace hBw : Below w.heap.size w w9 := belowThru hBw hb
    have hzw9 := hBw.size
    clear hb
    clear k0 a0 b0 y0 k1 a1 b1 y1 k2 a2 b2 y2 k3 a3 b3 y3
    go_wp2_with fail
    refine (T46.out _).mono ?_
    rintro e w10 ⟨rfl, hb⟩
    replace hBw : Below w.heap.size w w10 := belowThru (by (repeat' (first | (with_reducible exact Below.refl _ _) | (with_reducible assumption) | (with_reducible refine belowThru ?_ (by assumption)) | (with_reducible refine belowAlloc ?_) | (with_reducible refine Below.setCell ?_ (by first | omega | (simp; done) | (simp; omega)) _) | (with_reducible refine Below.drew ?_) | (with_reducible refine below_drewN ?_ _)))) hb
    have hzw10 := hBw.size
    clear hb
    go_wp2_with fail
    refine (sample_any _).mono ?_
    rintro e w11 ⟨bs, rfl, hbs, kS, hb⟩
    clear hbs
    replace hBw : Below w.heap.size w w11 := belowThru (by (repeat' (first | (with_reducible exact Below.refl _ _) | (with_reducible assumption) | (with_reducible refine belowThru ?_ (by assumption)) | (with_reducible refine belowAlloc ?_) | (with_reducible refine Below.setCell ?_ (by first | omega | (simp; done) | (simp; omega)) _) | (with_reducible refine Below.drew ?_) | (with_reducible refine below_drewN ?_ _)))) hb
    have hzw11 := hBw.size
    clear hb
    go_wp2_with fail
    refine (M1.out _ _ kS).mono ?_
    rintro e w12 ⟨rfl, hb⟩
    replace hBw : Below w.heap.size w w12 := belowThru (by (repeat' (first | (with_reducible exact Below.refl _ _) | (with_reducible assumption) | (with_reducible refine belowThru ?_ (by assumption)) | (with_reducible refine belowAlloc ?_) | (with_reducible refine Below.setCell ?_ (by first | omega | (simp; done) | (simp; omega)) _) | (with_reducible refine Below.drew ?_) | (with_reducible refine below_drewN ?_ _)))) hb
    have hzw12 := hBw.size
    clear hb
    clear kS
    go_wp2_with fail
    refine (T56.out _).mono ?_
    rintro e w13 ⟨rfl, hb⟩
    have kn4 : Blk w13 (w12.heap.size) #[.int .i64 23, .int .i64 5, .int .i64 59, .int .i64 10] 30 := Blk.later hb (by (repeat' (first | (with_reducible assumption) | (with_reducible refine Blk.set2 ?_) | ((with_reducible refine Blk.new ?_); first | rfl | (simp; done)) | (with_reducible refine Blk.later (by assumption) ?_) | (with_reducible refine Blk.alloc ?_) | (with_reducible refine Blk.drewN ?_) | (with_reducible refine Blk.drew ?_) | (with_reducible refine Blk.other ?_ (by first | omega | (simp; done) | (simp; omega))))))
    have k4 := kn4; clear kn4; obtain ⟨a4, b4⟩ := k4.read; have y4 := k4.lt
    replace hBw : Below w.heap.size w w13 := belowThru (by (repeat' (first | (with_reducible exact Below.refl _ _) | (with_reducible assumption) | (with_reducible refine belowThru ?_ (by assumption)) | (with_reducible refine belowAlloc ?_) | (with_reducible refine Below.setCell ?_ (by first | omega | (simp; done) | (simp; omega)) _) | (with_reducible refine Below.drew ?_) | (with_reducible refine below_drewN ?_ _)))) hb
    have hzw13 := hBw.size
    clear hb
    go_wp2_with fail
    refine (sample_any _).mono ?_
    rintro e w14 ⟨bs, rfl, hbs, kS, hb⟩
    clear hbs
    have kn4 : Blk w14 (w12.heap.size) #[.int .i64 23, .int .i64 5, .int .i64 59, .int .i64 10] 30 := Blk.later hb (by (repeat' (first | (with_reducible assumption) | (with_reducible refine Blk.set2 ?_) | ((with_reducible refine Blk.new ?_); first | rfl | (simp; done)) | (with_reducible refine Blk.later (by assumption) ?_) | (with_reducible refine Blk.alloc ?_) | (with_reducible refine Blk.drewN ?_) | (with_reducible refine Blk.drew ?_) | (with_reducible refine Blk.other ?_ (by first | omega | (simp; done) | (simp; omega))))))
    clear k4 a4 b4 y4
    have k4 := kn4; clear kn4; obtain ⟨a4, b4⟩ := k4.read; have y4 := k4.lt
    replace hBw : Below w.heap.size w w14 := belowThru (by (repeat' (first | (with_reducible exact Below.refl _ _) | (with_reducible assumption) | (with_reducible refine belowThru ?_ (by assumption)) | (with_reducible refine belowAlloc ?_) | (with_reducible refine Below.setCell ?_ (by first | omega | (simp; done) | (simp; omega)) _) | (with_reducible refine Below.drew ?_) | (with_reducible refine below_drewN ?_ _)))) hb
    have hzw14 := hBw.size
    clear hb
    go_wp2_with fail
    refine (M2.out _ _ kS).mono ?_
    rintro e w15 ⟨rfl, hb⟩
    have kn4 : Blk w15 (w12.heap.size) #[.int .i64 23, .int .i64 5, .int .i64 59, .int .i64 10] 30 := Blk.later hb (by (repeat' (first | (with_reducible assumption) | (with_reducible refine Blk.set2 ?_) | ((with_reducible refine Blk.new ?_); first | rfl | (simp; done)) | (with_reducible refine Blk.later (by assumption) ?_) | (with_reducible refine Blk.alloc ?_) | (with_reducible refine Blk.drewN ?_) | (with_reducible refine Blk.drew ?_) | (with_reducible refine Blk.other ?_ (by first | omega | (simp; done) | (simp; omega))))))
    clear k4 a4 b4 y4
    have k4 := kn4; clear kn4; obtain ⟨a4, b4⟩ := k4.read; have y4 := k4.lt
    replace hBw : Below w.heap.size w w15 := belowThru (by (repeat' (first | (with_reducible exact Below.refl _ _) | (with_reducible assumption) | (with_reducible refine belowThru ?_ (by assumption)) | (with_reducible refine belowAlloc ?_) | (with_reducible refine Below.setCell ?_ (by first | omega | (simp; done) | (simp; omega)) _) | (with_reducible refine Below.drew ?_) | (with_reducible refine below_drewN ?_ _)))) hb
    have hzw15 := hBw.size
    clear hb
    clear kS
    go_wp2_with fail
    refine (T67.out _).mono ?_
    rintro e w16 ⟨rfl, hb⟩
    have kn4 : Blk w16 (w12.heap.size) #[.int .i64 23, .int .i64 5, .int .i64 59, .int .i64 10] 30 := Blk.later hb (by (repeat' (first | (with_reducible assumption) | (with_reducible refine Blk.set2 ?_) | ((with_reducible refine Blk.new ?_); first | rfl | (simp; done)) | (with_reducible refine Blk.later (by assumption) ?_) | (with_reducible refine Blk.alloc ?_) | (with_reducible refine Blk.drewN ?_) | (with_reducible refine Blk.drew ?_) | (with_reducible refine Blk.other ?_ (by first | omega | (simp; done) | (simp; omega))))))
    have kn5 : Blk w16 (w15.heap.size) #[.int .i64 23, .int .i64 5, .int .i64 59, .int .i64 10] 30 := Blk.later hb (by (repeat' (first | (with_reducible assumption) | (with_reducible refine Blk.set2 ?_) | ((with_reducible refine Blk.new ?_); first | rfl | (simp; done)) | (with_reducible refine Blk.later (by assumption) ?_) | (with_reducible refine Blk.alloc ?_) | (with_reducible refine Blk.drewN ?_) | (with_reducible refine Blk.drew ?_) | (with_reducible refine Blk.other ?_ (by first | omega | (simp; done) | (simp; omega))))))
    clear k4 a4 b4 y4
    have k4 := kn4; clear kn4; obtain ⟨a4, b4⟩ := k4.read; have y4 := k4.lt
    have k5 := kn5; clear kn5; obtain ⟨a5, b5⟩ := k5.read; have y5 := k5.lt
    replace hBw : Below w.heap.size w w16 := belowThru (by (repeat' (first | (with_reducible exact Below.refl _ _) | (with_reducible assumption) | (with_reducible refine belowThru ?_ (by assumption)) | (with_reducible refine belowAlloc ?_) | (with_reducible refine Below.setCell ?_ (by first | omega | (simp; done) | (simp; omega)) _) | (with_reducible refine Below.drew ?_) | (with_reducible refine below_drewN ?_ _)))) hb
    have hzw16 := hBw.size
    clear hb
    go_wp2_with fail
    refine (sample_any _).mono ?_
    rintro e w17 ⟨bs, rfl, hbs, kS, hb⟩
    clear hbs
    have kn4 : Blk w17 (w12.heap.size) #[.int .i64 23, .int .i64 5, .int .i64 59, .int .i64 10] 30 := Blk.later hb (by (repeat' (first | (with_reducible assumption) | (with_reducible refine Blk.set2 ?_) | ((with_reducible refine Blk.new ?_); first | rfl | (simp; done)) | (with_reducible refine Blk.later (by assumption) ?_) | (with_reducible refine Blk.alloc ?_) | (with_reducible refine Blk.drewN ?_) | (with_reducible refine Blk.drew ?_) | (with_reducible refine Blk.other ?_ (by first | omega | (simp; done) | (simp; omega))))))
    have kn5 : Blk w17 (w15.heap.size) #[.int .i64 23, .int .i64 5, .int .i64 59, .int .i64 10] 30 := Blk.later hb (by (repeat' (first | (with_reducible assumption) | (with_reducible refine Blk.set2 ?_) | ((with_reducible refine Blk.new ?_); first | rfl | (simp; done)) | (with_reducible refine Blk.later (by assumption) ?_) | (with_reducible refine Blk.alloc ?_) | (with_reducible refine Blk.drewN ?_) | (with_reducible refine Blk.drew ?_) | (with_reducible refine Blk.other ?_ (by first | omega | (simp; done) | (simp; omega))))))
    clear k4 a4 b4 y4
    clear k5 a5 b5 y5
    have k4 := kn4; clear kn4; obtain ⟨a4, b4⟩ := k4.read; have y4 := k4.lt
    have k5 := kn5; clear kn5; obtain ⟨a5, b5⟩ := k5.read; have y5 := k5.lt
    replace hBw : Below w.heap.size w w17 := belowThru (by (repeat' (first | (with_reducible exact Below.refl _ _) | (with_reducible assumption) | (with_reducible refine belowThru ?_ (by assumption)) | (with_reducible refine belowAlloc ?_) | (with_reducible refine Below.setCell ?_ (by first | omega | (simp; done) | (simp; omega)) _) | (with_reducible refine Below.drew ?_) | (with_reducible refine below_drewN ?_ _)))) hb
    have hzw17 := hBw.size
    clear hb
    go_wp2_with fail
    refine (M3.out _ _ kS).mono ?_
    rintro e w18 ⟨rfl, hb⟩
    have kn4 : Blk w18 (w12.heap.size) #[.int .i64 23, .int .i64 5, .int .i64 59, .int .i64 10] 30 := Blk.later hb (by (repeat' (first | (with_reducible assumption) | (with_reducible refine Blk.set2 ?_) | ((with_reducible refine Blk.new ?_); first | rfl | (simp; done)) | (with_reducible refine Blk.later (by assumption) ?_) | (with_reducible refine Blk.alloc ?_) | (with_reducible refine Blk.drewN ?_) | (with_reducible refine Blk.drew ?_) | (with_reducible refine Blk.other ?_ (by first | omega | (simp; done) | (simp; omega))))))
    have kn5 : Blk w18 (w15.heap.size) #[.int .i64 23, .int .i64 5, .int .i64 59, .int .i64 10] 30 := Blk.later hb (by (repeat' (first | (with_reducible assumption) | (with_reducible refine Blk.set2 ?_) | ((with_reducible refine Blk.new ?_); first | rfl | (simp; done)) | (with_reducible refine Blk.later (by assumption) ?_) | (with_reducible refine Blk.alloc ?_) | (with_reducible refine Blk.drewN ?_) | (with_reducible refine Blk.drew ?_) | (with_reducible refine Blk.other ?_ (by first | omega | (simp; done) | (simp; omega))))))
    clear k4 a4 b4 y4
    clear k5 a5 b5 y5
    have k4 := kn4; clear kn4; obtain ⟨a4, b4⟩ := k4.read; have y4 := k4.lt
    have k5 := kn5; clear kn5; obtain ⟨a5, b5⟩ := k5.read; have y5 := k5.lt
    replace hBw : Below w.heap.size w w18 := belowThru (by (repeat' (first | (with_reducible exact Below.refl _ _) | (with_reducible assumption) | (with_reducible refine belowThru ?_ (by assumption)) | (with_reducible refine belowAlloc ?_) | (with_reducible refine Below.setCell ?_ (by first | omega | (simp; done) | (simp; omega)) _) | (with_reducible refine Below.drew ?_) | (with_reducible refine below_drewN ?_ _)))) hb
    have hzw18 := hBw.size
    clear hb
    clear kS
    go_wp2_with fail
    obtain ⟨Wp, hWp⟩ : ∃ Wp, (w18.alloc (.cells #[.int .i64 23, .int .i64 5, .int .i64 59, .int .i64 10] 30)) = Wp := ⟨_, rfl⟩
    have kn4 : Blk Wp (w12.heap.size) #[.int .i64 23, .int .i64 5, .int .i64 59, .int .i64 10] 30 := by rw [← hWp]; (repeat' (first | (with_reducible assumption) | ((with_reducible refine Blk.new ?_); first | rfl | (simp; done)) | (with_reducible refine Blk.later (by assumption) ?_) | (with_reducible refine Blk.alloc ?_) | (with_reducible refine Blk.drewN ?_) | (with_reducible refine Blk.drew ?_) | (with_reducible refine Blk.other ?_ (by first | omega | (simp; done) | (simp; omega)))))
    have kn5 : Blk Wp (w15.heap.size) #[.int .i64 23, .int .i64 5, .int .i64 59, .int .i64 10] 30 := by rw [← hWp]; (repeat' (first | (with_reducible assumption) | ((with_reducible refine Blk.new ?_); first | rfl | (simp; done)) | (with_reducible refine Blk.later (by assumption) ?_) | (with_reducible refine Blk.alloc ?_) | (with_reducible refine Blk.drewN ?_) | (with_reducible refine Blk.drew ?_) | (with_reducible refine Blk.other ?_ (by first | omega | (simp; done) | (simp; omega)))))
    have kn6 : Blk Wp (w18.heap.size) #[.int .i64 23, .int .i64 5, .int .i64 59, .int .i64 10] 30 := by rw [← hWp]; (repeat' (first | (with_reducible assumption) | ((with_reducible refine Blk.new ?_); first | rfl | (simp; done)) | (with_reducible refine Blk.later (by assumption) ?_) | (with_reducible refine Blk.alloc ?_) | (with_reducible refine Blk.drewN ?_) | (with_reducible refine Blk.drew ?_) | (with_reducible refine Blk.other ?_ (by first | omega | (simp; done) | (simp; omega)))))
    replace hBw : Below w.heap.size w Wp := by rw [← hWp]; (repeat' (first | (with_reducible exact Below.refl _ _) | (with_reducible assumption) | (with_reducible refine belowThru ?_ (by assumption)) | (with_reducible refine belowAlloc ?_) | (with_reducible refine Below.setCell ?_ (by first | omega | (simp; done) | (simp; omega)) _) | (with_reducible refine Below.drew ?_) | (with_reducible refine below_drewN ?_ _)))
    clear k4 a4 b4 y4
    clear k5 a5 b5 y5
    rw [hWp]
    clear hWp
    have k4 := kn4; clear kn4; have y4 := k4.lt
    have k5 := kn5; clear kn5; have y5 := k5.lt
    have k6 := kn6; clear kn6; have y6 := k6.lt
    go_region_held3 (fun w' => (Blk w' (w12.heap.size) #[.int .i64 23, .int .i64 5, .int .i64 59, .int .i64 10] 30 ∧ (∀ i : Nat, w'.cell? ⟨w12.heap.size, i, none⟩ = (#[.int .i64 23, .int .i64 5, .int .i64 59, .int .i64 10] : Array Value)[i]?)) ∧ Below Wp.heap.size Wp w')
      (((first | (apply hold1; (focus assumption); intro p0 pB) | skip); refine ⟨Blk.full ?_, ?_⟩; all_goals (first | ((repeat' (first | (with_reducible assumption) | ((with_reducible refine Blk.new ?_); first | rfl | (simp; done)) | (with_reducible refine Blk.later (by assumption) ?_) | (with_reducible refine Blk.alloc ?_) | (with_reducible refine Blk.drewN ?_) | (with_reducible refine Blk.drew ?_) | (with_reducible refine Blk.other ?_ (by first | omega | (simp; done) | (simp; omega))))); done) | ((repeat' (first | (with_reducible exact Below.refl _ _) | (with_reducible assumption) | (with_reducible refine belowThru ?_ (by assumption)) | (with_reducible refine belowAlloc ?_) | (with_reducible refine Below.setCell ?_ (by first | omega | (simp; done) | (simp; omega)) _) | (with_reducible refine Below.drew ?_) | (with_reducible refine below_drewN ?_ _))); done) | exact Below.refl _ _)))
      (first
      | (go_at_call 15; (with_reducible refine (F23_5.out _).mono ?_); rintro e w1 ⟨rfl, hb⟩)
      | (go_at_call 15; (with_reducible refine (F59_10.out _).mono ?_); rintro e w1 ⟨rfl, hb⟩))
    all_goals
      apply hold1; (focus assumption); intro p0 pB
      go_wp2_with fail
      go_ret
      exact ⟨rfl, belowThru hBw pB⟩
end Go.Proofs.Ytdimmnoflenfhaa
/-
  Layer 5: whether a span lies in another one, by the statements' own text.
-/
namespace Go.Proofs.Ytdimmnoflenfhaa
open Go.RowKit Go.Shelf
set_option linter.unusedVariables false
set_option linter.unusedSimpArgs false

set_option maxRecDepth 100000 in
set_option maxHeartbeats 16000000 in
theorem inside_none (s1 s2 s3 s4 t1 t2 t3 t4 A B C D E : Int) (w : World) (hE : (E == 0) = false) (HM : Hid (∀ w, Calls Try.prog 64 #[.agg #[.int .i64 s1, .int .i64 s2, .int .i64 s3, .int .i64 s4], .agg #[.int .i64 t1, .int .i64 t2, .int .i64 t3, .int .i64 t4]] w fun e w' => e = .returned (.tuple #[.agg #[.int .i64 A, .int .i64 B, .int .i64 C, .int .i64 D], .int .i64 E]) ∧ Below w.heap.size w w')) :
    Calls Try.prog 40 #[.agg #[.int .i64 s1, .int .i64 s2, .int .i64 s3, .int .i64 s4], .agg #[.int .i64 t1, .int .i64 t2, .int .i64 t3, .int .i64 t4]] w fun e w' => e = .returned (.bool false) ∧ Below w.heap.size w w' := by
  go_enter Try.func40, Try.ntmps40
  go_wp2_with fail
  refine (HM.out _).mono ?_
  rintro e w1 ⟨rfl, hb⟩
  have kn0 : Blk w1 (w.heap.size) #[.int .i64 s1, .int .i64 s2, .int .i64 s3, .int .i64 s4] 30 := Blk.later hb (by (repeat' (first | (with_reducible assumption) | (with_reducible refine Blk.set2 ?_) | ((with_reducible refine Blk.new ?_); first | rfl | (simp; done)) | (with_reducible refine Blk.later (by assumption) ?_) | (with_reducible refine Blk.alloc ?_) | (with_reducible refine Blk.drewN ?_) | (with_reducible refine Blk.drew ?_) | (with_reducible refine Blk.other ?_ (by first | omega | (simp; done) | (simp; omega))))))
  have kn1 : Blk w1 (w.heap.size + 1) #[.int .i64 t1, .int .i64 t2, .int .i64 t3, .int .i64 t4] 30 := Blk.later hb (by (repeat' (first | (with_reducible assumption) | (with_reducible refine Blk.set2 ?_) | ((with_reducible refine Blk.new ?_); first | rfl | (simp; done)) | (with_reducible refine Blk.later (by assumption) ?_) | (with_reducible refine Blk.alloc ?_) | (with_reducible refine Blk.drewN ?_) | (with_reducible refine Blk.drew ?_) | (with_reducible refine Blk.other ?_ (by first | omega | (simp; done) | (simp; omega))))))
  have k0 := kn0; clear kn0; obtain ⟨a0, b0⟩ := k0.read; have y0 := k0.lt
  have k1 := kn1; clear kn1; obtain ⟨a1, b1⟩ := k1.read; have y1 := k1.lt
  have hBw : Below w.heap.size w w1 := by (repeat' (first | (with_reducible exact Below.refl _ _) | (with_reducible assumption) | (with_reducible refine belowThru ?_ (by assumption)) | (with_reducible refine belowAlloc ?_) | (with_reducible refine Below.setCell ?_ (by first | omega | (simp; done) | (simp; omega)) _) | (with_reducible refine Below.drew ?_) | (with_reducible refine below_drewN ?_ _)))
  have hzw1 := hBw.size
  clear hb
  go_wp2_with fail
  go_ret
  exact ⟨rfl, by (repeat' (first | (with_reducible exact Below.refl _ _) | (with_reducible assumption) | (with_reducible refine belowThru ?_ (by assumption)) | (with_reducible refine belowAlloc ?_) | (with_reducible refine Below.setCell ?_ (by first | omega | (simp; done) | (simp; omega)) _) | (with_reducible refine Below.drew ?_) | (with_reducible refine below_drewN ?_ _)))⟩
set_option maxRecDepth 100000 in
set_option maxHeartbeats 16000000 in
theorem inside_yes (s1 s2 s3 s4 t1 t2 t3 t4 : Int) (w : World) (HM : Hid (∀ w, Calls Try.prog 64 #[.agg #[.int .i64 s1, .int .i64 s2, .int .i64 s3, .int .i64 s4], .agg #[.int .i64 t1, .int .i64 t2, .int .i64 t3, .int .i64 t4]] w fun e w' => e = .returned (.tuple #[.agg #[.int .i64 s1, .int .i64 s2, .int .i64 s3, .int .i64 s4], .int .i64 0]) ∧ Below w.heap.size w w')) :
    Calls Try.prog 40 #[.agg #[.int .i64 s1, .int .i64 s2, .int .i64 s3, .int .i64 s4], .agg #[.int .i64 t1, .int .i64 t2, .int .i64 t3, .int .i64 t4]] w fun e w' => e = .returned (.bool true) ∧ Below w.heap.size w w' := by
  go_enter Try.func40, Try.ntmps40
  go_wp2_with fail
  refine (HM.out _).mono ?_
  rintro e w1 ⟨rfl, hb⟩
  have kn0 : Blk w1 (w.heap.size) #[.int .i64 s1, .int .i64 s2, .int .i64 s3, .int .i64 s4] 30 := Blk.later hb (by (repeat' (first | (with_reducible assumption) | (with_reducible refine Blk.set2 ?_) | ((with_reducible refine Blk.new ?_); first | rfl | (simp; done)) | (with_reducible refine Blk.later (by assumption) ?_) | (with_reducible refine Blk.alloc ?_) | (with_reducible refine Blk.drewN ?_) | (with_reducible refine Blk.drew ?_) | (with_reducible refine Blk.other ?_ (by first | omega | (simp; done) | (simp; omega))))))
  have kn1 : Blk w1 (w.heap.size + 1) #[.int .i64 t1, .int .i64 t2, .int .i64 t3, .int .i64 t4] 30 := Blk.later hb (by (repeat' (first | (with_reducible assumption) | (with_reducible refine Blk.set2 ?_) | ((with_reducible refine Blk.new ?_); first | rfl | (simp; done)) | (with_reducible refine Blk.later (by assumption) ?_) | (with_reducible refine Blk.alloc ?_) | (with_reducible refine Blk.drewN ?_) | (with_reducible refine Blk.drew ?_) | (with_reducible refine Blk.other ?_ (by first | omega | (simp; done) | (simp; omega))))))
  have k0 := kn0; clear kn0; obtain ⟨a0, b0⟩ := k0.read; have y0 := k0.lt
  have k1 := kn1; clear kn1; obtain ⟨a1, b1⟩ := k1.read; have y1 := k1.lt
  have hBw : Below w.heap.size w w1 := by (repeat' (first | (with_reducible exact Below.refl _ _) | (with_reducible assumption) | (with_reducible refine belowThru ?_ (by assumption)) | (with_reducible refine belowAlloc ?_) | (with_reducible refine Below.setCell ?_ (by first | omega | (simp; done) | (simp; omega)) _) | (with_reducible refine Below.drew ?_) | (with_reducible refine below_drewN ?_ _)))
  have hzw1 := hBw.size
  clear hb
  go_wp2_with fail
  go_ret
  exact ⟨rfl, by (repeat' (first | (with_reducible exact Below.refl _ _) | (with_reducible assumption) | (with_reducible refine belowThru ?_ (by assumption)) | (with_reducible refine belowAlloc ?_) | (with_reducible refine Below.setCell ?_ (by first | omega | (simp; done) | (simp; omega)) _) | (with_reducible refine Below.drew ?_) | (with_reducible refine below_drewN ?_ _)))⟩
set_option maxRecDepth 100000 in
set_option maxHeartbeats 16000000 in
theorem inside_no (s1 s2 s3 s4 t1 t2 t3 t4 A B C D : Int) (w : World) (hne : ¬ (A = s1 ∧ B = s2 ∧ C = s3 ∧ D = s4)) (HM : Hid (∀ w, Calls Try.prog 64 #[.agg #[.int .i64 s1, .int .i64 s2, .int .i64 s3, .int .i64 s4], .agg #[.int .i64 t1, .int .i64 t2, .int .i64 t3, .int .i64 t4]] w fun e w' => e = .returned (.tuple #[.agg #[.int .i64 A, .int .i64 B, .int .i64 C, .int .i64 D], .int .i64 0]) ∧ Below w.heap.size w w')) :
    Calls Try.prog 40 #[.agg #[.int .i64 s1, .int .i64 s2, .int .i64 s3, .int .i64 s4], .agg #[.int .i64 t1, .int .i64 t2, .int .i64 t3, .int .i64 t4]] w fun e w' => e = .returned (.bool false) ∧ Below w.heap.size w w' := by
  go_enter Try.func40, Try.ntmps40
  go_wp2_with fail
  refine (HM.out _).mono ?_
  rintro e w1 ⟨rfl, hb⟩
  have kn0 : Blk w1 (w.heap.size) #[.int .i64 s1, .int .i64 s2, .int .i64 s3, .int .i64 s4] 30 := Blk.later hb (by (repeat' (first | (with_reducible assumption) | (with_reducible refine Blk.set2 ?_) | ((with_reducible refine Blk.new ?_); first | rfl | (simp; done)) | (with_reducible refine Blk.later (by assumption) ?_) | (with_reducible refine Blk.alloc ?_) | (with_reducible refine Blk.drewN ?_) | (with_reducible refine Blk.drew ?_) | (with_reducible refine Blk.other ?_ (by first | omega | (simp; done) | (simp; omega))))))
  have kn1 : Blk w1 (w.heap.size + 1) #[.int .i64 t1, .int .i64 t2, .int .i64 t3, .int .i64 t4] 30 := Blk.later hb (by (repeat' (first | (with_reducible assumption) | (with_reducible refine Blk.set2 ?_) | ((with_reducible refine Blk.new ?_); first | rfl | (simp; done)) | (with_reducible refine Blk.later (by assumption) ?_) | (with_reducible refine Blk.alloc ?_) | (with_reducible refine Blk.drewN ?_) | (with_reducible refine Blk.drew ?_) | (with_reducible refine Blk.other ?_ (by first | omega | (simp; done) | (simp; omega))))))
  have k0 := kn0; clear kn0; obtain ⟨a0, b0⟩ := k0.read; have y0 := k0.lt
  have k1 := kn1; clear kn1; obtain ⟨a1, b1⟩ := k1.read; have y1 := k1.lt
  have hBw : Below w.heap.size w w1 := by (repeat' (first | (with_reducible exact Below.refl _ _) | (with_reducible assumption) | (with_reducible refine belowThru ?_ (by assumption)) | (with_reducible refine belowAlloc ?_) | (with_reducible refine Below.setCell ?_ (by first | omega | (simp; done) | (simp; omega)) _) | (with_reducible refine Below.drew ?_) | (with_reducible refine below_drewN ?_ _)))
  have hzw1 := hBw.size
  clear hb
  go_wp2_with fail
  all_goals
    go_ret
    exact ⟨rfl, by (repeat' (first | (with_reducible exact Below.refl _ _) | (with_reducible assumption) | (with_reducible refine belowThru ?_ (by assumption)) | (with_reducible refine belowAlloc ?_) | (with_reducible refine Below.setCell ?_ (by first | omega | (simp; done) | (simp; omega)) _) | (with_reducible refine Below.drew ?_) | (with_reducible refine below_drewN ?_ _)))⟩
theorem inside_q (l h m n : Rat) (fl : fits l) (fh : fits h) (fm : fits m) (fn' : fits n) (hlh : l ≤ h) (hmn : m ≤ n) (w : World) :
    Calls Try.prog 40 #[.agg #[.int .i64 (fn l), .int .i64 (fd l), .int .i64 (fn h), .int .i64 (fd h)], .agg #[.int .i64 (fn m), .int .i64 (fd m), .int .i64 (fn n), .int .i64 (fd n)]] w fun e w' => e = .returned (.bool (decide (m ≤ l ∧ h ≤ n))) ∧ Below w.heap.size w w' := by
  obtain ⟨A, B, C, D, E, HM, hm⟩ := meet_q l h m n fl fh fm fn' hlh hmn
  rcases hm with ⟨rfl, hn⟩ | ⟨rfl, hc, rfl, rfl, rfl, rfl⟩
  · rw [decide_eq_false (fun k => hn (Rat.le_trans ((hi1 l m l).2 ⟨Rat.le_refl, k.1⟩) ((lo1 h n l).2 ⟨hlh, Rat.le_trans hlh k.2⟩)))]
    exact inside_none _ _ _ _ _ _ _ _ A B C D 6 w rfl HM
  · have e1 : m ≤ l → hiQ l [m] = l := fun k => by
      unfold hiQ; simp only [List.foldl_cons, List.foldl_nil]; exact if_neg (Rat.not_lt.2 k)
    have e2 : h ≤ n → loQ h [n] = h := fun k => by
      unfold loQ; simp only [List.foldl_cons, List.foldl_nil]; exact if_neg (Rat.not_lt.2 k)
    by_cases k : m ≤ l ∧ h ≤ n
    · rw [decide_eq_true k]
      rw [e1 k.1, e2 k.2] at HM
      exact inside_yes _ _ _ _ _ _ _ _ w HM
    · rw [decide_eq_false k]
      refine inside_no _ _ _ _ _ _ _ _ _ _ _ _ w (fun g => ?_) HM
      have q1 : hiQ l [m] = l := q_ext g.1 g.2.1
      have q2 : loQ h [n] = h := q_ext g.2.2.1 g.2.2.2
      exact k ⟨((hi1 l m l).1 (by rw [q1]; exact Rat.le_refl)).2, ((lo1 h n h).1 (by rw [q2]; exact Rat.le_refl)).2⟩
end Go.Proofs.Ytdimmnoflenfhaa
/-
  Layer 5: the end of a span that the law GaugeMeets takes.
-/
namespace Go.Proofs.Ytdimmnoflenfhaa
open Go.RowKit Go.Shelf
set_option linter.unusedVariables false
set_option linter.unusedSimpArgs false

set_option maxRecDepth 100000 in
set_option maxHeartbeats 16000000 in
theorem one_0 (l1 l2 h1 h2 p1 p2 n : Int) (B : Nat) (w : World) (hc : w.cell? ⟨B, 0, none⟩ = some (.int .u8 n)) (hv : ((n.tmod 2 == 1) = true ∧ p1 = h1 ∧ p2 = h2) ∨ ((n.tmod 2 == 1) = false ∧ p1 = l1 ∧ p2 = l2)) :
    Calls Try.prog 39 #[.agg #[.int .i64 l1, .int .i64 l2, .int .i64 h1, .int .i64 h2], .int .i64 0, .pointer (some ⟨B, 0, none⟩)] w fun e w' => e = .returned (.agg #[.int .i64 p1, .int .i64 p2, .int .i64 p1, .int .i64 p2]) ∧ Below w.heap.size w w' := by
  have hb := lt_of_cell hc
  have hc := cell_alloc (o := .cells #[.int .i64 l1, .int .i64 l2, .int .i64 h1, .int .i64 h2] 30) hc
  have hc := cell_alloc (o := .cells #[.int .i64 0, .int .i64 0, .int .i64 0, .int .i64 0] 30) hc
  rcases hv with ⟨hv, rfl, rfl⟩ | ⟨hv, rfl, rfl⟩
  all_goals (
    go_enter Try.func39, Try.ntmps39
    go_wp2_with fail
    exact bodyPost_ret (v := .agg #[.int .i64 p1, .int .i64 p2, .int .i64 p1, .int .i64 p2]) (by simp only [results, Try.results39]; go_simp) rfl ⟨rfl, by (repeat' (first | (with_reducible exact Below.refl _ _) | (with_reducible assumption) | (with_reducible refine belowThru ?_ (by assumption)) | (with_reducible refine belowAlloc ?_) | (with_reducible refine Below.setCell ?_ (by first | omega | (simp; done) | (simp; omega)) _) | (with_reducible refine Below.drew ?_) | (with_reducible refine below_drewN ?_ _)))⟩)
set_option maxRecDepth 100000 in
set_option maxHeartbeats 16000000 in
theorem one_1 (l1 l2 h1 h2 p1 p2 n : Int) (B : Nat) (w : World) (hc : w.cell? ⟨B, 0, none⟩ = some (.int .u8 n)) (hv : (((n / 2).tmod 2 == 1) = true ∧ p1 = h1 ∧ p2 = h2) ∨ (((n / 2).tmod 2 == 1) = false ∧ p1 = l1 ∧ p2 = l2)) :
    Calls Try.prog 39 #[.agg #[.int .i64 l1, .int .i64 l2, .int .i64 h1, .int .i64 h2], .int .i64 1, .pointer (some ⟨B, 0, none⟩)] w fun e w' => e = .returned (.agg #[.int .i64 p1, .int .i64 p2, .int .i64 p1, .int .i64 p2]) ∧ Below w.heap.size w w' := by
  have hb := lt_of_cell hc
  have hc := cell_alloc (o := .cells #[.int .i64 l1, .int .i64 l2, .int .i64 h1, .int .i64 h2] 30) hc
  have hc := cell_alloc (o := .cells #[.int .i64 0, .int .i64 0, .int .i64 0, .int .i64 0] 30) hc
  rcases hv with ⟨hv, rfl, rfl⟩ | ⟨hv, rfl, rfl⟩
  all_goals (
    go_enter Try.func39, Try.ntmps39
    go_wp2_with fail
    exact bodyPost_ret (v := .agg #[.int .i64 p1, .int .i64 p2, .int .i64 p1, .int .i64 p2]) (by simp only [results, Try.results39]; go_simp) rfl ⟨rfl, by (repeat' (first | (with_reducible exact Below.refl _ _) | (with_reducible assumption) | (with_reducible refine belowThru ?_ (by assumption)) | (with_reducible refine belowAlloc ?_) | (with_reducible refine Below.setCell ?_ (by first | omega | (simp; done) | (simp; omega)) _) | (with_reducible refine Below.drew ?_) | (with_reducible refine below_drewN ?_ _)))⟩)
set_option maxRecDepth 100000 in
set_option maxHeartbeats 16000000 in
theorem one_2 (l1 l2 h1 h2 p1 p2 n : Int) (B : Nat) (w : World) (hc : w.cell? ⟨B, 0, none⟩ = some (.int .u8 n)) (hv : (((n / 4).tmod 2 == 1) = true ∧ p1 = h1 ∧ p2 = h2) ∨ (((n / 4).tmod 2 == 1) = false ∧ p1 = l1 ∧ p2 = l2)) :
    Calls Try.prog 39 #[.agg #[.int .i64 l1, .int .i64 l2, .int .i64 h1, .int .i64 h2], .int .i64 2, .pointer (some ⟨B, 0, none⟩)] w fun e w' => e = .returned (.agg #[.int .i64 p1, .int .i64 p2, .int .i64 p1, .int .i64 p2]) ∧ Below w.heap.size w w' := by
  have hb := lt_of_cell hc
  have hc := cell_alloc (o := .cells #[.int .i64 l1, .int .i64 l2, .int .i64 h1, .int .i64 h2] 30) hc
  have hc := cell_alloc (o := .cells #[.int .i64 0, .int .i64 0, .int .i64 0, .int .i64 0] 30) hc
  rcases hv with ⟨hv, rfl, rfl⟩ | ⟨hv, rfl, rfl⟩
  all_goals (
    go_enter Try.func39, Try.ntmps39
    go_wp2_with fail
    exact bodyPost_ret (v := .agg #[.int .i64 p1, .int .i64 p2, .int .i64 p1, .int .i64 p2]) (by simp only [results, Try.results39]; go_simp) rfl ⟨rfl, by (repeat' (first | (with_reducible exact Below.refl _ _) | (with_reducible assumption) | (with_reducible refine belowThru ?_ (by assumption)) | (with_reducible refine belowAlloc ?_) | (with_reducible refine Below.setCell ?_ (by first | omega | (simp; done) | (simp; omega)) _) | (with_reducible refine Below.drew ?_) | (with_reducible refine below_drewN ?_ _)))⟩)
set_option maxRecDepth 100000 in
set_option maxHeartbeats 16000000 in
theorem one_3 (l1 l2 h1 h2 p1 p2 n : Int) (B : Nat) (w : World) (hc : w.cell? ⟨B, 0, none⟩ = some (.int .u8 n)) (hv : (((n / 8).tmod 2 == 1) = true ∧ p1 = h1 ∧ p2 = h2) ∨ (((n / 8).tmod 2 == 1) = false ∧ p1 = l1 ∧ p2 = l2)) :
    Calls Try.prog 39 #[.agg #[.int .i64 l1, .int .i64 l2, .int .i64 h1, .int .i64 h2], .int .i64 3, .pointer (some ⟨B, 0, none⟩)] w fun e w' => e = .returned (.agg #[.int .i64 p1, .int .i64 p2, .int .i64 p1, .int .i64 p2]) ∧ Below w.heap.size w w' := by
  have hb := lt_of_cell hc
  have hc := cell_alloc (o := .cells #[.int .i64 l1, .int .i64 l2, .int .i64 h1, .int .i64 h2] 30) hc
  have hc := cell_alloc (o := .cells #[.int .i64 0, .int .i64 0, .int .i64 0, .int .i64 0] 30) hc
  rcases hv with ⟨hv, rfl, rfl⟩ | ⟨hv, rfl, rfl⟩
  all_goals (
    go_enter Try.func39, Try.ntmps39
    go_wp2_with fail
    exact bodyPost_ret (v := .agg #[.int .i64 p1, .int .i64 p2, .int .i64 p1, .int .i64 p2]) (by simp only [results, Try.results39]; go_simp) rfl ⟨rfl, by (repeat' (first | (with_reducible exact Below.refl _ _) | (with_reducible assumption) | (with_reducible refine belowThru ?_ (by assumption)) | (with_reducible refine belowAlloc ?_) | (with_reducible refine Below.setCell ?_ (by first | omega | (simp; done) | (simp; omega)) _) | (with_reducible refine Below.drew ?_) | (with_reducible refine below_drewN ?_ _)))⟩)
end Go.Proofs.Ytdimmnoflenfhaa
