/-
  GaugeMeets is true for any two lines.
-/
import Derived.Test.YtdimmnoflenfhaaM9
import Derived.Test.YtdimmnoflenfhaaQGLawMee
namespace Go.Proofs.Ytdimmnoflenfhaa
open Go.RowKit Go.Shelf
set_option linter.unusedVariables false
set_option linter.unusedSimpArgs false

theorem pick (l h : Rat) (fl : fits l) (fh : fits h) (o : l ≤ h) (b : Bool) : ∃ P : Rat, fits P ∧ In1 l h P ∧ ((b = true ∧ fn P = fn h ∧ fd P = fd h) ∨ (b = false ∧ fn P = fn l ∧ fd P = fd l)) := by
  cases b
  · exact ⟨l, fl, ⟨Rat.le_refl, o⟩, .inr ⟨rfl, rfl, rfl⟩⟩
  · exact ⟨h, fh, ⟨o, Rat.le_refl⟩, .inl ⟨rfl, rfl, rfl⟩⟩
set_option maxRecDepth 100000 in
set_option maxHeartbeats 16000000 in
theorem lawMee_true (f1 f2 f3 f4 c1 c2 c3 c4 g1 g2 g3 g4 h1 h2 h3 h4 n : Int) (w : World) :
    Calls Try.prog 8 #[.agg #[.int .i64 f1, .int .i64 f2, .int .i64 f3, .int .i64 f4, .int .i64 c1, .int .i64 c2, .int .i64 c3, .int .i64 c4], .agg #[.int .i64 g1, .int .i64 g2, .int .i64 g3, .int .i64 g4, .int .i64 h1, .int .i64 h2, .int .i64 h3, .int .i64 h4], .int .u8 n] w fun e w' => e = .returned (.bool true) ∧ Below w.heap.size w w' := by
  by_cases hv : okS f1 f2 f3 f4 ∧ okS c1 c2 c3 c4 ∧ okS g1 g2 g3 g4 ∧ okS h1 h2 h3 h4
  · obtain ⟨⟨fl, fh, flf, fhf, rfl, rfl, rfl, rfl, oF⟩, ⟨cl, ch, clf, chf, rfl, rfl, rfl, rfl, oC⟩, ⟨gl, gh, glf, ghf, rfl, rfl, rfl, rfl, oG⟩, ⟨hl, hh, hlf, hhf, rfl, rfl, rfl, rfl, oH⟩⟩ := hv
    obtain ⟨x1, x2, x3, x4, y1, y2, y3, y4, E, hA, -, hE⟩ := corner_c fl fh cl ch gl gh hl hh flf fhf clf chf glf ghf hlf hhf oF oC oG oH
    rcases hE with rfl | ⟨rfl, -⟩ | ⟨rfl, dl, dh, p1, p2, q1, q2, di, hz, od, pf1, pf2, po, qf1, qf2, qo, cp, cq, rfl, rfl, rfl, rfl, rfl, rfl, rfl, rfl⟩
    · exact meets_1 (fn fl) (fd fl) (fn fh) (fd fh) (fn cl) (fd cl) (fn ch) (fd ch) (fn gl) (fd gl) (fn gh) (fd gh) (fn hl) (fd hl) (fn hh) (fd hh) x1 x2 x3 x4 y1 y2 y3 y4 n 4 w rfl (Lib.hid hA)
    · exact meets_1 (fn fl) (fd fl) (fn fh) (fd fh) (fn cl) (fd cl) (fn ch) (fd ch) (fn gl) (fd gl) (fn gh) (fd gh) (fn hl) (fd hl) (fn hh) (fd hh) x1 x2 x3 x4 y1 y2 y3 y4 n 6 w rfl (Lib.hid hA)
    · obtain ⟨P, Pf, iP, kP⟩ := pick fl fh flf fhf oF (n.tmod 2 == 1)
      obtain ⟨Q, Qf, iQ, kQ⟩ := pick cl ch clf chf oC ((n / 2).tmod 2 == 1)
      obtain ⟨R, Rf, iR, kR⟩ := pick gl gh glf ghf oG ((n / 4).tmod 2 == 1)
      obtain ⟨S, Sf, iS, kS⟩ := pick hl hh hlf hhf oH ((n / 8).tmod 2 == 1)
      have O0 := Lib.hid fun (B : Nat) (w : World) (hc : w.cell? ⟨B, 0, none⟩ = some (.int .u8 n)) => one_0 (fn fl) (fd fl) (fn fh) (fd fh) (fn P) (fd P) n B w hc kP
      have O1 := Lib.hid fun (B : Nat) (w : World) (hc : w.cell? ⟨B, 0, none⟩ = some (.int .u8 n)) => one_1 (fn cl) (fd cl) (fn ch) (fd ch) (fn Q) (fd Q) n B w hc kQ
      have O2 := Lib.hid fun (B : Nat) (w : World) (hc : w.cell? ⟨B, 0, none⟩ = some (.int .u8 n)) => one_2 (fn gl) (fd gl) (fn gh) (fd gh) (fn R) (fd R) n B w hc kR
      have O3 := Lib.hid fun (B : Nat) (w : World) (hc : w.cell? ⟨B, 0, none⟩ = some (.int .u8 n)) => one_3 (fn hl) (fd hl) (fn hh) (fd hh) (fn S) (fd S) n B w hc kS
      obtain ⟨u1, u2, u3, u4, v1, v2, v3, v4, E2, hB, -, hE2⟩ := corner_c P P Q Q R R S S Pf Pf Qf Qf Rf Rf Sf Sf Rat.le_refl Rat.le_refl Rat.le_refl Rat.le_refl
      rcases hE2 with rfl | ⟨rfl, e1, e2, de, z1, z2⟩ | ⟨rfl, e1, e2, a1, a2, b1, b2, de, ez, eo, af1, af2, ao, bf1, bf2, bo, ca, cb, rfl, rfl, rfl, rfl, rfl, rfl, rfl, rfl⟩
      · exact meets_2 (fn fl) (fd fl) (fn fh) (fd fh) (fn cl) (fd cl) (fn ch) (fd ch) (fn gl) (fd gl) (fn gh) (fd gh) (fn hl) (fd hl) (fn hh) (fd hh) (fn p1) (fd p1) (fn p2) (fd p2) (fn q1) (fd q1) (fn q2) (fd q2) n (fn P) (fd P) (fn Q) (fd Q) (fn R) (fd R) (fn S) (fd S) u1 u2 u3 u4 v1 v2 v3 v4 w (Lib.hid hA) O0 O1 O2 O3 (Lib.hid hB)
      · obtain ⟨e, i⟩ := di_in di de iP iR
        subst e
        exact absurd ⟨Rat.le_trans i.1 z1, Rat.le_trans z2 i.2⟩ hz
      · obtain ⟨e, i⟩ := di_in di de iP iR
        obtain ⟨ea, ia⟩ := co_in cp ca e iP iQ iS i
        obtain ⟨eb, ib⟩ := co_in cq cb e iR iS iQ i
        subst ea
        subst eb
        have I1 := fun w => inside_q a1 a1 p1 p2 af1 af1 pf1 pf2 Rat.le_refl po w
        have I2 := fun w => inside_q b1 b1 q1 q2 bf1 bf1 qf1 qf2 Rat.le_refl qo w
        rw [decide_eq_true (p := p1 ≤ a1 ∧ a1 ≤ p2) ia] at I1
        rw [decide_eq_true (p := q1 ≤ b1 ∧ b1 ≤ q2) ib] at I2
        exact meets_3 (fn fl) (fd fl) (fn fh) (fd fh) (fn cl) (fd cl) (fn ch) (fd ch) (fn gl) (fd gl) (fn gh) (fd gh) (fn hl) (fd hl) (fn hh) (fd hh) (fn p1) (fd p1) (fn p2) (fd p2) (fn q1) (fd q1) (fn q2) (fd q2) n (fn P) (fd P) (fn Q) (fd Q) (fn R) (fd R) (fn S) (fd S) (fn a1) (fd a1) (fn b1) (fd b1) w (Lib.hid hA) O0 O1 O2 O3 (Lib.hid hB) (Lib.hid I1) (Lib.hid I2)
  · refine meets_1 f1 f2 f3 f4 c1 c2 c3 c4 g1 g2 g3 g4 h1 h2 h3 h4 0 0 0 0 0 0 0 0 n 8 w rfl (Lib.hid fun w => corner_bad f1 f2 f3 f4 c1 c2 c3 c4 g1 g2 g3 g4 h1 h2 h3 h4 0 0 0 0 0 0 0 0 0 0 0 0 0 0 0 0 0 (ckS f1 f2 f3 f4) (ckS c1 c2 c3 c4) (ckS g1 g2 g3 g4) (ckS h1 h2 h3 h4) 0 0 0 0 0 0 0 0 w (Lib.hid fun h => hv ?_) (Lib.hid (checkSpan_any f1 f2 f3 f4)) (Lib.hid (checkSpan_any c1 c2 c3 c4)) (Lib.hid (checkSpan_any g1 g2 g3 g4)) (Lib.hid (checkSpan_any h1 h2 h3 h4)))
    have ok : ∀ a b c d : Int, ckS a b c d = 0 → okS a b c d := fun a b c d h => by
      rcases ckS_cases a b c d with ⟨k, -⟩ | ⟨-, k⟩
      · exact k
      · rw [k] at h; cases h
    exact ⟨ok _ _ _ _ h.1, ok _ _ _ _ h.2.1, ok _ _ _ _ h.2.2.1, ok _ _ _ _ h.2.2.2⟩
end Go.Proofs.Ytdimmnoflenfhaa
