/-
  Layer 9: the track of the chapter's examples.
-/
import Derived.Test.YtnkpejinnbiocaaVApi
namespace Go.Proofs.Ytnkpejinnbiocaa
open Go.RowKit Go.Shelf
set_option linter.unusedVariables false
set_option linter.unusedSimpArgs false


set_option maxRecDepth 100000 in
set_option maxHeartbeats 16000000 in
theorem ten_any (w : World) :
    Calls Try.prog 54 #[] w fun e w' => e = .returned (.agg #[.int .i64 10, .int .i64 2, .int .i64 60, .int .i64 20]) ∧ Below w.heap.size w w' := by
  go_enter Try.func54, Try.ntmps54
  go_wp2_with fail
  have k : Blk (w.alloc (.cells #[.int .i64 10, .int .i64 2, .int .i64 60, .int .i64 20] 23)) w.heap.size #[.int .i64 10, .int .i64 2, .int .i64 60, .int .i64 20] 23 := Blk.new rfl
  have q2 := k.cells
  exact bodyPost_ret (v := .agg #[.int .i64 10, .int .i64 2, .int .i64 60, .int .i64 20]) (by simp only [results, Try.results54]; go_simp) rfl ⟨rfl, by (repeat' (first | (with_reducible exact Below.refl _ _) | (with_reducible assumption) | (with_reducible refine belowThru ?_ (by assumption)) | (with_reducible refine belowAlloc ?_) | (with_reducible refine Below.setCell ?_ (by first | omega | (simp; done) | (simp; omega)) _) | (with_reducible refine Below.drew ?_) | (with_reducible refine below_drewN ?_ _)))⟩
theorem ten_new (w : World) : Calls Try.prog 8 #[.agg #[.int .i64 10, .int .i64 2, .int .i64 60, .int .i64 20]] w fun e w' => e = .returned (.tuple #[.agg #[.int .i64 10, .int .i64 2, .int .i64 60, .int .i64 20, .int .i64 0, .int .i64 0, .slice none 0 0], .int .i64 0]) ∧ Below w.heap.size w w' := by
  have h := new_any 10 2 60 20 w
  rw [if_pos (by decide : okB 10 2 60 20), show ckB 10 2 60 20 = 0 from if_pos (by decide)] at h
  exact h
theorem ten_sense (w : World) : Calls Try.prog 10 #[.agg #[.int .i64 10, .int .i64 2, .int .i64 60, .int .i64 20, .int .i64 0, .int .i64 0, .slice none 0 0]] w fun e w' => (∃ v, e = .returned (.tuple #[.agg #[.int .i64 10, .int .i64 2, .int .i64 60, .int .i64 20, .int .i64 0, .int .i64 1, v], .int .i64 0, .int .i64 0]) ∧ OwnK 43 4 sn1 w.heap.size w' v [(0, 0, 0, false)]) ∧ Below w.heap.size w w' :=
  sense_ok (s := 10) (p := 2) (g := 60) (l := 20) (c := 0) (nx := 0) (a := none) (n := 0) (cap := 0) (xs := []) (by decide) (by decide) (by decide) (fun x h => by cases h) (Nat.le_refl _) w (RowK.nil _ _)
set_option maxRecDepth 100000 in
set_option maxHeartbeats 16000000 in
theorem run_walk (NI : Int) (ys : List Sn) (w : World) (hN : decide ((0 : Int) < NI) = true) (hy : ys.length = 1)
    (HA : Hid (∀ (a : Option Addr) (cap : Nat) (w : World), RowK 4 sn1 w a 1 [(0, 0, 0, false)] → Calls Try.prog 19 #[.agg #[.int .i64 10, .int .i64 2, .int .i64 60, .int .i64 20, .int .i64 0, .int .i64 1, .slice a 1 cap], .int .i64 NI] w fun e w' => (∃ v uf, e = .returned (.tuple #[.agg #[.int .i64 10, .int .i64 2, .int .i64 60, .int .i64 20, .int .i64 NI, .int .i64 1, v], uf, .int .i64 0]) ∧ OwnK 43 4 sn1 w.heap.size w' v ys) ∧ Below w.heap.size w w')) :
    Calls Try.prog 55 #[.int .i64 NI] w fun e w' => (∃ a cap, e = .returned (.agg #[.int .i64 10, .int .i64 2, .int .i64 60, .int .i64 20, .int .i64 NI, .int .i64 1, .slice a 1 cap]) ∧ OwnK 43 4 sn1 w.heap.size w' (.slice a 1 cap) ys) ∧ Below w.heap.size w w' := by
  have HT := Lib.hid ten_any
  have HN := Lib.hid ten_new
  have HS := Lib.hid ten_sense
  have HY := Lib.hid hy
  clear hy
  go_enter Try.func55, Try.ntmps55
  go_wp2_with fail
  refine (HT.out _).mono ?_
  rintro e w1 ⟨rfl, hb⟩
  have kR : Blk w1 w.heap.size #[.int .i64 0, .int .i64 0, .int .i64 0, .int .i64 0, .int .i64 0, .int .i64 0, .slice none 0 0] 26 := Blk.later hb (Blk.new rfl)
  have hB : Below w.heap.size w w1 := belowThru (belowAlloc (Below.refl _ _)) hb
  clear hb
  go_wp2_with fail
  refine (HN.out _).mono ?_
  rintro e w2 ⟨rfl, hb⟩
  replace kR := Blk.later hb kR; replace hB := belowThru hB hb
  clear hb
  have yR := kR.lt
  go_wp2_with fail
  obtain ⟨W1, hW1⟩ : ∃ W, w2.alloc (.cells #[.int .i64 10, .int .i64 2, .int .i64 60, .int .i64 20, .int .i64 0, .int .i64 0, .slice none 0 0] 26) = W := ⟨_, rfl⟩
  obtain ⟨bT, hbT⟩ : ∃ b, w2.heap.size = b := ⟨_, rfl⟩
  have kT : Blk W1 bT #[.int .i64 10, .int .i64 2, .int .i64 60, .int .i64 20, .int .i64 0, .int .i64 0, .slice none 0 0] 26 := by rw [← hW1, ← hbT]; exact Blk.new rfl
  replace kR : Blk W1 w.heap.size #[.int .i64 0, .int .i64 0, .int .i64 0, .int .i64 0, .int .i64 0, .int .i64 0, .slice none 0 0] 26 := by rw [← hW1]; exact kR.alloc
  replace hB : Below w.heap.size w W1 := by rw [← hW1]; exact belowAlloc hB
  have hne : w.heap.size ≠ bT := by omega
  have hle : w.heap.size ≤ bT := by omega
  rw [hW1, hbT]
  clear hW1 hbT yR
  refine (HS.out _).mono ?_
  rintro e w3 ⟨⟨v1, rfl, hO⟩, hb⟩
  replace kR := Blk.later hb kR; replace kT := Blk.later hb kT; replace hO := hO.mono hB.size; replace hB := belowThru hB hb
  clear hb
  obtain ⟨a3, c3, e3, hR3, -⟩ := hO.row elem_sn
  have e3 : v1 = .slice a3 1 c3 := e3
  subst e3
  obtain ⟨aT, bT2⟩ := kT.read; have yT := kT.lt
  have kT4 := kT.set7 (.int .i64 10) (.int .i64 2) (.int .i64 60) (.int .i64 20) (.int .i64 0) (.int .i64 1) (.slice a3 1 c3)
  have kR4 := (((((((Blk.other kR hne : Blk (w3.setCell ⟨bT, 0, none⟩ (.int .i64 10)) _ _ _).other hne : Blk (World.setCell _ ⟨bT, 1, none⟩ (.int .i64 2)) _ _ _).other hne : Blk (World.setCell _ ⟨bT, 2, none⟩ (.int .i64 60)) _ _ _).other hne : Blk (World.setCell _ ⟨bT, 3, none⟩ (.int .i64 20)) _ _ _).other hne : Blk (World.setCell _ ⟨bT, 4, none⟩ (.int .i64 0)) _ _ _).other hne : Blk (World.setCell _ ⟨bT, 5, none⟩ (.int .i64 1)) _ _ _).other hne : Blk (World.setCell _ ⟨bT, 6, none⟩ (.slice a3 1 c3)) _ _ _)
  have hO4 := Lib.hid (hO.other7 (b := bT) (.int .i64 10) (.int .i64 2) (.int .i64 60) (.int .i64 20) (.int .i64 0) (.int .i64 1) (.slice a3 1 c3) (hO.ne kT (by decide)))
  have hB4 : Below w.heap.size w (((((((w3.setCell ⟨bT, 0, none⟩ (.int .i64 10)).setCell ⟨bT, 1, none⟩ (.int .i64 2)).setCell ⟨bT, 2, none⟩ (.int .i64 60)).setCell ⟨bT, 3, none⟩ (.int .i64 20)).setCell ⟨bT, 4, none⟩ (.int .i64 0)).setCell ⟨bT, 5, none⟩ (.int .i64 1)).setCell ⟨bT, 6, none⟩ (.slice a3 1 c3)) := ((((((hB.setCell hle _).setCell hle _).setCell hle _).setCell hle _).setCell hle _).setCell hle _).setCell hle _
  clear hO hR3
  go_wp2_with fail
  clear aT bT2 yT
  obtain ⟨W4, hW4⟩ : ∃ W, (((((((w3.setCell ⟨bT, 0, none⟩ (.int .i64 10)).setCell ⟨bT, 1, none⟩ (.int .i64 2)).setCell ⟨bT, 2, none⟩ (.int .i64 60)).setCell ⟨bT, 3, none⟩ (.int .i64 20)).setCell ⟨bT, 4, none⟩ (.int .i64 0)).setCell ⟨bT, 5, none⟩ (.int .i64 1)).setCell ⟨bT, 6, none⟩ (.slice a3 1 c3)) = W := ⟨_, rfl⟩
  rw [hW4] at kT4 kR4 hO4 hB4 ⊢
  clear hW4 kT kR hB
  have hr4 : RowK 4 sn1 W4 a3 1 [(0, 0, 0, false)] := by
    obtain ⟨a, c, e, hr, -⟩ := hO4.out.row elem_sn
    have e : Value.slice a3 1 c3 = Value.slice a 1 c := e
    cases e
    exact hr
  refine (HA.out a3 c3 W4 hr4).mono ?_
  rintro e w5 ⟨⟨v5, uf, rfl, hO5⟩, hb⟩
  replace kR4 := Blk.later hb kR4; replace kT4 := Blk.later hb kT4; replace hO5 := hO5.mono hB4.size; replace hB4 := belowThru hB4 hb
  clear hb hr4 hO4
  obtain ⟨a6, c6, e6, -⟩ := hO5.row elem_sn
  rw [HY.out] at e6
  subst e6
  obtain ⟨aT, bT2⟩ := kT4.read; have yT := kT4.lt
  obtain ⟨aR, bR⟩ := kR4.read; have yR := kR4.lt
  have hO6 := Lib.hid ((hO5.other7 (b := bT) (.int .i64 10) (.int .i64 2) (.int .i64 60) (.int .i64 20) (.int .i64 NI) (.int .i64 1) (.slice a6 1 c6) (hO5.ne kT4 (by decide))).other7 (b := w.heap.size) (.int .i64 10) (.int .i64 2) (.int .i64 60) (.int .i64 20) (.int .i64 NI) (.int .i64 1) (.slice a6 1 c6) (hO5.ne kR4 (by decide)))
  have kR6 := (((((((Blk.other kR4 hne : Blk (w5.setCell ⟨bT, 0, none⟩ (.int .i64 10)) _ _ _).other hne : Blk (World.setCell _ ⟨bT, 1, none⟩ (.int .i64 2)) _ _ _).other hne : Blk (World.setCell _ ⟨bT, 2, none⟩ (.int .i64 60)) _ _ _).other hne : Blk (World.setCell _ ⟨bT, 3, none⟩ (.int .i64 20)) _ _ _).other hne : Blk (World.setCell _ ⟨bT, 4, none⟩ (.int .i64 NI)) _ _ _).other hne : Blk (World.setCell _ ⟨bT, 5, none⟩ (.int .i64 1)) _ _ _).other hne : Blk (World.setCell _ ⟨bT, 6, none⟩ (.slice a6 1 c6)) _ _ _)
  have q2 := (kR6.set7 (.int .i64 10) (.int .i64 2) (.int .i64 60) (.int .i64 20) (.int .i64 NI) (.int .i64 1) (.slice a6 1 c6)).cells
  have hB6 := Lib.hid (((((((hB4.setCell (p := ⟨bT, 0, none⟩) hle (.int .i64 10)).setCell (p := ⟨bT, 1, none⟩) hle (.int .i64 2)).setCell (p := ⟨bT, 2, none⟩) hle (.int .i64 60)).setCell (p := ⟨bT, 3, none⟩) hle (.int .i64 20)).setCell (p := ⟨bT, 4, none⟩) hle (.int .i64 NI)).setCell (p := ⟨bT, 5, none⟩) hle (.int .i64 1)).setCell (p := ⟨bT, 6, none⟩) hle (.slice a6 1 c6))
  have hlr : w.heap.size ≤ w.heap.size := Nat.le_refl _
  clear hO5 kR6
  go_wp2_with fail
  exact bodyPost_ret (v := .agg #[.int .i64 10, .int .i64 2, .int .i64 60, .int .i64 20, .int .i64 NI, .int .i64 1, .slice a6 1 c6]) (by simp only [results, Try.results55]; go_simp) rfl ⟨⟨_, _, rfl, hO6.out⟩, ((((((hB6.out.setCell hlr _).setCell hlr _).setCell hlr _).setCell hlr _).setCell hlr _).setCell hlr _).setCell hlr _⟩
end Go.Proofs.Ytnkpejinnbiocaa
