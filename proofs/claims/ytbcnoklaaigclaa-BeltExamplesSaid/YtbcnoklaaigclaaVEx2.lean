/-
  The law BeltExamples.
-/
import Derived.Test.YtbcnoklaaigclaaVEx1
namespace Go.Proofs.Ytbcnoklaaigclaa
open Go.RowKit Go.Shelf
set_option linter.unusedVariables false
set_option linter.unusedSimpArgs false


theorem rdL_one {w : World} {g g1 : Nat} {c1 : Nat} {y : List Int} (k : Blk w g #[.slice (some ⟨g1, 0, none⟩) y.length c1] 31) (k1 : Blk w g1 (ints y) 3) : RdL w (some ⟨g, 0, none⟩) 1 [y] := by
  refine ⟨[(some ⟨g1, 0, none⟩, y.length, c1)], ⟨rfl, fun _ => ⟨g, 0, rfl, k.lt, fun j x hx i v hv => ?_⟩⟩, rfl, fun i h y' hi hy => ?_⟩
  · have hi : i = 0 := by
      rcases i with _ | i
      · rfl
      · simp [sl1] at hv
    subst hi
    rcases j with _ | j
    · simp at hx; subst hx
      rw [k.cells]; simpa [sl1, slv] using hv
    · simp at hx
  · rcases i with _ | i
    · simp at hi hy; subst hi; subst hy
      exact rowC k1
    · simp at hi
set_option maxRecDepth 100000 in
set_option maxHeartbeats 16000000 in
theorem examples_true (w : World) :
    Calls Try.prog 3 #[] w fun e w' => e = .returned (.bool true) ∧ Below w.heap.size w w' := by
  have HT := Lib.hid ten_any
  have HW1 := e_win 24 2 6 0 g_w.1
  have HRe := e_rea
  have HW0 := e_win 0 0 0 2 g_w.2.1
  have HM1 := e_mat 3 2 3 2 [0, 10, 30] [100, 118] rfl rfl (by decide) (by decide) (by decide) _ 1 rfl (by decide) g_m1
  have HM2 := e_mat 3 0 3 0 [0, 10, 30] [] rfl rfl (by decide) (by decide) (by decide) _ 1 rfl (by decide) g_m2
  have HM3 := e_mat3
  have HA := Lib.hid alive_true
  have HR0 := Lib.hid run_zero
  have HT1 := e_t1
  have HA6 := adv_n 6 6 0 6 1 _ _ _ rfl (by decide) (by decide) (by decide) g_a6.1 g_a6.2
  have HS1 := e_s1
  have HT2 := e_t2
  have HS2 := e_s2
  have HA5 := adv_n 5 5 6 11 2 _ _ _ rfl (by decide) (by decide) (by decide) g_a5.1 g_a5.2
  have HA7 := adv_n 6 6 11 17 2 _ _ _ rfl (by decide) (by decide) (by decide) g_a7.1 g_a7.2
  have HTn := e_tn
  have HTa := e_ta
  have HCB := e_cb
  have HCT := e_ct
  go_enter Try.func3, Try.ntmps3
  go_wp2_with fail
  refine (HT.out _).mono ?_
  rintro e w1 ⟨rfl, hb⟩
  have hB : Below w.heap.size w w1 := hb
  clear hb
  go_wp2_with fail
  refine (HW1.out _).mono ?_
  rintro e w2 ⟨rfl, hb⟩
  replace hB : Below w.heap.size w w2 := belowThru hB hb
  clear hb
  go_wp2_with fail
  refine (HT.out _).mono ?_
  rintro e w3 ⟨rfl, hb⟩
  replace hB : Below w.heap.size w w3 := belowThru hB hb
  clear hb
  go_wp2_with fail
  refine (HRe.out _).mono ?_
  rintro e w4 ⟨rfl, hb⟩
  replace hB : Below w.heap.size w w4 := belowThru hB hb
  clear hb
  go_wp2_with fail
  refine (HT.out _).mono ?_
  rintro e w5 ⟨rfl, hb⟩
  replace hB : Below w.heap.size w w5 := belowThru hB hb
  clear hb
  go_wp2_with fail
  refine (HW0.out _).mono ?_
  rintro e w6 ⟨rfl, hb⟩
  replace hB : Below w.heap.size w w6 := belowThru hB hb
  clear hb
  go_wp2_with fail
  refine (HT.out _).mono ?_
  rintro e w7 ⟨rfl, hb⟩
  replace hB : Below w.heap.size w w7 := belowThru hB hb
  clear hb
  have kF : Blk ((w7.alloc (.cells (ints [0, 10, 30]) 3)).alloc (.cells (ints [100, 118]) 3)) w7.heap.size (ints [0, 10, 30]) 3 := Blk.alloc (Blk.new rfl)
  have kS : Blk ((w7.alloc (.cells (ints [0, 10, 30]) 3)).alloc (.cells (ints [100, 118]) 3)) (w7.heap.size + 1) (ints [100, 118]) 3 := Blk.new (by simp)
  go_wp2_with fail
  refine (HM1.out _ _ _ (Row.of_blk kF) (Row.of_blk kS)).mono ?_
  rintro e w8 ⟨⟨ax, cx, rfl, hX⟩, hb⟩
  replace hB : Below w.heap.size w w8 := belowThru (belowAlloc (belowAlloc hB)) hb
  clear hb
  clear kF kS
  go_wp2_with fail
  refine (HT.out _).mono ?_
  rintro e w9 ⟨rfl, hb⟩
  replace hB : Below w.heap.size w w9 := belowThru hB hb
  replace hX := AllR.later (hb) hX
  clear hb
  have kF : Blk (w9.alloc (.cells (ints [0, 10, 30]) 3)) w9.heap.size (ints [0, 10, 30]) 3 := Blk.new rfl
  go_wp2_with fail
  refine (HM2.out _ none _ (Row.of_blk kF) (Row.nil _ _)).mono ?_
  rintro e w10 ⟨⟨ay, cy, rfl, hY⟩, hb⟩
  replace hB : Below w.heap.size w w10 := belowThru (belowAlloc hB) hb
  replace hX := AllR.later (belowThru (belowAlloc (Below.refl _ _)) hb) hX
  clear hb
  clear kF
  go_wp2_with fail
  refine (HT.out _).mono ?_
  rintro e w11 ⟨rfl, hb⟩
  replace hB : Below w.heap.size w w11 := belowThru hB hb
  replace hX := AllR.later (hb) hX
  replace hY := AllR.later (hb) hY
  clear hb
  have kF : Blk (w11.alloc (.cells (ints [1]) 3)) w11.heap.size (ints [1]) 3 := Blk.new rfl
  go_wp2_with fail
  refine (HM3.out _ _ kF).mono ?_
  rintro e w12 ⟨rfl, hb⟩
  replace hB : Below w.heap.size w w12 := belowThru (belowAlloc hB) hb
  replace hX := AllR.later (belowThru (belowAlloc (Below.refl _ _)) hb) hX
  replace hY := AllR.later (belowThru (belowAlloc (Below.refl _ _)) hb) hY
  clear hb
  clear kF
  go_wp2_with fail
  refine (HA.out _).mono ?_
  rintro e w13 ⟨rfl, hb⟩
  replace hB : Below w.heap.size w w13 := belowThru hB hb
  replace hX := AllR.later (hb) hX
  replace hY := AllR.later (hb) hY
  clear hb
  have HX := Lib.hid hX; have HY := Lib.hid hY
  clear hX hY
  go_wp2_with fail
  have k1 : Blk ((w13.alloc (.cells (ints [1, 2]) 3)).alloc (.cells #[.slice (some ⟨w13.heap.size, 0, none⟩) 2 2] 31)) w13.heap.size (ints [1, 2]) 3 := Blk.alloc (Blk.new rfl)
  have hx : AllR _ ((w13.alloc (.cells (ints [1, 2]) 3)).alloc (.cells #[.slice (some ⟨w13.heap.size, 0, none⟩) 2 2] 31)) (.slice ax 1 cx) [[1, 2]] := AllR.later (belowAlloc (belowAlloc (Below.refl _ _))) HX.out
  refine (sameLists_any ax (some ⟨w13.heap.size + 1, 0, none⟩) 1 1 cx 1 [[1, 2]] [[1, 2]] (by decide) (by decide) _ (hx.rd rfl) (rdL_one (y := [1, 2]) (Blk.new (by simp)) k1)).mono ?_
  rintro e w14 ⟨rfl, hb⟩
  rw [decide_eq_true rfl]
  replace hB : Below w.heap.size w w14 := belowThru (belowAlloc (belowAlloc hB)) hb
  have hy := (AllR.later (belowThru (belowAlloc (belowAlloc (Below.refl _ _))) hb) HY.out).rd rfl
  obtain ⟨gy, oy, ay2, ny, cy2, yy, rfl, cellY, yyE, yyL, -⟩ := hy.at (i := 0) (by decide)
  have yyE : some ([] : List Int) = some yy := yyE
  cases yyE
  have yyL : 0 = ny := yyL
  subst yyL
  rw [Nat.add_zero] at cellY
  have yyP : (0 : Int) ≤ 0 := by omega
  clear hb hx k1 HX HY hy
  go_wp2_with fail
  refine (HR0.out _).mono ?_
  rintro e w15 ⟨⟨aR, cR, rfl, hcR, hR⟩, hb⟩
  replace hB : Below w.heap.size w w15 := belowThru hB hb
  clear hb
  clear cellY
  go_wp2_with fail
  refine (HT1.out _ _ _ (rowOf hR).1).mono ?_
  rintro e w16 ⟨⟨v1, rfl, h1⟩, hb⟩
  replace hB : Below w.heap.size w w16 := belowThru hB hb
  clear hb
  clear hR hcR
  obtain ⟨a1, c1, e1, -⟩ := h1.row elem_sn
  have e1 : v1 = .slice a1 1 c1 := e1
  subst e1
  go_wp2_with fail
  obtain ⟨bT, hbT⟩ : ∃ b, w16.heap.size = b := ⟨_, rfl⟩
  obtain ⟨W1, hW⟩ : ∃ W, w16.alloc (.cells #[.int .i64 10, .int .i64 2, .int .i64 60, .int .i64 20, .int .i64 0, .int .i64 1, .slice a1 1 c1] 36) = W := ⟨_, rfl⟩
  have kT : Blk W1 bT #[.int .i64 10, .int .i64 2, .int .i64 60, .int .i64 20, .int .i64 0, .int .i64 1, .slice a1 1 c1] 36 := by rw [← hW, ← hbT]; exact Blk.new rfl
  have hle : w.heap.size ≤ bT := by rw [← hbT]; exact hB.size
  replace hB : Below w.heap.size w W1 := by rw [← hW]; exact belowAlloc hB
  replace h1 : OwnK 68 4 sn1 w15.heap.size W1 (.slice a1 1 c1) [(0, 0, 2, false)] := by rw [← hW]; exact h1.alloc
  rw [hW, hbT]
  clear hW hbT
  refine (HA6.out a1 1 c1 W1 (rowOf h1).1).mono ?_
  rintro e w17 ⟨⟨v2, u2, rfl, h2, -⟩, hb⟩
  replace hB : Below w.heap.size w w17 := belowThru hB hb
  replace kT := Blk.later (hb) kT
  clear hb
  clear h1
  obtain ⟨a2, c2, e2, -⟩ := h2.row elem_sn
  have e2 : v2 = .slice a2 1 c2 := e2
  subst e2
  obtain ⟨aT, bT2⟩ := kT.read; have yT := kT.lt
  have kN := kT.set7 (.int .i64 10) (.int .i64 2) (.int .i64 60) (.int .i64 20) (.int .i64 6) (.int .i64 1) (.slice a2 1 c2)
  have nh2 := Lib.hid (h2.other7 (b := bT) (.int .i64 10) (.int .i64 2) (.int .i64 60) (.int .i64 20) (.int .i64 6) (.int .i64 1) (.slice a2 1 c2) (h2.ne kT (by decide)))
  have nB : Below w.heap.size w (((((((w17.setCell ⟨bT, 0, none⟩ (.int .i64 10)).setCell ⟨bT, 1, none⟩ (.int .i64 2)).setCell ⟨bT, 2, none⟩ (.int .i64 60)).setCell ⟨bT, 3, none⟩ (.int .i64 20)).setCell ⟨bT, 4, none⟩ (.int .i64 6)).setCell ⟨bT, 5, none⟩ (.int .i64 1)).setCell ⟨bT, 6, none⟩ (.slice a2 1 c2)) := (((((((hB.setCell hle _).setCell hle _).setCell hle _).setCell hle _).setCell hle _).setCell hle _).setCell hle _)
  clear hB h2
  go_wp2_with fail
  clear aT bT2 yT kT
  obtain ⟨W2, hW⟩ : ∃ W, (((((((w17.setCell ⟨bT, 0, none⟩ (.int .i64 10)).setCell ⟨bT, 1, none⟩ (.int .i64 2)).setCell ⟨bT, 2, none⟩ (.int .i64 60)).setCell ⟨bT, 3, none⟩ (.int .i64 20)).setCell ⟨bT, 4, none⟩ (.int .i64 6)).setCell ⟨bT, 5, none⟩ (.int .i64 1)).setCell ⟨bT, 6, none⟩ (.slice a2 1 c2)) = W := ⟨_, rfl⟩
  rw [hW] at kN nB nh2 ⊢
  clear hW
  have kT := kN; have hB := nB; have h2 := nh2.out
  clear kN nB nh2
  refine (HS1.out a2 c2 W2 (rowOf h2).2 (rowOf h2).1).mono ?_
  rintro e w18 ⟨⟨v3, rfl, h3⟩, hb⟩
  replace hB : Below w.heap.size w w18 := belowThru hB hb
  replace kT := Blk.later (hb) kT
  clear hb
  clear h2
  obtain ⟨a3, c3, e3, -⟩ := h3.row elem_sn
  have e3 : v3 = .slice a3 2 c3 := e3
  subst e3
  obtain ⟨aT, bT2⟩ := kT.read; have yT := kT.lt
  have kN := kT.set7 (.int .i64 10) (.int .i64 2) (.int .i64 60) (.int .i64 20) (.int .i64 6) (.int .i64 2) (.slice a3 2 c3)
  have nh3 := Lib.hid (h3.other7 (b := bT) (.int .i64 10) (.int .i64 2) (.int .i64 60) (.int .i64 20) (.int .i64 6) (.int .i64 2) (.slice a3 2 c3) (h3.ne kT (by decide)))
  have nB : Below w.heap.size w (((((((w18.setCell ⟨bT, 0, none⟩ (.int .i64 10)).setCell ⟨bT, 1, none⟩ (.int .i64 2)).setCell ⟨bT, 2, none⟩ (.int .i64 60)).setCell ⟨bT, 3, none⟩ (.int .i64 20)).setCell ⟨bT, 4, none⟩ (.int .i64 6)).setCell ⟨bT, 5, none⟩ (.int .i64 2)).setCell ⟨bT, 6, none⟩ (.slice a3 2 c3)) := (((((((hB.setCell hle _).setCell hle _).setCell hle _).setCell hle _).setCell hle _).setCell hle _).setCell hle _)
  clear hB h3
  go_wp2_with fail
  clear aT bT2 yT kT
  obtain ⟨W3, hW⟩ : ∃ W, (((((((w18.setCell ⟨bT, 0, none⟩ (.int .i64 10)).setCell ⟨bT, 1, none⟩ (.int .i64 2)).setCell ⟨bT, 2, none⟩ (.int .i64 60)).setCell ⟨bT, 3, none⟩ (.int .i64 20)).setCell ⟨bT, 4, none⟩ (.int .i64 6)).setCell ⟨bT, 5, none⟩ (.int .i64 2)).setCell ⟨bT, 6, none⟩ (.slice a3 2 c3)) = W := ⟨_, rfl⟩
  rw [hW] at kN nB nh3 ⊢
  clear hW
  have kT := kN; have hB := nB; have h3 := nh3.out
  clear kN nB nh3
  refine (HT2.out a3 c3 W3 (rowOf h3).1).mono ?_
  rintro e w19 ⟨⟨v4, rfl, h4⟩, hb⟩
  replace hB : Below w.heap.size w w19 := belowThru hB hb
  replace kT := Blk.later (hb) kT
  clear hb
  clear h3
  obtain ⟨a4, c4, e4, -⟩ := h4.row elem_sn
  have e4 : v4 = .slice a4 2 c4 := e4
  subst e4
  obtain ⟨aT, bT2⟩ := kT.read; have yT := kT.lt
  have kN := kT.set7 (.int .i64 10) (.int .i64 2) (.int .i64 60) (.int .i64 20) (.int .i64 6) (.int .i64 2) (.slice a4 2 c4)
  have nh4 := Lib.hid (h4.other7 (b := bT) (.int .i64 10) (.int .i64 2) (.int .i64 60) (.int .i64 20) (.int .i64 6) (.int .i64 2) (.slice a4 2 c4) (h4.ne kT (by decide)))
  have nB : Below w.heap.size w (((((((w19.setCell ⟨bT, 0, none⟩ (.int .i64 10)).setCell ⟨bT, 1, none⟩ (.int .i64 2)).setCell ⟨bT, 2, none⟩ (.int .i64 60)).setCell ⟨bT, 3, none⟩ (.int .i64 20)).setCell ⟨bT, 4, none⟩ (.int .i64 6)).setCell ⟨bT, 5, none⟩ (.int .i64 2)).setCell ⟨bT, 6, none⟩ (.slice a4 2 c4)) := (((((((hB.setCell hle _).setCell hle _).setCell hle _).setCell hle _).setCell hle _).setCell hle _).setCell hle _)
  clear hB h4
  go_wp2_with fail
  clear aT bT2 yT kT
  obtain ⟨W4, hW⟩ : ∃ W, (((((((w19.setCell ⟨bT, 0, none⟩ (.int .i64 10)).setCell ⟨bT, 1, none⟩ (.int .i64 2)).setCell ⟨bT, 2, none⟩ (.int .i64 60)).setCell ⟨bT, 3, none⟩ (.int .i64 20)).setCell ⟨bT, 4, none⟩ (.int .i64 6)).setCell ⟨bT, 5, none⟩ (.int .i64 2)).setCell ⟨bT, 6, none⟩ (.slice a4 2 c4)) = W := ⟨_, rfl⟩
  rw [hW] at kN nB nh4 ⊢
  clear hW
  have kT := kN; have hB := nB; have h4 := nh4.out
  clear kN nB nh4
  refine (HS2.out a4 c4 W4 (rowOf h4).1).mono ?_
  rintro e w20 ⟨rfl, hb⟩
  replace hB : Below w.heap.size w w20 := belowThru hB hb
  replace kT := Blk.later (hb) kT
  replace h4 := OwnK.later (hb) h4
  clear hb
  obtain ⟨aT, bT2⟩ := kT.read; have yT := kT.lt
  go_wp2_with fail
  refine (HA5.out a4 2 c4 _ (rowOf h4).1).mono ?_
  rintro e w21 ⟨⟨v5, ul, rfl, h5, hL⟩, hb⟩
  replace hB : Below w.heap.size w w21 := belowThru hB hb
  replace kT := Blk.later (hb) kT
  clear hb
  clear h4 aT bT2 yT
  obtain ⟨a5, c5, e5, -⟩ := h5.row elem_sn
  have e5 : v5 = .slice a5 1 c5 := e5
  subst e5
  obtain ⟨aT, bT2⟩ := kT.read; have yT := kT.lt
  have kN := kT.set7 (.int .i64 10) (.int .i64 2) (.int .i64 60) (.int .i64 20) (.int .i64 11) (.int .i64 2) (.slice a5 1 c5)
  have nh5 := Lib.hid (h5.other7 (b := bT) (.int .i64 10) (.int .i64 2) (.int .i64 60) (.int .i64 20) (.int .i64 11) (.int .i64 2) (.slice a5 1 c5) (h5.ne kT (by decide)))
  have nhL := Lib.hid (hL.other7 (b := bT) (.int .i64 10) (.int .i64 2) (.int .i64 60) (.int .i64 20) (.int .i64 11) (.int .i64 2) (.slice a5 1 c5) (hL.ne kT (by decide)))
  have nB : Below w.heap.size w (((((((w21.setCell ⟨bT, 0, none⟩ (.int .i64 10)).setCell ⟨bT, 1, none⟩ (.int .i64 2)).setCell ⟨bT, 2, none⟩ (.int .i64 60)).setCell ⟨bT, 3, none⟩ (.int .i64 20)).setCell ⟨bT, 4, none⟩ (.int .i64 11)).setCell ⟨bT, 5, none⟩ (.int .i64 2)).setCell ⟨bT, 6, none⟩ (.slice a5 1 c5)) := (((((((hB.setCell hle _).setCell hle _).setCell hle _).setCell hle _).setCell hle _).setCell hle _).setCell hle _)
  clear hB h5 hL
  go_wp2_with fail
  clear aT bT2 yT kT
  obtain ⟨W5, hW⟩ : ∃ W, (((((((w21.setCell ⟨bT, 0, none⟩ (.int .i64 10)).setCell ⟨bT, 1, none⟩ (.int .i64 2)).setCell ⟨bT, 2, none⟩ (.int .i64 60)).setCell ⟨bT, 3, none⟩ (.int .i64 20)).setCell ⟨bT, 4, none⟩ (.int .i64 11)).setCell ⟨bT, 5, none⟩ (.int .i64 2)).setCell ⟨bT, 6, none⟩ (.slice a5 1 c5)) = W := ⟨_, rfl⟩
  rw [hW] at kN nB nh5 nhL ⊢
  clear hW
  have kT := kN; have hB := nB; have h5 := nh5.out; have hL := nhL.out
  clear kN nB nh5 nhL
  refine (HA7.out a5 1 c5 W5 (rowOf h5).1).mono ?_
  rintro e w22 ⟨⟨v6, um, rfl, h6, hM⟩, hb⟩
  replace hB : Below w.heap.size w w22 := belowThru hB hb
  replace hL := OwnK.later (hb) hL
  clear hb
  clear h5 kT
  obtain ⟨a6, c6, e6, -⟩ := h6.row elem_sn
  have e6 : v6 = .slice a6 0 c6 := e6
  subst e6
  clear h6
  obtain ⟨gl, cl, eL, -⟩ := hL.at0 elem_ft (by decide)
  subst eL
  obtain ⟨gm, cm, eM, -⟩ := hM.at0 elem_ft (by decide)
  subst eM
  go_wp2_with fail
  refine (HR0.out _).mono ?_
  rintro e w23 ⟨⟨aR, cR, rfl, -, hR⟩, hb⟩
  replace hB : Below w.heap.size w w23 := belowThru (belowAlloc hB) hb
  replace hL := OwnK.later (belowThru (belowAlloc (Below.refl _ _)) hb) hL
  replace hM := OwnK.later (belowThru (belowAlloc (Below.refl _ _)) hb) hM
  clear hb
  go_wp2_with fail
  refine (HTn.out _ _ _ (rowOf hR).1).mono ?_
  rintro e w24 ⟨rfl, hb⟩
  replace hB : Below w.heap.size w w24 := belowThru hB hb
  replace hL := OwnK.later (hb) hL
  replace hM := OwnK.later (hb) hM
  clear hb
  clear hR
  go_wp2_with fail
  refine (HR0.out _).mono ?_
  rintro e w25 ⟨⟨aR, cR, rfl, -, hR⟩, hb⟩
  replace hB : Below w.heap.size w w25 := belowThru (belowAlloc hB) hb
  replace hL := OwnK.later (belowThru (belowAlloc (Below.refl _ _)) hb) hL
  replace hM := OwnK.later (belowThru (belowAlloc (Below.refl _ _)) hb) hM
  clear hb
  go_wp2_with fail
  refine (HTa.out _ _ _ (rowOf hR).1).mono ?_
  rintro e w26 ⟨rfl, hb⟩
  replace hB : Below w.heap.size w w26 := belowThru hB hb
  replace hL := OwnK.later (hb) hL
  replace hM := OwnK.later (hb) hM
  clear hb
  clear hR
  have hL2 := hL.alloc (o := .cells #[.int .i64 0, .int .i64 0, .int .i64 0, .int .i64 0, .int .i64 0, .int .i64 0, .slice none 0 0] 36); have hM2 := hM.alloc (o := .cells #[.int .i64 0, .int .i64 0, .int .i64 0, .int .i64 0, .int .i64 0, .int .i64 0, .slice none 0 0] 36)
  clear hL hM
  have f0 := hL2.cellsAt elem_ft (j := 0) (i := 0) rfl rfl
  have f1 := hL2.cellsAt elem_ft (j := 0) (i := 1) rfl rfl
  have f2 := hL2.cellsAt elem_ft (j := 0) (i := 2) rfl rfl
  have h0 := hM2.cellsAt elem_ft (j := 0) (i := 0) rfl rfl
  have h1 := hM2.cellsAt elem_ft (j := 0) (i := 1) rfl rfl
  have h2 := hM2.cellsAt elem_ft (j := 0) (i := 2) rfl rfl
  simp only [Nat.zero_mul, Nat.zero_add, List.length_cons, List.length_nil] at f0 f1 f2 h0 h1 h2
  have qe1 : ∀ w, Sem.run Try.prog (binOp .eql 46 (.agg #[.int .i64 0, .int .u8 2, .bool true]) (.agg #[.int .i64 0, .int .u8 2, .bool true])) w = .ok (.bool true) w := fun w => by kernel_rfl
  have qe2 : ∀ w, Sem.run Try.prog (binOp .eql 46 (.agg #[.int .i64 1, .int .u8 1, .bool true]) (.agg #[.int .i64 1, .int .u8 1, .bool true])) w = .ok (.bool true) w := fun w => by kernel_rfl
  clear hL2 hM2
  go_wp2_with fail
  refine (HCB.out _).mono ?_
  rintro e w27 ⟨rfl, hb⟩
  replace hB : Below w.heap.size w w27 := belowThru (belowAlloc hB) hb
  clear hb
  clear f0 f1 f2 h0 h1 h2 qe1 qe2
  go_wp2_with fail
  refine (HT.out _).mono ?_
  rintro e w28 ⟨rfl, hb⟩
  replace hB : Below w.heap.size w w28 := belowThru hB hb
  clear hb
  go_wp2_with fail
  refine (HCT.out _).mono ?_
  rintro e w29 ⟨rfl, hb⟩
  replace hB : Below w.heap.size w w29 := belowThru hB hb
  clear hb
  go_wp2_with fail
  go_ret
  exact ⟨rfl, hB⟩
end Go.Proofs.Ytbcnoklaaigclaa
