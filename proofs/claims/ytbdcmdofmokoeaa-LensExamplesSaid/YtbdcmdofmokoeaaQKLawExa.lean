/-
  LensExamples: the walk.
-/
import Derived.Deep.RegionHeld3
import Derived.Test.YtbdcmdofmokoeaaQKLawExL
import Derived.Test.YtbdcmdofmokoeaaQKLawAdd5
namespace Go.Proofs.Ytbdcmdofmokoeaa
open Go.RowKit Go.Shelf
set_option linter.unusedVariables false
set_option linter.unusedSimpArgs false

theorem holdE2 {w : World} {b0 b1 : Nat} {c0 c1 : Array Value} {t0 t1 : TypeId} {D0 D1 E G : Prop} (h : (Blk w b0 c0 t0 ∧ D0) ∧ (Blk w b1 c1 t1 ∧ D1) ∧ E) (g : Blk w b0 c0 t0 → Blk w b1 c1 t1 → E → G) : G := g h.1.1 h.2.1.1 h.2.2
set_option maxRecDepth 100000 in
set_option maxHeartbeats 16000000 in
theorem lawExa_true (w : World) :
    Calls Try.prog 3 #[] w fun e w' => e = .returned (.bool true) ∧ Below w.heap.size w w' := by
  have W1 := Lib.hid (whole_any 1)
  have W49 := Lib.hid (whole_any 49)
  have S148_152 := Lib.hid (span_any 148 152)
  have S1_1 := Lib.hid (span_any 1 1)
  have S0_0 := Lib.hid (span_any 0 0)
  have S0_1 := Lib.hid (span_any 0 1)
  have HAl := Lib.hid alive_true
  have C1 := Lib.hid x_c1
  have C2 := Lib.hid x_c2
  have C3 := Lib.hid x_c3
  have EX := Lib.hid x_exp
  have RN := Lib.hid x_ran
  have K1 := Lib.hid x_k1
  have K0 := Lib.hid x_k0
  have K3 := Lib.hid x_k3
  have FB := Lib.hid x_bad
  have DE := Lib.hid x_dep
  have TN := Lib.hid x_tan
  have XK := Lib.hid x_kn
  have XL := Lib.hid x_li
  have XV := Lib.hid x_vi
  have AP := Lib.hid c_app
  have TA := Lib.hid table_any
  have TW := Lib.hid two_any
  have GR := Lib.hid jgray_yes
  have GN := Lib.hid (jgray_no 256 (by decide))
  have XG := Lib.hid x_gr
  have XM := Lib.hid (fun a c => views_many a 13 c (by decide))
  go_enter Try.func3, Try.ntmps3
  go_wp2_with fail
  refine (TA.out _).mono ?_
  rintro e w1 ⟨⟨bt, rfl, hK⟩, hb⟩
  have hBw : Below w.heap.size w w1 := by (repeat' (first | (with_reducible exact Below.refl _ _) | (with_reducible assumption) | (with_reducible refine belowThru ?_ (by assumption)) | (with_reducible refine belowAlloc ?_) | (with_reducible refine Below.setCell ?_ (by first | omega | (simp; done) | (simp; omega)) _) | (with_reducible refine Below.drew ?_) | (with_reducible refine below_drewN ?_ _)))
  have hzw1 := hBw.size
  clear hb
  go_wp2_with fail
  refine (C1.out _ _ hK).mono ?_
  rintro e w2 ⟨rfl, hb⟩
  replace hBw : Below w.heap.size w w2 := belowThru hBw hb
  have hzw2 := hBw.size
  clear hb
  clear hK
  go_wp2_with fail
  refine (TA.out _).mono ?_
  rintro e w3 ⟨⟨bt, rfl, hK⟩, hb⟩
  have k0 : Blk w3 (w2.heap.size) #[.int .i64 1, .int .i64 1] 23 := Blk.later hb (Blk.new rfl)
  replace hBw : Below w.heap.size w w3 := belowThru (belowAlloc hBw) hb
  obtain ⟨a0, b0⟩ := k0.read; have y0 := k0.lt
  have hzw3 := hBw.size
  clear hb
  go_wp2_with fail
  refine (W49.out _).mono ?_
  rintro e w4 ⟨rfl, hb⟩
  replace hK := hK.later hb
  replace k0 := Blk.later hb k0; clear a0 b0 y0
  replace hBw : Below w.heap.size w w4 := belowThru hBw hb
  obtain ⟨a0, b0⟩ := k0.read; have y0 := k0.lt
  have hzw4 := hBw.size
  clear hb
  go_wp2_with fail
  refine (C2.out _ _ hK).mono ?_
  rintro e w5 ⟨rfl, hb⟩
  replace k0 := Blk.later hb k0; clear a0 b0 y0
  replace hBw : Below w.heap.size w w5 := belowThru hBw hb
  obtain ⟨a0, b0⟩ := k0.read; have y0 := k0.lt
  have hzw5 := hBw.size
  clear hb
  clear hK
  go_wp2_with fail
  refine (TA.out _).mono ?_
  rintro e w6 ⟨⟨bt, rfl, hK⟩, hb⟩
  replace k0 := Blk.later hb (Blk.alloc k0); clear a0 b0 y0
  have k1 : Blk w6 (w5.heap.size) #[.int .i64 0, .int .i64 0] 23 := Blk.later hb (Blk.new rfl)
  replace hBw : Below w.heap.size w w6 := belowThru (belowAlloc hBw) hb
  obtain ⟨a0, b0⟩ := k0.read; have y0 := k0.lt
  obtain ⟨a1, b1⟩ := k1.read; have y1 := k1.lt
  have hzw6 := hBw.size
  clear hb
  go_wp2_with fail
  refine (C3.out _ _ hK).mono ?_
  rintro e w7 ⟨rfl, hb⟩
  replace k0 := Blk.later hb k0; clear a0 b0 y0
  replace k1 := Blk.later hb k1; clear a1 b1 y1
  replace hBw : Below w.heap.size w w7 := belowThru hBw hb
  obtain ⟨a0, b0⟩ := k0.read; have y0 := k0.lt
  obtain ⟨a1, b1⟩ := k1.read; have y1 := k1.lt
  have hzw7 := hBw.size
  clear hb
  clear hK
  go_wp2_with fail
  refine (EX.out _).mono ?_
  rintro e w8 ⟨rfl, hb⟩
  replace k0 := Blk.later hb (Blk.alloc k0); clear a0 b0 y0
  replace k1 := Blk.later hb (Blk.alloc k1); clear a1 b1 y1
  have k2 : Blk w8 (w7.heap.size) #[.int .i64 0, .int .i64 0] 23 := Blk.later hb (Blk.new rfl)
  replace hBw : Below w.heap.size w w8 := belowThru (belowAlloc hBw) hb
  obtain ⟨a0, b0⟩ := k0.read; have y0 := k0.lt
  obtain ⟨a1, b1⟩ := k1.read; have y1 := k1.lt
  obtain ⟨a2, b2⟩ := k2.read; have y2 := k2.lt
  have hzw8 := hBw.size
  clear hb
  go_wp2_with fail
  refine (TW.out _).mono ?_
  rintro e w9 ⟨⟨bt, rfl, hbt, kS⟩, hb⟩
  try simp only [World.alloc, Array.size_push] at hbt
  replace k0 := Blk.later hb k0; clear a0 b0 y0
  replace k1 := Blk.later hb k1; clear a1 b1 y1
  replace k2 := Blk.later hb k2; clear a2 b2 y2
  replace hBw : Below w.heap.size w w9 := belowThru hBw hb
  obtain ⟨a0, b0⟩ := k0.read; have y0 := k0.lt
  obtain ⟨a1, b1⟩ := k1.read; have y1 := k1.lt
  obtain ⟨a2, b2⟩ := k2.read; have y2 := k2.lt
  have hzw9 := hBw.size
  clear hb
  go_wp2_with fail
  refine (RN.out _ _ kS).mono ?_
  rintro e w10 ⟨rfl, hb⟩
  replace k0 := Blk.later hb k0; clear a0 b0 y0
  replace k1 := Blk.later hb k1; clear a1 b1 y1
  replace k2 := Blk.later hb k2; clear a2 b2 y2
  replace hBw : Below w.heap.size w w10 := belowThru hBw hb
  obtain ⟨a0, b0⟩ := k0.read; have y0 := k0.lt
  obtain ⟨a1, b1⟩ := k1.read; have y1 := k1.lt
  obtain ⟨a2, b2⟩ := k2.read; have y2 := k2.lt
  have hzw10 := hBw.size
  clear hb
  clear kS
  go_wp2_with fail
  refine (TW.out _).mono ?_
  rintro e w11 ⟨⟨bt, rfl, hbt, kS⟩, hb⟩
  try simp only [World.alloc, Array.size_push] at hbt
  replace k0 := Blk.later hb (Blk.alloc k0); clear a0 b0 y0
  replace k1 := Blk.later hb (Blk.alloc k1); clear a1 b1 y1
  replace k2 := Blk.later hb (Blk.alloc k2); clear a2 b2 y2
  have k3 : Blk w11 (w10.heap.size) #[.int .i64 148, .int .i64 1, .int .i64 152, .int .i64 1] 35 := Blk.later hb (Blk.new rfl)
  replace hBw : Below w.heap.size w w11 := belowThru (belowAlloc hBw) hb
  obtain ⟨a0, b0⟩ := k0.read; have y0 := k0.lt
  obtain ⟨a1, b1⟩ := k1.read; have y1 := k1.lt
  obtain ⟨a2, b2⟩ := k2.read; have y2 := k2.lt
  obtain ⟨a3, b3⟩ := k3.read; have y3 := k3.lt
  have hzw11 := hBw.size
  clear hb
  go_wp2_with fail
  refine (K1.out _ _ kS).mono ?_
  rintro e w12 ⟨rfl, hb⟩
  replace k0 := Blk.later hb k0; clear a0 b0 y0
  replace k1 := Blk.later hb k1; clear a1 b1 y1
  replace k2 := Blk.later hb k2; clear a2 b2 y2
  replace k3 := Blk.later hb k3; clear a3 b3 y3
  replace hBw : Below w.heap.size w w12 := belowThru hBw hb
  obtain ⟨a0, b0⟩ := k0.read; have y0 := k0.lt
  obtain ⟨a1, b1⟩ := k1.read; have y1 := k1.lt
  obtain ⟨a2, b2⟩ := k2.read; have y2 := k2.lt
  obtain ⟨a3, b3⟩ := k3.read; have y3 := k3.lt
  have hzw12 := hBw.size
  clear hb
  clear kS
  go_wp2_with fail
  refine (K0.out _).mono ?_
  rintro e w13 ⟨rfl, hb⟩
  replace k0 := Blk.later hb (Blk.alloc k0); clear a0 b0 y0
  replace k1 := Blk.later hb (Blk.alloc k1); clear a1 b1 y1
  replace k2 := Blk.later hb (Blk.alloc k2); clear a2 b2 y2
  replace k3 := Blk.later hb (Blk.alloc k3); clear a3 b3 y3
  have k4 : Blk w13 (w12.heap.size) #[.int .i64 0, .int .i64 0, .int .i64 0, .int .i64 0, .int .i64 0, .int .i64 0, .int .i64 0, .int .i64 0] 41 := Blk.later hb (Blk.new rfl)
  replace hBw : Below w.heap.size w w13 := belowThru (belowAlloc hBw) hb
  obtain ⟨a0, b0⟩ := k0.read; have y0 := k0.lt
  obtain ⟨a1, b1⟩ := k1.read; have y1 := k1.lt
  obtain ⟨a2, b2⟩ := k2.read; have y2 := k2.lt
  obtain ⟨a3, b3⟩ := k3.read; have y3 := k3.lt
  obtain ⟨a4, b4⟩ := k4.read; have y4 := k4.lt
  have hzw13 := hBw.size
  clear hb
  go_wp2_with fail
  refine (TW.out _).mono ?_
  rintro e w14 ⟨⟨bt, rfl, hbt, kS⟩, hb⟩
  try simp only [World.alloc, Array.size_push] at hbt
  have hy0 := y0
  have hy1 := y1
  have hy2 := y2
  have hy3 := y3
  have hy4 := y4
  replace k0 := Blk.later hb (Blk.alloc k0); clear a0 b0 y0
  replace k1 := Blk.later hb (Blk.alloc k1); clear a1 b1 y1
  replace k2 := Blk.later hb (Blk.alloc k2); clear a2 b2 y2
  replace k3 := Blk.later hb (Blk.alloc k3); clear a3 b3 y3
  replace k4 := Blk.later hb (Blk.alloc k4); clear a4 b4 y4
  have k5 : Blk w14 (w13.heap.size) #[.int .i64 0, .int .i64 0, .int .i64 0, .int .i64 0, .int .i64 0, .int .i64 0, .int .i64 0, .int .i64 0] 41 := Blk.later hb (Blk.new rfl)
  replace hBw : Below w.heap.size w w14 := belowThru (belowAlloc hBw) hb
  obtain ⟨a0, b0⟩ := k0.read; have y0 := k0.lt
  obtain ⟨a1, b1⟩ := k1.read; have y1 := k1.lt
  obtain ⟨a2, b2⟩ := k2.read; have y2 := k2.lt
  obtain ⟨a3, b3⟩ := k3.read; have y3 := k3.lt
  obtain ⟨a4, b4⟩ := k4.read; have y4 := k4.lt
  obtain ⟨a5, b5⟩ := k5.read; have y5 := k5.lt
  have hzw14 := hBw.size
  clear hb
  have hbw : w.heap.size ≤ bt := by omega
  go_wp2_with (at_builtin; (refine wpList_append_slot rfl _ _ _ _ rfl _ _ rfl rfl (AP.out _ _ _ _ (by (repeat' (first | (with_reducible assumption) | ((with_reducible refine Blk.new ?_); first | rfl | (simp; done)) | (with_reducible refine Blk.later (by assumption) ?_) | (with_reducible refine Blk.alloc ?_) | (with_reducible refine Blk.drewN ?_) | (with_reducible refine Blk.drew ?_) | (with_reducible refine Blk.other ?_ (by first | omega | (simp; done) | (simp; omega)))))) (by (repeat' (first | (with_reducible assumption) | ((with_reducible refine Blk.new ?_); first | rfl | (simp; done)) | (with_reducible refine Blk.later (by assumption) ?_) | (with_reducible refine Blk.alloc ?_) | (with_reducible refine Blk.drewN ?_) | (with_reducible refine Blk.drew ?_) | (with_reducible refine Blk.other ?_ (by first | omega | (simp; done) | (simp; omega))))))) ?_); (rintro r wA ⟨aA, nA, rfl, hnA, hRA, hBA⟩); have kn0 := Blk.below hBA (by omega) (Blk.alloc k0); have kn1 := Blk.below hBA (by omega) (Blk.alloc k1); have kn2 := Blk.below hBA (by omega) (Blk.alloc k2); have kn3 := Blk.below hBA (by omega) (Blk.alloc k3); have kn4 := Blk.below hBA (by omega) (Blk.alloc k4); have kn5 := Blk.below hBA (by omega) (Blk.alloc k5); have hBn : Below w.heap.size w wA := Below.trans (belowAlloc hBw) (hBA.mono hbw))
  clear k0 a0 b0 y0 k1 a1 b1 y1 k2 a2 b2 y2 k3 a3 b3 y3 k4 a4 b4 y4 k5 a5 b5 y5 hBw kS hBA hy0 hy1 hy2 hy3 hy4
  have hBw := hBn; clear hBn
  have k0 := kn0; clear kn0; obtain ⟨a0, b0⟩ := k0.read; have y0 := k0.lt
  have k1 := kn1; clear kn1; obtain ⟨a1, b1⟩ := k1.read; have y1 := k1.lt
  have k2 := kn2; clear kn2; obtain ⟨a2, b2⟩ := k2.read; have y2 := k2.lt
  have k3 := kn3; clear kn3; obtain ⟨a3, b3⟩ := k3.read; have y3 := k3.lt
  have k4 := kn4; clear kn4; obtain ⟨a4, b4⟩ := k4.read; have y4 := k4.lt
  have k5 := kn5; clear kn5; obtain ⟨a5, b5⟩ := k5.read; have y5 := k5.lt
  go_wp2_with fail
  refine (K3.out _ _ _ hRA).mono ?_
  rintro e w15 ⟨rfl, hb⟩
  replace k0 := Blk.later hb k0; clear a0 b0 y0
  replace k1 := Blk.later hb k1; clear a1 b1 y1
  replace k2 := Blk.later hb k2; clear a2 b2 y2
  replace k3 := Blk.later hb k3; clear a3 b3 y3
  replace k4 := Blk.later hb k4; clear a4 b4 y4
  replace k5 := Blk.later hb k5; clear a5 b5 y5
  replace hBw : Below w.heap.size w w15 := belowThru hBw hb
  obtain ⟨a0, b0⟩ := k0.read; have y0 := k0.lt
  obtain ⟨a1, b1⟩ := k1.read; have y1 := k1.lt
  obtain ⟨a2, b2⟩ := k2.read; have y2 := k2.lt
  obtain ⟨a3, b3⟩ := k3.read; have y3 := k3.lt
  obtain ⟨a4, b4⟩ := k4.read; have y4 := k4.lt
  obtain ⟨a5, b5⟩ := k5.read; have y5 := k5.lt
  have hzw15 := hBw.size
  clear hb
  clear hRA hnA
  go_wp2_with fail
  refine (TW.out _).mono ?_
  rintro e w16 ⟨⟨bt, rfl, hbt, kS⟩, hb⟩
  try simp only [World.alloc, Array.size_push] at hbt
  replace k0 := Blk.later hb (Blk.alloc k0); clear a0 b0 y0
  replace k1 := Blk.later hb (Blk.alloc k1); clear a1 b1 y1
  replace k2 := Blk.later hb (Blk.alloc k2); clear a2 b2 y2
  replace k3 := Blk.later hb (Blk.alloc k3); clear a3 b3 y3
  replace k4 := Blk.later hb (Blk.alloc k4); clear a4 b4 y4
  replace k5 := Blk.later hb (Blk.alloc k5); clear a5 b5 y5
  have k6 : Blk w16 (w15.heap.size) #[.int .i64 0, .int .i64 0, .int .i64 0, .int .i64 0, .int .i64 0, .int .i64 0, .int .i64 0, .int .i64 0] 41 := Blk.later hb (Blk.new rfl)
  replace hBw : Below w.heap.size w w16 := belowThru (belowAlloc hBw) hb
  obtain ⟨a0, b0⟩ := k0.read; have y0 := k0.lt
  obtain ⟨a1, b1⟩ := k1.read; have y1 := k1.lt
  obtain ⟨a2, b2⟩ := k2.read; have y2 := k2.lt
  obtain ⟨a3, b3⟩ := k3.read; have y3 := k3.lt
  obtain ⟨a4, b4⟩ := k4.read; have y4 := k4.lt
  obtain ⟨a5, b5⟩ := k5.read; have y5 := k5.lt
  obtain ⟨a6, b6⟩ := k6.read; have y6 := k6.lt
  have hzw16 := hBw.size
  clear hb
  go_wp2_with fail
  refine (FB.out _ _ kS).mono ?_
  rintro e w17 ⟨rfl, hb⟩
  replace k0 := Blk.later hb k0; clear a0 b0 y0
  replace k1 := Blk.later hb k1; clear a1 b1 y1
  replace k2 := Blk.later hb k2; clear a2 b2 y2
  replace k3 := Blk.later hb k3; clear a3 b3 y3
  replace k4 := Blk.later hb k4; clear a4 b4 y4
  replace k5 := Blk.later hb k5; clear a5 b5 y5
  replace k6 := Blk.later hb k6; clear a6 b6 y6
  replace hBw : Below w.heap.size w w17 := belowThru hBw hb
  obtain ⟨a0, b0⟩ := k0.read; have y0 := k0.lt
  obtain ⟨a1, b1⟩ := k1.read; have y1 := k1.lt
  obtain ⟨a2, b2⟩ := k2.read; have y2 := k2.lt
  obtain ⟨a3, b3⟩ := k3.read; have y3 := k3.lt
  obtain ⟨a4, b4⟩ := k4.read; have y4 := k4.lt
  obtain ⟨a5, b5⟩ := k5.read; have y5 := k5.lt
  obtain ⟨a6, b6⟩ := k6.read; have y6 := k6.lt
  have hzw17 := hBw.size
  clear hb
  clear kS
  go_wp2_with fail
  obtain ⟨Wp, rfl⟩ : ∃ Wp, Wp = w17 := ⟨_, rfl⟩
  clear a0 b0 y0; have y0 := k0.lt
  clear a1 b1 y1; have y1 := k1.lt
  clear a2 b2 y2; have y2 := k2.lt
  clear a3 b3 y3; have y3 := k3.lt
  clear a4 b4 y4; have y4 := k4.lt
  clear a5 b5 y5; have y5 := k5.lt
  clear a6 b6 y6; have y6 := k6.lt
  go_cut [131] (fun s131 wx => s131 = .bool false ∧ Below Wp.heap.size Wp wx)
  case first =>
    go_region_held3 (fun w' => (Blk w' (w2.heap.size) #[.int .i64 1, .int .i64 1] 23 ∧ (∀ i : Nat, w'.cell? ⟨w2.heap.size, i, none⟩ = (#[.int .i64 1, .int .i64 1] : Array Value)[i]?)) ∧ (Blk w' (w10.heap.size) #[.int .i64 148, .int .i64 1, .int .i64 152, .int .i64 1] 35 ∧ (∀ i : Nat, w'.cell? ⟨w10.heap.size, i, none⟩ = (#[.int .i64 148, .int .i64 1, .int .i64 152, .int .i64 1] : Array Value)[i]?)) ∧ Below Wp.heap.size Wp w')
      (((first | (apply holdE2; (focus assumption); intro p0 p1 pB) | skip); refine ⟨Blk.full ?_, Blk.full ?_, ?_⟩; all_goals (first | ((repeat' (first | (with_reducible assumption) | ((with_reducible refine Blk.new ?_); first | rfl | (simp; done)) | (with_reducible refine Blk.later (by assumption) ?_) | (with_reducible refine Blk.alloc ?_) | (with_reducible refine Blk.drewN ?_) | (with_reducible refine Blk.drew ?_) | (with_reducible refine Blk.other ?_ (by first | omega | (simp; done) | (simp; omega))))); done) | ((repeat' (first | (with_reducible exact Below.refl _ _) | (with_reducible assumption) | (with_reducible refine belowThru ?_ (by assumption)) | (with_reducible refine belowAlloc ?_) | (with_reducible refine Below.setCell ?_ (by first | omega | (simp; done) | (simp; omega)) _) | (with_reducible refine Below.drew ?_) | (with_reducible refine below_drewN ?_ _))); done) | exact Below.refl _ _)))
      (first
      | (go_at_call 23; (with_reducible refine (HAl.out _).mono ?_); rintro e w1 ⟨rfl, hb⟩)
      | (go_at_call 17; (with_reducible refine (W1.out _).mono ?_); rintro e w1 ⟨rfl, hb⟩)
      | (go_at_call 24; (with_reducible refine (S148_152.out _).mono ?_); rintro e w1 ⟨rfl, hb⟩))
    all_goals
      apply holdE2; (focus assumption); intro p0 p1 pB
      go_wp2_with fail
      go_meet
      exact ⟨rfl, pB⟩
  case rest =>
    obtain ⟨rfl, hb⟩ := hcut
    obtain ⟨w18, rfl⟩ : ∃ z, z = wc := ⟨_, rfl⟩
    replace k0 := Blk.later hb k0; clear y0; obtain ⟨a0, b0⟩ := k0.read; have y0 := k0.lt
    replace k1 := Blk.later hb k1; clear y1; obtain ⟨a1, b1⟩ := k1.read; have y1 := k1.lt
    replace k2 := Blk.later hb k2; clear y2; obtain ⟨a2, b2⟩ := k2.read; have y2 := k2.lt
    replace k3 := Blk.later hb k3; clear y3; obtain ⟨a3, b3⟩ := k3.read; have y3 := k3.lt
    replace k4 := Blk.later hb k4; clear y4; obtain ⟨a4, b4⟩ := k4.read; have y4 := k4.lt
    replace k5 := Blk.later hb k5; clear y5; obtain ⟨a5, b5⟩ := k5.read; have y5 := k5.lt
    replace k6 := Blk.later hb k6; clear y6; obtain ⟨a6, b6⟩ := k6.read; have y6 := k6.lt
    replace hBw : Below w.heap.size w w18 := belowThru hBw hb
    have hzw18 := hBw.size
    clear hb
    clear k0 a0 b0 y0 k1 a1 b1 y1 k2 a2 b2 y2 k3 a3 b3 y3 k4 a4 b4 y4 k5 a5 b5 y5 k6 a6 b6 y6
    go_wp2_with fail
    have kG : Blk (w18.alloc (.cells #[.int .i64 0, .int .i64 1, .int .i64 3, .int .i64 2, .int .i64 6, .int .i64 7] 3)) w18.heap.size #[.int .i64 0, .int .i64 1, .int .i64 3, .int .i64 2, .int .i64 6, .int .i64 7] 3 := Blk.new rfl
    have hB0 : Below w.heap.size w (w18.alloc (.cells #[.int .i64 0, .int .i64 1, .int .i64 3, .int .i64 2, .int .i64 6, .int .i64 7] 3)) := belowAlloc hBw
    go_loopw [19, 20, 134] (fun _ _ i wr => ∃ k : Nat, k ≤ 6 ∧ i = .int .i64 k ∧ Blk wr w18.heap.size #[.int .i64 0, .int .i64 1, .int .i64 3, .int .i64 2, .int .i64 6, .int .i64 7] 3 ∧ Below w.heap.size w wr) (fun _ _ i _ => 6 - (intOf i).toNat)
    case atStart => exact ⟨0, Nat.zero_le _, rfl, kG, hB0⟩
    case round =>
      clear kG hB0
      obtain ⟨k, hk, rfl, kG, hB⟩ := hrel
      by_cases hlt : k < 6
      · have q0 : (0 : Int) ≤ (k : Int) := by omega
        have q1 : (k : Int) < 6 := by omega
        have cG := XG.out k hlt kG
        have HG := Lib.hid (GR.out k (by omega))
        go_wp2_with fail
        refine (HG.out _).mono ?_
        rintro e w99 ⟨rfl, hb⟩
        have kH := Blk.later hb kG; have hB9 := belowThru hB hb; clear hb
        go_wp2_with fail
        go_roundw
        case rel => exact ⟨k + 1, hlt, by go_num, kH, hB9⟩
        case measure => simp [intOf]; omega
      · obtain rfl : k = 6 := by omega
        clear kG hlt hk
        have hBw := hB; clear hB
        go_wp2_with fail
        refine (GN.out _).mono ?_
        rintro e w61 ⟨rfl, hb⟩
        replace hBw : Below w.heap.size w w61 := belowThru hBw hb
        have hzw61 := hBw.size
        clear hb
        go_wp2_with fail
        refine (S1_1.out _).mono ?_
        rintro e w62 ⟨rfl, hb⟩
        replace hBw : Below w.heap.size w w62 := belowThru hBw hb
        have hzw62 := hBw.size
        clear hb
        go_wp2_with fail
        refine (S0_0.out _).mono ?_
        rintro e w63 ⟨rfl, hb⟩
        replace hBw : Below w.heap.size w w63 := belowThru hBw hb
        have hzw63 := hBw.size
        clear hb
        go_wp2_with fail
        refine (S1_1.out _).mono ?_
        rintro e w64 ⟨rfl, hb⟩
        replace hBw : Below w.heap.size w w64 := belowThru hBw hb
        have hzw64 := hBw.size
        clear hb
        go_wp2_with fail
        refine (S0_0.out _).mono ?_
        rintro e w65 ⟨rfl, hb⟩
        replace hBw : Below w.heap.size w w65 := belowThru hBw hb
        have hzw65 := hBw.size
        clear hb
        go_wp2_with fail
        refine (S1_1.out _).mono ?_
        rintro e w66 ⟨rfl, hb⟩
        replace hBw : Below w.heap.size w w66 := belowThru hBw hb
        have hzw66 := hBw.size
        clear hb
        go_wp2_with fail
        refine (S1_1.out _).mono ?_
        rintro e w67 ⟨rfl, hb⟩
        replace hBw : Below w.heap.size w w67 := belowThru hBw hb
        have hzw67 := hBw.size
        clear hb
        go_wp2_with fail
        refine (DE.out _).mono ?_
        rintro e w68 ⟨rfl, hb⟩
        replace hBw : Below w.heap.size w w68 := belowThru hBw hb
        have hzw68 := hBw.size
        clear hb
        go_wp2_with fail
        refine (S0_1.out _).mono ?_
        rintro e w69 ⟨rfl, hb⟩
        replace hBw : Below w.heap.size w w69 := belowThru hBw hb
        have hzw69 := hBw.size
        clear hb
        go_wp2_with fail
        refine (S0_0.out _).mono ?_
        rintro e w70 ⟨rfl, hb⟩
        replace hBw : Below w.heap.size w w70 := belowThru hBw hb
        have hzw70 := hBw.size
        clear hb
        go_wp2_with fail
        refine (S1_1.out _).mono ?_
        rintro e w71 ⟨rfl, hb⟩
        replace hBw : Below w.heap.size w w71 := belowThru hBw hb
        have hzw71 := hBw.size
        clear hb
        go_wp2_with fail
        refine (TN.out _).mono ?_
        rintro e w72 ⟨rfl, hb⟩
        replace hBw : Below w.heap.size w w72 := belowThru hBw hb
        have hzw72 := hBw.size
        clear hb
        go_wp2_with fail
        refine (TA.out _).mono ?_
        rintro e w73 ⟨⟨bt, rfl, hK⟩, hb⟩
        replace hBw : Below w.heap.size w w73 := belowThru hBw hb
        have hzw73 := hBw.size
        clear hb
        go_wp2_with fail
        refine (XK.out _ _ _ hK).mono ?_
        rintro e w74 ⟨rfl, hb⟩
        replace hBw : Below w.heap.size w w74 := belowThru hBw hb
        have hzw74 := hBw.size
        clear hb
        clear hK
        go_wp2_with fail
        refine (XL.out _).mono ?_
        rintro e w75 ⟨rfl, hb⟩
        replace hBw : Below w.heap.size w w75 := belowThru hBw hb
        have hzw75 := hBw.size
        clear hb
        go_wp2_with fail
        refine (XV.out _ _ (by (repeat' (first | (with_reducible assumption) | ((with_reducible refine Blk.new ?_); first | rfl | (simp; done)) | (with_reducible refine Blk.later (by assumption) ?_) | (with_reducible refine Blk.alloc ?_) | (with_reducible refine Blk.drewN ?_) | (with_reducible refine Blk.drew ?_) | (with_reducible refine Blk.other ?_ (by first | omega | (simp; done) | (simp; omega))))))).mono ?_
        rintro e w76 ⟨rfl, hb⟩
        replace hBw : Below w.heap.size w w76 := belowThru (by (repeat' (first | (with_reducible exact Below.refl _ _) | (with_reducible assumption) | (with_reducible refine belowThru ?_ (by assumption)) | (with_reducible refine belowAlloc ?_) | (with_reducible refine Below.setCell ?_ (by first | omega | (simp; done) | (simp; omega)) _) | (with_reducible refine Below.drew ?_) | (with_reducible refine below_drewN ?_ _)))) hb
        have hzw76 := hBw.size
        clear hb
        obtain ⟨C13, hmk⟩ := x_mk
        go_wp2_with fail
        refine (XM.out _ _ _).mono ?_
        rintro e w77 ⟨rfl, hb⟩
        replace hBw : Below w.heap.size w w77 := belowThru (by (repeat' (first | (with_reducible exact Below.refl _ _) | (with_reducible assumption) | (with_reducible refine belowThru ?_ (by assumption)) | (with_reducible refine belowAlloc ?_) | (with_reducible refine Below.setCell ?_ (by first | omega | (simp; done) | (simp; omega)) _) | (with_reducible refine Below.drew ?_) | (with_reducible refine below_drewN ?_ _)))) hb
        have hzw77 := hBw.size
        clear hb
        go_wp2_with fail
        go_ret
        exact ⟨rfl, by (repeat' (first | (with_reducible exact Below.refl _ _) | (with_reducible assumption) | (with_reducible refine belowThru ?_ (by assumption)) | (with_reducible refine belowAlloc ?_) | (with_reducible refine Below.setCell ?_ (by first | omega | (simp; done) | (simp; omega)) _) | (with_reducible refine Below.drew ?_) | (with_reducible refine below_drewN ?_ _)))⟩
end Go.Proofs.Ytbdcmdofmokoeaa
