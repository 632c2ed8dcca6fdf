/-
  The law GaugeExamples: the walk.
-/
import Derived.Test.YtdimmnoflenfhaaM1
import Derived.Test.YtdimmnoflenfhaaM2
import Derived.Test.YtdimmnoflenfhaaM3
import Derived.Test.YtdimmnoflenfhaaM4
import Derived.Test.YtdimmnoflenfhaaM5
import Derived.Test.YtdimmnoflenfhaaM6
import Derived.Test.YtdimmnoflenfhaaM7
import Derived.Test.YtdimmnoflenfhaaM8
import Derived.Test.YtdimmnoflenfhaaM9
import Derived.Test.YtdimmnoflenfhaaM10
namespace Go.Proofs.Ytdimmnoflenfhaa
open Go.RowKit Go.Shelf
set_option linter.unusedVariables false
set_option linter.unusedSimpArgs false

theorem holdX3 {w : World} {b0 b1 b2 : Nat} {c0 c1 c2 : Array Value} {t0 t1 t2 : TypeId} {D0 D1 D2 E G : Prop} (h : (Blk w b0 c0 t0 ∧ D0) ∧ (Blk w b1 c1 t1 ∧ D1) ∧ (Blk w b2 c2 t2 ∧ D2) ∧ E) (g : Blk w b0 c0 t0 → Blk w b1 c1 t1 → Blk w b2 c2 t2 → E → G) : G := g h.1.1 h.2.1.1 h.2.2.1.1 h.2.2.2
theorem holdX4 {w : World} {b0 b1 b2 b3 : Nat} {c0 c1 c2 c3 : Array Value} {t0 t1 t2 t3 : TypeId} {D0 D1 D2 D3 E G : Prop} (h : (Blk w b0 c0 t0 ∧ D0) ∧ (Blk w b1 c1 t1 ∧ D1) ∧ (Blk w b2 c2 t2 ∧ D2) ∧ (Blk w b3 c3 t3 ∧ D3) ∧ E) (g : Blk w b0 c0 t0 → Blk w b1 c1 t1 → Blk w b2 c2 t2 → Blk w b3 c3 t3 → E → G) : G := g h.1.1 h.2.1.1 h.2.2.1.1 h.2.2.2.1.1 h.2.2.2.2
/-- What holds of the region whichever operations have come up. -/
def ExJ (w19 w26 Wq : World) (i150 i151 i152 i149 i153 i154 i155 i22 i23 i8 : Value) (b9 : Act) (L9 : Array Bool) (a9 : Act) (w9 : World) : Prop :=
  ∃ (gg0 gg1 gg2 gg3 gg4 gg5 gg6 gg7 gg8 gg9 gg10 : Bool) (x1 x7 : Nat), L9 = #[gg0, gg1, gg2, gg3, gg4, gg5, gg6, gg7, gg8, gg9, gg10] ∧ a9 = ((((((((((b9).put (some 150) (cond gg0 (.agg #[.int .i64 105, .int .i64 10, .int .i64 2, .int .i64 1, .int .i64 2, .int .i64 1, .int .i64 1, .int .i64 1, .int .i64 2, .int .i64 1]) (i150))).put (some 151) (cond gg1 (.slice (some ⟨x1, 0, none⟩) 6 6) (i151))).put (some 152) (cond gg2 (.tuple #[.agg #[.int .i64 0, .int .i64 1, .int .i64 0, .int .i64 1], .int .u8 3, .int .i64 0]) (i152))).put (some 149) (cond gg3 (.tuple #[.agg #[.int .i64 0, .int .i64 1, .int .i64 0, .int .i64 1], .int .u8 3, .int .i64 0]) (i149))).put (some 153) (cond gg4 (.agg #[.int .i64 0, .int .i64 1, .int .i64 0, .int .i64 1]) (i153))).put (some 154) (cond gg5 (.int .u8 3) (i154))).put (some 155) (cond gg6 (.int .i64 0) (i155))).put (some 22) (cond gg7 (.pointer (some ⟨x7, 0, none⟩)) (i22))).put (some 23) (cond gg9 (.int .u8 3) (i23))).put (some 8) (cond gg10 (.int .i64 0) (i8)) ∧ Blk w9 (w26.heap.size + 1) #[.int .i64 105, .int .i64 10, .int .i64 2, .int .i64 1, .int .i64 2, .int .i64 1, .int .i64 1, .int .i64 1, .int .i64 2, .int .i64 1] 41 ∧ Blk w9 (w19.heap.size) #[.int .i64 3, .int .i64 1, .int .i64 3, .int .i64 1] 30 ∧ Blk w9 (w19.heap.size + 1) #[.int .i64 5, .int .i64 1, .int .i64 5, .int .i64 1] 30 ∧ Below Wq.heap.size Wq w9 ∧ Wq.heap.size ≤ w9.heap.size ∧ (gg1 = true → Blk w9 x1 (ints smp) 3 ∧ Wq.heap.size ≤ x1) ∧ (gg7 = true → Blk w9 x7 (cond gg8 #[.int .i64 0, .int .i64 1, .int .i64 0, .int .i64 1] #[.int .i64 0, .int .i64 0, .int .i64 0, .int .i64 0]) 30 ∧ Wq.heap.size ≤ x7) ∧ (gg1 = true → gg7 = true → x1 ≠ x7) ∧ (gg8 = true → gg7 = true)
/-- What holds of the region whichever operations have come up. -/
def ExI (w19 w26 Wp : World) (i143 i144 i145 i142 i146 i147 i148 i20 i21 i6 : Value) (b9 : Act) (L9 : Array Bool) (a9 : Act) (w9 : World) : Prop :=
  ∃ (gg0 gg1 gg2 gg3 gg4 gg5 gg6 gg7 gg8 gg9 gg10 : Bool) (x1 x7 : Nat), L9 = #[gg0, gg1, gg2, gg3, gg4, gg5, gg6, gg7, gg8, gg9, gg10] ∧ a9 = ((((((((((b9).put (some 143) (cond gg0 (.agg #[.int .i64 200, .int .i64 10, .int .i64 2, .int .i64 1, .int .i64 2, .int .i64 1, .int .i64 1, .int .i64 1, .int .i64 2, .int .i64 1]) (i143))).put (some 144) (cond gg1 (.slice (some ⟨x1, 0, none⟩) 6 6) (i144))).put (some 145) (cond gg2 (.tuple #[.agg #[.int .i64 0, .int .i64 1, .int .i64 0, .int .i64 1], .int .u8 2, .int .i64 0]) (i145))).put (some 142) (cond gg3 (.tuple #[.agg #[.int .i64 0, .int .i64 1, .int .i64 0, .int .i64 1], .int .u8 2, .int .i64 0]) (i142))).put (some 146) (cond gg4 (.agg #[.int .i64 0, .int .i64 1, .int .i64 0, .int .i64 1]) (i146))).put (some 147) (cond gg5 (.int .u8 2) (i147))).put (some 148) (cond gg6 (.int .i64 0) (i148))).put (some 20) (cond gg7 (.pointer (some ⟨x7, 0, none⟩)) (i20))).put (some 21) (cond gg9 (.int .u8 2) (i21))).put (some 6) (cond gg10 (.int .i64 0) (i6)) ∧ Blk w9 (w26.heap.size) #[.int .i64 200, .int .i64 10, .int .i64 2, .int .i64 1, .int .i64 2, .int .i64 1, .int .i64 1, .int .i64 1, .int .i64 2, .int .i64 1] 41 ∧ Blk w9 (w19.heap.size) #[.int .i64 3, .int .i64 1, .int .i64 3, .int .i64 1] 30 ∧ Blk w9 (w19.heap.size + 1) #[.int .i64 5, .int .i64 1, .int .i64 5, .int .i64 1] 30 ∧ Blk w9 (w26.heap.size + 1) #[.int .i64 105, .int .i64 10, .int .i64 2, .int .i64 1, .int .i64 2, .int .i64 1, .int .i64 1, .int .i64 1, .int .i64 2, .int .i64 1] 41 ∧ Below Wp.heap.size Wp w9 ∧ Wp.heap.size ≤ w9.heap.size ∧ (gg1 = true → Blk w9 x1 (ints smp) 3 ∧ Wp.heap.size ≤ x1) ∧ (gg7 = true → Blk w9 x7 (cond gg8 #[.int .i64 0, .int .i64 1, .int .i64 0, .int .i64 1] #[.int .i64 0, .int .i64 0, .int .i64 0, .int .i64 0]) 30 ∧ Wp.heap.size ≤ x7) ∧ (gg1 = true → gg7 = true → x1 ≠ x7) ∧ (gg8 = true → gg7 = true)
set_option maxRecDepth 100000 in
set_option maxHeartbeats 16000000 in
theorem lawEx_true (w : World) :
    Calls Try.prog 3 #[] w fun e w' => e = .returned (.bool true) ∧ Below w.heap.size w w' := by
  have F2_1 := Lib.hid (frac_lit 2 1 ⟨by kernel_rfl, by kernel_rfl⟩ (by decide))
  have F69_16 := Lib.hid (frac_lit 69 16 ⟨by kernel_rfl, by kernel_rfl⟩ (by decide))
  have F9_2 := Lib.hid (frac_lit 9 2 ⟨by kernel_rfl, by kernel_rfl⟩ (by decide))
  have F19_4 := Lib.hid (frac_lit 19 4 ⟨by kernel_rfl, by kernel_rfl⟩ (by decide))
  have O0 := Lib.hid (x_one 0 ⟨by kernel_rfl, by kernel_rfl⟩ (by decide))
  have O1 := Lib.hid (x_one 1 ⟨by kernel_rfl, by kernel_rfl⟩ (by decide))
  have O3 := Lib.hid (x_one 3 ⟨by kernel_rfl, by kernel_rfl⟩ (by decide))
  have O5 := Lib.hid (x_one 5 ⟨by kernel_rfl, by kernel_rfl⟩ (by decide))
  have TW := Lib.hid (twice_any 1 2 ⟨by kernel_rfl, by kernel_rfl⟩ (by decide) ⟨by kernel_rfl, by kernel_rfl⟩ (by decide))
  go_enter Try.func3, Try.ntmps3
  go_wp2_with fail
  refine (sample_any _).mono ?_
  rintro e w1 ⟨bs, rfl, hbs, kS, hb⟩
  clear hbs
  have hBw : Below w.heap.size w w1 := by (repeat' (first | (with_reducible exact Below.refl _ _) | (with_reducible assumption) | (with_reducible refine belowThru ?_ (by assumption)) | (with_reducible refine belowAlloc ?_) | (with_reducible refine Below.setCell ?_ (by first | omega | (simp; done) | (simp; omega)) _) | (with_reducible refine Below.drew ?_) | (with_reducible refine below_drewN ?_ _)))
  have hzw1 := hBw.size
  clear hb
  go_wp2_with fail
  refine (x_first _ _ kS).mono ?_
  rintro e w2 ⟨rfl, hb⟩
  replace hBw : Below w.heap.size w w2 := belowThru (by (repeat' (first | (with_reducible exact Below.refl _ _) | (with_reducible assumption) | (with_reducible refine belowThru ?_ (by assumption)) | (with_reducible refine belowAlloc ?_) | (with_reducible refine Below.setCell ?_ (by first | omega | (simp; done) | (simp; omega)) _) | (with_reducible refine Below.drew ?_) | (with_reducible refine below_drewN ?_ _)))) hb
  have hzw2 := hBw.size
  clear hb
  clear kS
  go_wp2_with fail
  refine (sample_any _).mono ?_
  rintro e w3 ⟨bs, rfl, hbs, kS, hb⟩
  clear hbs
  have kn0 : Blk w3 (w2.heap.size) #[.int .i64 2, .int .i64 1] 23 := Blk.later hb (by (repeat' (first | (with_reducible assumption) | (with_reducible refine Blk.set2 ?_) | ((with_reducible refine Blk.new ?_); first | rfl | (simp; done)) | (with_reducible refine Blk.later (by assumption) ?_) | (with_reducible refine Blk.alloc ?_) | (with_reducible refine Blk.drewN ?_) | (with_reducible refine Blk.drew ?_) | (with_reducible refine Blk.other ?_ (by first | omega | (simp; done) | (simp; omega))))))
  have k0 := kn0; clear kn0; obtain ⟨a0, b0⟩ := k0.read; have y0 := k0.lt
  replace hBw : Below w.heap.size w w3 := belowThru (by (repeat' (first | (with_reducible exact Below.refl _ _) | (with_reducible assumption) | (with_reducible refine belowThru ?_ (by assumption)) | (with_reducible refine belowAlloc ?_) | (with_reducible refine Below.setCell ?_ (by first | omega | (simp; done) | (simp; omega)) _) | (with_reducible refine Below.drew ?_) | (with_reducible refine below_drewN ?_ _)))) hb
  have hzw3 := hBw.size
  clear hb
  go_wp2_with fail
  refine (x_last _ _ kS).mono ?_
  rintro e w4 ⟨rfl, hb⟩
  have kn0 : Blk w4 (w2.heap.size) #[.int .i64 2, .int .i64 1] 23 := Blk.later hb (by (repeat' (first | (with_reducible assumption) | (with_reducible refine Blk.set2 ?_) | ((with_reducible refine Blk.new ?_); first | rfl | (simp; done)) | (with_reducible refine Blk.later (by assumption) ?_) | (with_reducible refine Blk.alloc ?_) | (with_reducible refine Blk.drewN ?_) | (with_reducible refine Blk.drew ?_) | (with_reducible refine Blk.other ?_ (by first | omega | (simp; done) | (simp; omega))))))
  clear k0 a0 b0 y0
  have k0 := kn0; clear kn0; obtain ⟨a0, b0⟩ := k0.read; have y0 := k0.lt
  replace hBw : Below w.heap.size w w4 := belowThru (by (repeat' (first | (with_reducible exact Below.refl _ _) | (with_reducible assumption) | (with_reducible refine belowThru ?_ (by assumption)) | (with_reducible refine belowAlloc ?_) | (with_reducible refine Below.setCell ?_ (by first | omega | (simp; done) | (simp; omega)) _) | (with_reducible refine Below.drew ?_) | (with_reducible refine below_drewN ?_ _)))) hb
  have hzw4 := hBw.size
  clear hb
  clear kS
  go_wp2_with fail
  refine (sample_any _).mono ?_
  rintro e w5 ⟨bs, rfl, hbs, kS, hb⟩
  clear hbs
  have kn0 : Blk w5 (w2.heap.size) #[.int .i64 2, .int .i64 1] 23 := Blk.later hb (by (repeat' (first | (with_reducible assumption) | (with_reducible refine Blk.set2 ?_) | ((with_reducible refine Blk.new ?_); first | rfl | (simp; done)) | (with_reducible refine Blk.later (by assumption) ?_) | (with_reducible refine Blk.alloc ?_) | (with_reducible refine Blk.drewN ?_) | (with_reducible refine Blk.drew ?_) | (with_reducible refine Blk.other ?_ (by first | omega | (simp; done) | (simp; omega))))))
  have kn1 : Blk w5 (w4.heap.size) #[.int .i64 69, .int .i64 16] 23 := Blk.later hb (by (repeat' (first | (with_reducible assumption) | (with_reducible refine Blk.set2 ?_) | ((with_reducible refine Blk.new ?_); first | rfl | (simp; done)) | (with_reducible refine Blk.later (by assumption) ?_) | (with_reducible refine Blk.alloc ?_) | (with_reducible refine Blk.drewN ?_) | (with_reducible refine Blk.drew ?_) | (with_reducible refine Blk.other ?_ (by first | omega | (simp; done) | (simp; omega))))))
  clear k0 a0 b0 y0
  have k0 := kn0; clear kn0; obtain ⟨a0, b0⟩ := k0.read; have y0 := k0.lt
  have k1 := kn1; clear kn1; obtain ⟨a1, b1⟩ := k1.read; have y1 := k1.lt
  replace hBw : Below w.heap.size w w5 := belowThru (by (repeat' (first | (with_reducible exact Below.refl _ _) | (with_reducible assumption) | (with_reducible refine belowThru ?_ (by assumption)) | (with_reducible refine belowAlloc ?_) | (with_reducible refine Below.setCell ?_ (by first | omega | (simp; done) | (simp; omega)) _) | (with_reducible refine Below.drew ?_) | (with_reducible refine below_drewN ?_ _)))) hb
  have hzw5 := hBw.size
  clear hb
  go_wp2_with fail
  refine (x_fall _ _ kS).mono ?_
  rintro e w6 ⟨rfl, hb⟩
  have kn0 : Blk w6 (w2.heap.size) #[.int .i64 2, .int .i64 1] 23 := Blk.later hb (by (repeat' (first | (with_reducible assumption) | (with_reducible refine Blk.set2 ?_) | ((with_reducible refine Blk.new ?_); first | rfl | (simp; done)) | (with_reducible refine Blk.later (by assumption) ?_) | (with_reducible refine Blk.alloc ?_) | (with_reducible refine Blk.drewN ?_) | (with_reducible refine Blk.drew ?_) | (with_reducible refine Blk.other ?_ (by first | omega | (simp; done) | (simp; omega))))))
  have kn1 : Blk w6 (w4.heap.size) #[.int .i64 69, .int .i64 16] 23 := Blk.later hb (by (repeat' (first | (with_reducible assumption) | (with_reducible refine Blk.set2 ?_) | ((with_reducible refine Blk.new ?_); first | rfl | (simp; done)) | (with_reducible refine Blk.later (by assumption) ?_) | (with_reducible refine Blk.alloc ?_) | (with_reducible refine Blk.drewN ?_) | (with_reducible refine Blk.drew ?_) | (with_reducible refine Blk.other ?_ (by first | omega | (simp; done) | (simp; omega))))))
  clear k0 a0 b0 y0
  clear k1 a1 b1 y1
  have k0 := kn0; clear kn0; obtain ⟨a0, b0⟩ := k0.read; have y0 := k0.lt
  have k1 := kn1; clear kn1; obtain ⟨a1, b1⟩ := k1.read; have y1 := k1.lt
  replace hBw : Below w.heap.size w w6 := belowThru (by (repeat' (first | (with_reducible exact Below.refl _ _) | (with_reducible assumption) | (with_reducible refine belowThru ?_ (by assumption)) | (with_reducible refine belowAlloc ?_) | (with_reducible refine Below.setCell ?_ (by first | omega | (simp; done) | (simp; omega)) _) | (with_reducible refine Below.drew ?_) | (with_reducible refine below_drewN ?_ _)))) hb
  have hzw6 := hBw.size
  clear hb
  clear kS
  go_wp2_with fail
  refine (sample_any _).mono ?_
  rintro e w7 ⟨bs, rfl, hbs, kS, hb⟩
  clear hbs
  have kn0 : Blk w7 (w2.heap.size) #[.int .i64 2, .int .i64 1] 23 := Blk.later hb (by (repeat' (first | (with_reducible assumption) | (with_reducible refine Blk.set2 ?_) | ((with_reducible refine Blk.new ?_); first | rfl | (simp; done)) | (with_reducible refine Blk.later (by assumption) ?_) | (with_reducible refine Blk.alloc ?_) | (with_reducible refine Blk.drewN ?_) | (with_reducible refine Blk.drew ?_) | (with_reducible refine Blk.other ?_ (by first | omega | (simp; done) | (simp; omega))))))
  have kn1 : Blk w7 (w4.heap.size) #[.int .i64 69, .int .i64 16] 23 := Blk.later hb (by (repeat' (first | (with_reducible assumption) | (with_reducible refine Blk.set2 ?_) | ((with_reducible refine Blk.new ?_); first | rfl | (simp; done)) | (with_reducible refine Blk.later (by assumption) ?_) | (with_reducible refine Blk.alloc ?_) | (with_reducible refine Blk.drewN ?_) | (with_reducible refine Blk.drew ?_) | (with_reducible refine Blk.other ?_ (by first | omega | (simp; done) | (simp; omega))))))
  have kn2 : Blk w7 (w6.heap.size) #[.int .i64 9, .int .i64 2, .int .i64 19, .int .i64 4] 30 := Blk.later hb (by (repeat' (first | (with_reducible assumption) | (with_reducible refine Blk.set2 ?_) | ((with_reducible refine Blk.new ?_); first | rfl | (simp; done)) | (with_reducible refine Blk.later (by assumption) ?_) | (with_reducible refine Blk.alloc ?_) | (with_reducible refine Blk.drewN ?_) | (with_reducible refine Blk.drew ?_) | (with_reducible refine Blk.other ?_ (by first | omega | (simp; done) | (simp; omega))))))
  clear k0 a0 b0 y0
  clear k1 a1 b1 y1
  have k0 := kn0; clear kn0; obtain ⟨a0, b0⟩ := k0.read; have y0 := k0.lt
  have k1 := kn1; clear kn1; obtain ⟨a1, b1⟩ := k1.read; have y1 := k1.lt
  have k2 := kn2; clear kn2; obtain ⟨a2, b2⟩ := k2.read; have y2 := k2.lt
  replace hBw : Below w.heap.size w w7 := belowThru (by (repeat' (first | (with_reducible exact Below.refl _ _) | (with_reducible assumption) | (with_reducible refine belowThru ?_ (by assumption)) | (with_reducible refine belowAlloc ?_) | (with_reducible refine Below.setCell ?_ (by first | omega | (simp; done) | (simp; omega)) _) | (with_reducible refine Below.drew ?_) | (with_reducible refine below_drewN ?_ _)))) hb
  have hzw7 := hBw.size
  clear hb
  go_wp2_with fail
  refine (x_none _ _ kS).mono ?_
  rintro e w8 ⟨rfl, hb⟩
  have kn0 : Blk w8 (w2.heap.size) #[.int .i64 2, .int .i64 1] 23 := Blk.later hb (by (repeat' (first | (with_reducible assumption) | (with_reducible refine Blk.set2 ?_) | ((with_reducible refine Blk.new ?_); first | rfl | (simp; done)) | (with_reducible refine Blk.later (by assumption) ?_) | (with_reducible refine Blk.alloc ?_) | (with_reducible refine Blk.drewN ?_) | (with_reducible refine Blk.drew ?_) | (with_reducible refine Blk.other ?_ (by first | omega | (simp; done) | (simp; omega))))))
  have kn1 : Blk w8 (w4.heap.size) #[.int .i64 69, .int .i64 16] 23 := Blk.later hb (by (repeat' (first | (with_reducible assumption) | (with_reducible refine Blk.set2 ?_) | ((with_reducible refine Blk.new ?_); first | rfl | (simp; done)) | (with_reducible refine Blk.later (by assumption) ?_) | (with_reducible refine Blk.alloc ?_) | (with_reducible refine Blk.drewN ?_) | (with_reducible refine Blk.drew ?_) | (with_reducible refine Blk.other ?_ (by first | omega | (simp; done) | (simp; omega))))))
  have kn2 : Blk w8 (w6.heap.size) #[.int .i64 9, .int .i64 2, .int .i64 19, .int .i64 4] 30 := Blk.later hb (by (repeat' (first | (with_reducible assumption) | (with_reducible refine Blk.set2 ?_) | ((with_reducible refine Blk.new ?_); first | rfl | (simp; done)) | (with_reducible refine Blk.later (by assumption) ?_) | (with_reducible refine Blk.alloc ?_) | (with_reducible refine Blk.drewN ?_) | (with_reducible refine Blk.drew ?_) | (with_reducible refine Blk.other ?_ (by first | omega | (simp; done) | (simp; omega))))))
  clear k0 a0 b0 y0
  clear k1 a1 b1 y1
  clear k2 a2 b2 y2
  have k0 := kn0; clear kn0; obtain ⟨a0, b0⟩ := k0.read; have y0 := k0.lt
  have k1 := kn1; clear kn1; obtain ⟨a1, b1⟩ := k1.read; have y1 := k1.lt
  have k2 := kn2; clear kn2; obtain ⟨a2, b2⟩ := k2.read; have y2 := k2.lt
  replace hBw : Below w.heap.size w w8 := belowThru (by (repeat' (first | (with_reducible exact Below.refl _ _) | (with_reducible assumption) | (with_reducible refine belowThru ?_ (by assumption)) | (with_reducible refine belowAlloc ?_) | (with_reducible refine Below.setCell ?_ (by first | omega | (simp; done) | (simp; omega)) _) | (with_reducible refine Below.drew ?_) | (with_reducible refine below_drewN ?_ _)))) hb
  have hzw8 := hBw.size
  clear hb
  clear kS
  go_wp2_with fail
  refine (sample_any _).mono ?_
  rintro e w9 ⟨bs, rfl, hbs, kS, hb⟩
  clear hbs
  have kn0 : Blk w9 (w2.heap.size) #[.int .i64 2, .int .i64 1] 23 := Blk.later hb (by (repeat' (first | (with_reducible assumption) | (with_reducible refine Blk.set2 ?_) | ((with_reducible refine Blk.new ?_); first | rfl | (simp; done)) | (with_reducible refine Blk.later (by assumption) ?_) | (with_reducible refine Blk.alloc ?_) | (with_reducible refine Blk.drewN ?_) | (with_reducible refine Blk.drew ?_) | (with_reducible refine Blk.other ?_ (by first | omega | (simp; done) | (simp; omega))))))
  have kn1 : Blk w9 (w4.heap.size) #[.int .i64 69, .int .i64 16] 23 := Blk.later hb (by (repeat' (first | (with_reducible assumption) | (with_reducible refine Blk.set2 ?_) | ((with_reducible refine Blk.new ?_); first | rfl | (simp; done)) | (with_reducible refine Blk.later (by assumption) ?_) | (with_reducible refine Blk.alloc ?_) | (with_reducible refine Blk.drewN ?_) | (with_reducible refine Blk.drew ?_) | (with_reducible refine Blk.other ?_ (by first | omega | (simp; done) | (simp; omega))))))
  have kn2 : Blk w9 (w6.heap.size) #[.int .i64 9, .int .i64 2, .int .i64 19, .int .i64 4] 30 := Blk.later hb (by (repeat' (first | (with_reducible assumption) | (with_reducible refine Blk.set2 ?_) | ((with_reducible refine Blk.new ?_); first | rfl | (simp; done)) | (with_reducible refine Blk.later (by assumption) ?_) | (with_reducible refine Blk.alloc ?_) | (with_reducible refine Blk.drewN ?_) | (with_reducible refine Blk.drew ?_) | (with_reducible refine Blk.other ?_ (by first | omega | (simp; done) | (simp; omega))))))
  have kn3 : Blk w9 (w8.heap.size) #[.int .i64 0, .int .i64 0] 23 := Blk.later hb (by (repeat' (first | (with_reducible assumption) | (with_reducible refine Blk.set2 ?_) | ((with_reducible refine Blk.new ?_); first | rfl | (simp; done)) | (with_reducible refine Blk.later (by assumption) ?_) | (with_reducible refine Blk.alloc ?_) | (with_reducible refine Blk.drewN ?_) | (with_reducible refine Blk.drew ?_) | (with_reducible refine Blk.other ?_ (by first | omega | (simp; done) | (simp; omega))))))
  clear k0 a0 b0 y0
  clear k1 a1 b1 y1
  clear k2 a2 b2 y2
  have k0 := kn0; clear kn0; obtain ⟨a0, b0⟩ := k0.read; have y0 := k0.lt
  have k1 := kn1; clear kn1; obtain ⟨a1, b1⟩ := k1.read; have y1 := k1.lt
  have k2 := kn2; clear kn2; obtain ⟨a2, b2⟩ := k2.read; have y2 := k2.lt
  have k3 := kn3; clear kn3; obtain ⟨a3, b3⟩ := k3.read; have y3 := k3.lt
  replace hBw : Below w.heap.size w w9 := belowThru (by (repeat' (first | (with_reducible exact Below.refl _ _) | (with_reducible assumption) | (with_reducible refine belowThru ?_ (by assumption)) | (with_reducible refine belowAlloc ?_) | (with_reducible refine Below.setCell ?_ (by first | omega | (simp; done) | (simp; omega)) _) | (with_reducible refine Below.drew ?_) | (with_reducible refine below_drewN ?_ _)))) hb
  have hzw9 := hBw.size
  clear hb
  go_wp2_with fail
  refine (x_arg _ _ kS).mono ?_
  rintro e w10 ⟨rfl, hb⟩
  have kn0 : Blk w10 (w2.heap.size) #[.int .i64 2, .int .i64 1] 23 := Blk.later hb (by (repeat' (first | (with_reducible assumption) | (with_reducible refine Blk.set2 ?_) | ((with_reducible refine Blk.new ?_); first | rfl | (simp; done)) | (with_reducible refine Blk.later (by assumption) ?_) | (with_reducible refine Blk.alloc ?_) | (with_reducible refine Blk.drewN ?_) | (with_reducible refine Blk.drew ?_) | (with_reducible refine Blk.other ?_ (by first | omega | (simp; done) | (simp; omega))))))
  have kn1 : Blk w10 (w4.heap.size) #[.int .i64 69, .int .i64 16] 23 := Blk.later hb (by (repeat' (first | (with_reducible assumption) | (with_reducible refine Blk.set2 ?_) | ((with_reducible refine Blk.new ?_); first | rfl | (simp; done)) | (with_reducible refine Blk.later (by assumption) ?_) | (with_reducible refine Blk.alloc ?_) | (with_reducible refine Blk.drewN ?_) | (with_reducible refine Blk.drew ?_) | (with_reducible refine Blk.other ?_ (by first | omega | (simp; done) | (simp; omega))))))
  have kn2 : Blk w10 (w6.heap.size) #[.int .i64 9, .int .i64 2, .int .i64 19, .int .i64 4] 30 := Blk.later hb (by (repeat' (first | (with_reducible assumption) | (with_reducible refine Blk.set2 ?_) | ((with_reducible refine Blk.new ?_); first | rfl | (simp; done)) | (with_reducible refine Blk.later (by assumption) ?_) | (with_reducible refine Blk.alloc ?_) | (with_reducible refine Blk.drewN ?_) | (with_reducible refine Blk.drew ?_) | (with_reducible refine Blk.other ?_ (by first | omega | (simp; done) | (simp; omega))))))
  have kn3 : Blk w10 (w8.heap.size) #[.int .i64 0, .int .i64 0] 23 := Blk.later hb (by (repeat' (first | (with_reducible assumption) | (with_reducible refine Blk.set2 ?_) | ((with_reducible refine Blk.new ?_); first | rfl | (simp; done)) | (with_reducible refine Blk.later (by assumption) ?_) | (with_reducible refine Blk.alloc ?_) | (with_reducible refine Blk.drewN ?_) | (with_reducible refine Blk.drew ?_) | (with_reducible refine Blk.other ?_ (by first | omega | (simp; done) | (simp; omega))))))
  clear k0 a0 b0 y0
  clear k1 a1 b1 y1
  clear k2 a2 b2 y2
  clear k3 a3 b3 y3
  have k0 := kn0; clear kn0; obtain ⟨a0, b0⟩ := k0.read; have y0 := k0.lt
  have k1 := kn1; clear kn1; obtain ⟨a1, b1⟩ := k1.read; have y1 := k1.lt
  have k2 := kn2; clear kn2; obtain ⟨a2, b2⟩ := k2.read; have y2 := k2.lt
  have k3 := kn3; clear kn3; obtain ⟨a3, b3⟩ := k3.read; have y3 := k3.lt
  replace hBw : Below w.heap.size w w10 := belowThru (by (repeat' (first | (with_reducible exact Below.refl _ _) | (with_reducible assumption) | (with_reducible refine belowThru ?_ (by assumption)) | (with_reducible refine belowAlloc ?_) | (with_reducible refine Below.setCell ?_ (by first | omega | (simp; done) | (simp; omega)) _) | (with_reducible refine Below.drew ?_) | (with_reducible refine below_drewN ?_ _)))) hb
  have hzw10 := hBw.size
  clear hb
  clear kS
  go_wp2_with fail
  refine (x_prof _ _ (by (repeat' (first | (with_reducible assumption) | ((with_reducible refine Blk.new ?_); first | rfl | (simp; done)) | (with_reducible refine Blk.later (by assumption) ?_) | (with_reducible refine Blk.alloc ?_) | (with_reducible refine Blk.drewN ?_) | (with_reducible refine Blk.drew ?_) | (with_reducible refine Blk.other ?_ (by first | omega | (simp; done) | (simp; omega))))))).mono ?_
  rintro e w11 ⟨rfl, hb⟩
  have kn0 : Blk w11 (w2.heap.size) #[.int .i64 2, .int .i64 1] 23 := Blk.later hb (by (repeat' (first | (with_reducible assumption) | (with_reducible refine Blk.set2 ?_) | ((with_reducible refine Blk.new ?_); first | rfl | (simp; done)) | (with_reducible refine Blk.later (by assumption) ?_) | (with_reducible refine Blk.alloc ?_) | (with_reducible refine Blk.drewN ?_) | (with_reducible refine Blk.drew ?_) | (with_reducible refine Blk.other ?_ (by first | omega | (simp; done) | (simp; omega))))))
  have kn1 : Blk w11 (w4.heap.size) #[.int .i64 69, .int .i64 16] 23 := Blk.later hb (by (repeat' (first | (with_reducible assumption) | (with_reducible refine Blk.set2 ?_) | ((with_reducible refine Blk.new ?_); first | rfl | (simp; done)) | (with_reducible refine Blk.later (by assumption) ?_) | (with_reducible refine Blk.alloc ?_) | (with_reducible refine Blk.drewN ?_) | (with_reducible refine Blk.drew ?_) | (with_reducible refine Blk.other ?_ (by first | omega | (simp; done) | (simp; omega))))))
  have kn2 : Blk w11 (w6.heap.size) #[.int .i64 9, .int .i64 2, .int .i64 19, .int .i64 4] 30 := Blk.later hb (by (repeat' (first | (with_reducible assumption) | (with_reducible refine Blk.set2 ?_) | ((with_reducible refine Blk.new ?_); first | rfl | (simp; done)) | (with_reducible refine Blk.later (by assumption) ?_) | (with_reducible refine Blk.alloc ?_) | (with_reducible refine Blk.drewN ?_) | (with_reducible refine Blk.drew ?_) | (with_reducible refine Blk.other ?_ (by first | omega | (simp; done) | (simp; omega))))))
  have kn3 : Blk w11 (w8.heap.size) #[.int .i64 0, .int .i64 0] 23 := Blk.later hb (by (repeat' (first | (with_reducible assumption) | (with_reducible refine Blk.set2 ?_) | ((with_reducible refine Blk.new ?_); first | rfl | (simp; done)) | (with_reducible refine Blk.later (by assumption) ?_) | (with_reducible refine Blk.alloc ?_) | (with_reducible refine Blk.drewN ?_) | (with_reducible refine Blk.drew ?_) | (with_reducible refine Blk.other ?_ (by first | omega | (simp; done) | (simp; omega))))))
  have kn4 : Blk w11 (w10.heap.size) #[.int .i64 0, .int .i64 0] 23 := Blk.later hb (by (repeat' (first | (with_reducible assumption) | (with_reducible refine Blk.set2 ?_) | ((with_reducible refine Blk.new ?_); first | rfl | (simp; done)) | (with_reducible refine Blk.later (by assumption) ?_) | (with_reducible refine Blk.alloc ?_) | (with_reducible refine Blk.drewN ?_) | (with_reducible refine Blk.drew ?_) | (with_reducible refine Blk.other ?_ (by first | omega | (simp; done) | (simp; omega))))))
  clear k0 a0 b0 y0
  clear k1 a1 b1 y1
  clear k2 a2 b2 y2
  clear k3 a3 b3 y3
  have k0 := kn0; clear kn0; obtain ⟨a0, b0⟩ := k0.read; have y0 := k0.lt
  have k1 := kn1; clear kn1; obtain ⟨a1, b1⟩ := k1.read; have y1 := k1.lt
  have k2 := kn2; clear kn2; obtain ⟨a2, b2⟩ := k2.read; have y2 := k2.lt
  have k3 := kn3; clear kn3; obtain ⟨a3, b3⟩ := k3.read; have y3 := k3.lt
  have k4 := kn4; clear kn4; obtain ⟨a4, b4⟩ := k4.read; have y4 := k4.lt
  replace hBw : Below w.heap.size w w11 := belowThru (by (repeat' (first | (with_reducible exact Below.refl _ _) | (with_reducible assumption) | (with_reducible refine belowThru ?_ (by assumption)) | (with_reducible refine belowAlloc ?_) | (with_reducible refine Below.setCell ?_ (by first | omega | (simp; done) | (simp; omega)) _) | (with_reducible refine Below.drew ?_) | (with_reducible refine below_drewN ?_ _)))) hb
  have hzw11 := hBw.size
  clear hb
  go_wp2_with fail
  refine (sample_any _).mono ?_
  rintro e w12 ⟨bs, rfl, hbs, kS, hb⟩
  clear hbs
  have kn0 : Blk w12 (w2.heap.size) #[.int .i64 2, .int .i64 1] 23 := Blk.later hb (by (repeat' (first | (with_reducible assumption) | (with_reducible refine Blk.set2 ?_) | ((with_reducible refine Blk.new ?_); first | rfl | (simp; done)) | (with_reducible refine Blk.later (by assumption) ?_) | (with_reducible refine Blk.alloc ?_) | (with_reducible refine Blk.drewN ?_) | (with_reducible refine Blk.drew ?_) | (with_reducible refine Blk.other ?_ (by first | omega | (simp; done) | (simp; omega))))))
  have kn1 : Blk w12 (w4.heap.size) #[.int .i64 69, .int .i64 16] 23 := Blk.later hb (by (repeat' (first | (with_reducible assumption) | (with_reducible refine Blk.set2 ?_) | ((with_reducible refine Blk.new ?_); first | rfl | (simp; done)) | (with_reducible refine Blk.later (by assumption) ?_) | (with_reducible refine Blk.alloc ?_) | (with_reducible refine Blk.drewN ?_) | (with_reducible refine Blk.drew ?_) | (with_reducible refine Blk.other ?_ (by first | omega | (simp; done) | (simp; omega))))))
  have kn2 : Blk w12 (w6.heap.size) #[.int .i64 9, .int .i64 2, .int .i64 19, .int .i64 4] 30 := Blk.later hb (by (repeat' (first | (with_reducible assumption) | (with_reducible refine Blk.set2 ?_) | ((with_reducible refine Blk.new ?_); first | rfl | (simp; done)) | (with_reducible refine Blk.later (by assumption) ?_) | (with_reducible refine Blk.alloc ?_) | (with_reducible refine Blk.drewN ?_) | (with_reducible refine Blk.drew ?_) | (with_reducible refine Blk.other ?_ (by first | omega | (simp; done) | (simp; omega))))))
  have kn3 : Blk w12 (w8.heap.size) #[.int .i64 0, .int .i64 0] 23 := Blk.later hb (by (repeat' (first | (with_reducible assumption) | (with_reducible refine Blk.set2 ?_) | ((with_reducible refine Blk.new ?_); first | rfl | (simp; done)) | (with_reducible refine Blk.later (by assumption) ?_) | (with_reducible refine Blk.alloc ?_) | (with_reducible refine Blk.drewN ?_) | (with_reducible refine Blk.drew ?_) | (with_reducible refine Blk.other ?_ (by first | omega | (simp; done) | (simp; omega))))))
  have kn4 : Blk w12 (w10.heap.size) #[.int .i64 0, .int .i64 0] 23 := Blk.later hb (by (repeat' (first | (with_reducible assumption) | (with_reducible refine Blk.set2 ?_) | ((with_reducible refine Blk.new ?_); first | rfl | (simp; done)) | (with_reducible refine Blk.later (by assumption) ?_) | (with_reducible refine Blk.alloc ?_) | (with_reducible refine Blk.drewN ?_) | (with_reducible refine Blk.drew ?_) | (with_reducible refine Blk.other ?_ (by first | omega | (simp; done) | (simp; omega))))))
  have kn5 : Blk w12 (w11.heap.size) #[.int .i64 0, .int .i64 0] 23 := Blk.later hb (by (repeat' (first | (with_reducible assumption) | (with_reducible refine Blk.set2 ?_) | ((with_reducible refine Blk.new ?_); first | rfl | (simp; done)) | (with_reducible refine Blk.later (by assumption) ?_) | (with_reducible refine Blk.alloc ?_) | (with_reducible refine Blk.drewN ?_) | (with_reducible refine Blk.drew ?_) | (with_reducible refine Blk.other ?_ (by first | omega | (simp; done) | (simp; omega))))))
  clear k0 a0 b0 y0
  clear k1 a1 b1 y1
  clear k2 a2 b2 y2
  clear k3 a3 b3 y3
  clear k4 a4 b4 y4
  have k0 := kn0; clear kn0; obtain ⟨a0, b0⟩ := k0.read; have y0 := k0.lt
  have k1 := kn1; clear kn1; obtain ⟨a1, b1⟩ := k1.read; have y1 := k1.lt
  have k2 := kn2; clear kn2; obtain ⟨a2, b2⟩ := k2.read; have y2 := k2.lt
  have k3 := kn3; clear kn3; obtain ⟨a3, b3⟩ := k3.read; have y3 := k3.lt
  have k4 := kn4; clear kn4; obtain ⟨a4, b4⟩ := k4.read; have y4 := k4.lt
  have k5 := kn5; clear kn5; obtain ⟨a5, b5⟩ := k5.read; have y5 := k5.lt
  replace hBw : Below w.heap.size w w12 := belowThru (by (repeat' (first | (with_reducible exact Below.refl _ _) | (with_reducible assumption) | (with_reducible refine belowThru ?_ (by assumption)) | (with_reducible refine belowAlloc ?_) | (with_reducible refine Below.setCell ?_ (by first | omega | (simp; done) | (simp; omega)) _) | (with_reducible refine Below.drew ?_) | (with_reducible refine below_drewN ?_ _)))) hb
  have hzw12 := hBw.size
  clear hb
  go_wp2_with fail
  refine (x_rise _ _ kS).mono ?_
  rintro e w13 ⟨rfl, hb⟩
  have kn0 : Blk w13 (w2.heap.size) #[.int .i64 2, .int .i64 1] 23 := Blk.later hb (by (repeat' (first | (with_reducible assumption) | (with_reducible refine Blk.set2 ?_) | ((with_reducible refine Blk.new ?_); first | rfl | (simp; done)) | (with_reducible refine Blk.later (by assumption) ?_) | (with_reducible refine Blk.alloc ?_) | (with_reducible refine Blk.drewN ?_) | (with_reducible refine Blk.drew ?_) | (with_reducible refine Blk.other ?_ (by first | omega | (simp; done) | (simp; omega))))))
  have kn1 : Blk w13 (w4.heap.size) #[.int .i64 69, .int .i64 16] 23 := Blk.later hb (by (repeat' (first | (with_reducible assumption) | (with_reducible refine Blk.set2 ?_) | ((with_reducible refine Blk.new ?_); first | rfl | (simp; done)) | (with_reducible refine Blk.later (by assumption) ?_) | (with_reducible refine Blk.alloc ?_) | (with_reducible refine Blk.drewN ?_) | (with_reducible refine Blk.drew ?_) | (with_reducible refine Blk.other ?_ (by first | omega | (simp; done) | (simp; omega))))))
  have kn2 : Blk w13 (w6.heap.size) #[.int .i64 9, .int .i64 2, .int .i64 19, .int .i64 4] 30 := Blk.later hb (by (repeat' (first | (with_reducible assumption) | (with_reducible refine Blk.set2 ?_) | ((with_reducible refine Blk.new ?_); first | rfl | (simp; done)) | (with_reducible refine Blk.later (by assumption) ?_) | (with_reducible refine Blk.alloc ?_) | (with_reducible refine Blk.drewN ?_) | (with_reducible refine Blk.drew ?_) | (with_reducible refine Blk.other ?_ (by first | omega | (simp; done) | (simp; omega))))))
  have kn3 : Blk w13 (w8.heap.size) #[.int .i64 0, .int .i64 0] 23 := Blk.later hb (by (repeat' (first | (with_reducible assumption) | (with_reducible refine Blk.set2 ?_) | ((with_reducible refine Blk.new ?_); first | rfl | (simp; done)) | (with_reducible refine Blk.later (by assumption) ?_) | (with_reducible refine Blk.alloc ?_) | (with_reducible refine Blk.drewN ?_) | (with_reducible refine Blk.drew ?_) | (with_reducible refine Blk.other ?_ (by first | omega | (simp; done) | (simp; omega))))))
  have kn4 : Blk w13 (w10.heap.size) #[.int .i64 0, .int .i64 0] 23 := Blk.later hb (by (repeat' (first | (with_reducible assumption) | (with_reducible refine Blk.set2 ?_) | ((with_reducible refine Blk.new ?_); first | rfl | (simp; done)) | (with_reducible refine Blk.later (by assumption) ?_) | (with_reducible refine Blk.alloc ?_) | (with_reducible refine Blk.drewN ?_) | (with_reducible refine Blk.drew ?_) | (with_reducible refine Blk.other ?_ (by first | omega | (simp; done) | (simp; omega))))))
  have kn5 : Blk w13 (w11.heap.size) #[.int .i64 0, .int .i64 0] 23 := Blk.later hb (by (repeat' (first | (with_reducible assumption) | (with_reducible refine Blk.set2 ?_) | ((with_reducible refine Blk.new ?_); first | rfl | (simp; done)) | (with_reducible refine Blk.later (by assumption) ?_) | (with_reducible refine Blk.alloc ?_) | (with_reducible refine Blk.drewN ?_) | (with_reducible refine Blk.drew ?_) | (with_reducible refine Blk.other ?_ (by first | omega | (simp; done) | (simp; omega))))))
  clear k0 a0 b0 y0
  clear k1 a1 b1 y1
  clear k2 a2 b2 y2
  clear k3 a3 b3 y3
  clear k4 a4 b4 y4
  clear k5 a5 b5 y5
  have k0 := kn0; clear kn0; obtain ⟨a0, b0⟩ := k0.read; have y0 := k0.lt
  have k1 := kn1; clear kn1; obtain ⟨a1, b1⟩ := k1.read; have y1 := k1.lt
  have k2 := kn2; clear kn2; obtain ⟨a2, b2⟩ := k2.read; have y2 := k2.lt
  have k3 := kn3; clear kn3; obtain ⟨a3, b3⟩ := k3.read; have y3 := k3.lt
  have k4 := kn4; clear kn4; obtain ⟨a4, b4⟩ := k4.read; have y4 := k4.lt
  have k5 := kn5; clear kn5; obtain ⟨a5, b5⟩ := k5.read; have y5 := k5.lt
  replace hBw : Below w.heap.size w w13 := belowThru (by (repeat' (first | (with_reducible exact Below.refl _ _) | (with_reducible assumption) | (with_reducible refine belowThru ?_ (by assumption)) | (with_reducible refine belowAlloc ?_) | (with_reducible refine Below.setCell ?_ (by first | omega | (simp; done) | (simp; omega)) _) | (with_reducible refine Below.drew ?_) | (with_reducible refine below_drewN ?_ _)))) hb
  have hzw13 := hBw.size
  clear hb
  clear kS
  go_wp2_with fail
  obtain ⟨Wp, hWp⟩ : ∃ Wp, (w13.alloc (.cells #[.int .i64 0, .int .i64 0, .int .i64 0, .int .i64 0] 30)) = Wp := ⟨_, rfl⟩
  have kn0 : Blk Wp (w2.heap.size) #[.int .i64 2, .int .i64 1] 23 := by rw [← hWp]; (repeat' (first | (with_reducible assumption) | ((with_reducible refine Blk.new ?_); first | rfl | (simp; done)) | (with_reducible refine Blk.later (by assumption) ?_) | (with_reducible refine Blk.alloc ?_) | (with_reducible refine Blk.drewN ?_) | (with_reducible refine Blk.drew ?_) | (with_reducible refine Blk.other ?_ (by first | omega | (simp; done) | (simp; omega)))))
  have kn1 : Blk Wp (w4.heap.size) #[.int .i64 69, .int .i64 16] 23 := by rw [← hWp]; (repeat' (first | (with_reducible assumption) | ((with_reducible refine Blk.new ?_); first | rfl | (simp; done)) | (with_reducible refine Blk.later (by assumption) ?_) | (with_reducible refine Blk.alloc ?_) | (with_reducible refine Blk.drewN ?_) | (with_reducible refine Blk.drew ?_) | (with_reducible refine Blk.other ?_ (by first | omega | (simp; done) | (simp; omega)))))
  have kn2 : Blk Wp (w6.heap.size) #[.int .i64 9, .int .i64 2, .int .i64 19, .int .i64 4] 30 := by rw [← hWp]; (repeat' (first | (with_reducible assumption) | ((with_reducible refine Blk.new ?_); first | rfl | (simp; done)) | (with_reducible refine Blk.later (by assumption) ?_) | (with_reducible refine Blk.alloc ?_) | (with_reducible refine Blk.drewN ?_) | (with_reducible refine Blk.drew ?_) | (with_reducible refine Blk.other ?_ (by first | omega | (simp; done) | (simp; omega)))))
  have kn3 : Blk Wp (w8.heap.size) #[.int .i64 0, .int .i64 0] 23 := by rw [← hWp]; (repeat' (first | (with_reducible assumption) | ((with_reducible refine Blk.new ?_); first | rfl | (simp; done)) | (with_reducible refine Blk.later (by assumption) ?_) | (with_reducible refine Blk.alloc ?_) | (with_reducible refine Blk.drewN ?_) | (with_reducible refine Blk.drew ?_) | (with_reducible refine Blk.other ?_ (by first | omega | (simp; done) | (simp; omega)))))
  have kn4 : Blk Wp (w10.heap.size) #[.int .i64 0, .int .i64 0] 23 := by rw [← hWp]; (repeat' (first | (with_reducible assumption) | ((with_reducible refine Blk.new ?_); first | rfl | (simp; done)) | (with_reducible refine Blk.later (by assumption) ?_) | (with_reducible refine Blk.alloc ?_) | (with_reducible refine Blk.drewN ?_) | (with_reducible refine Blk.drew ?_) | (with_reducible refine Blk.other ?_ (by first | omega | (simp; done) | (simp; omega)))))
  have kn5 : Blk Wp (w11.heap.size) #[.int .i64 0, .int .i64 0] 23 := by rw [← hWp]; (repeat' (first | (with_reducible assumption) | ((with_reducible refine Blk.new ?_); first | rfl | (simp; done)) | (with_reducible refine Blk.later (by assumption) ?_) | (with_reducible refine Blk.alloc ?_) | (with_reducible refine Blk.drewN ?_) | (with_reducible refine Blk.drew ?_) | (with_reducible refine Blk.other ?_ (by first | omega | (simp; done) | (simp; omega)))))
  have kn6 : Blk Wp (w13.heap.size) #[.int .i64 0, .int .i64 0, .int .i64 0, .int .i64 0] 30 := by rw [← hWp]; (repeat' (first | (with_reducible assumption) | ((with_reducible refine Blk.new ?_); first | rfl | (simp; done)) | (with_reducible refine Blk.later (by assumption) ?_) | (with_reducible refine Blk.alloc ?_) | (with_reducible refine Blk.drewN ?_) | (with_reducible refine Blk.drew ?_) | (with_reducible refine Blk.other ?_ (by first | omega | (simp; done) | (simp; omega)))))
  replace hBw : Below w.heap.size w Wp := by rw [← hWp]; (repeat' (first | (with_reducible exact Below.refl _ _) | (with_reducible assumption) | (with_reducible refine belowThru ?_ (by assumption)) | (with_reducible refine belowAlloc ?_) | (with_reducible refine Below.setCell ?_ (by first | omega | (simp; done) | (simp; omega)) _) | (with_reducible refine Below.drew ?_) | (with_reducible refine below_drewN ?_ _)))
  clear k0 a0 b0 y0
  clear k1 a1 b1 y1
  clear k2 a2 b2 y2
  clear k3 a3 b3 y3
  clear k4 a4 b4 y4
  clear k5 a5 b5 y5
  rw [hWp]
  clear hWp
  have k0 := kn0; clear kn0; have y0 := k0.lt
  have k1 := kn1; clear kn1; have y1 := k1.lt
  have k2 := kn2; clear kn2; have y2 := k2.lt
  have k3 := kn3; clear kn3; have y3 := k3.lt
  have k4 := kn4; clear kn4; have y4 := k4.lt
  have k5 := kn5; clear kn5; have y5 := k5.lt
  have k6 := kn6; clear kn6; have y6 := k6.lt
  go_cut [107] (fun s107 wx => s107 = .bool false ∧ Below Wp.heap.size Wp wx)
  case first =>
    go_region_held3 (fun w' => (Blk w' (w2.heap.size) #[.int .i64 2, .int .i64 1] 23 ∧ (∀ i : Nat, w'.cell? ⟨w2.heap.size, i, none⟩ = (#[.int .i64 2, .int .i64 1] : Array Value)[i]?)) ∧ (Blk w' (w4.heap.size) #[.int .i64 69, .int .i64 16] 23 ∧ (∀ i : Nat, w'.cell? ⟨w4.heap.size, i, none⟩ = (#[.int .i64 69, .int .i64 16] : Array Value)[i]?)) ∧ (Blk w' (w6.heap.size) #[.int .i64 9, .int .i64 2, .int .i64 19, .int .i64 4] 30 ∧ (∀ i : Nat, w'.cell? ⟨w6.heap.size, i, none⟩ = (#[.int .i64 9, .int .i64 2, .int .i64 19, .int .i64 4] : Array Value)[i]?)) ∧ Below Wp.heap.size Wp w')
      (((first | (apply holdX3; (focus assumption); intro p0 p1 p2 pB) | skip); refine ⟨Blk.full ?_, Blk.full ?_, Blk.full ?_, ?_⟩; all_goals (first | ((repeat' (first | (with_reducible assumption) | ((with_reducible refine Blk.new ?_); first | rfl | (simp; done)) | (with_reducible refine Blk.later (by assumption) ?_) | (with_reducible refine Blk.alloc ?_) | (with_reducible refine Blk.drewN ?_) | (with_reducible refine Blk.drew ?_) | (with_reducible refine Blk.other ?_ (by first | omega | (simp; done) | (simp; omega))))); done) | ((repeat' (first | (with_reducible exact Below.refl _ _) | (with_reducible assumption) | (with_reducible refine belowThru ?_ (by assumption)) | (with_reducible refine belowAlloc ?_) | (with_reducible refine Below.setCell ?_ (by first | omega | (simp; done) | (simp; omega)) _) | (with_reducible refine Below.drew ?_) | (with_reducible refine below_drewN ?_ _))); done) | exact Below.refl _ _)))
      (first
      | (go_at_call 14; (with_reducible refine (alive_true _).mono ?_); rintro e w1 ⟨rfl, hb⟩)
      | (go_at_call 15; (with_reducible refine (F2_1.out _).mono ?_); rintro e w1 ⟨rfl, hb⟩)
      | (go_at_call 15; (with_reducible refine (F69_16.out _).mono ?_); rintro e w1 ⟨rfl, hb⟩)
      | (go_at_call 15; (with_reducible refine (F9_2.out _).mono ?_); rintro e w1 ⟨rfl, hb⟩)
      | (go_at_call 15; (with_reducible refine (F19_4.out _).mono ?_); rintro e w1 ⟨rfl, hb⟩))
    all_goals
      apply holdX3; (focus assumption); intro p0 p1 p2 pB
      go_wp2_with fail
      go_meet
      exact ⟨rfl, pB⟩
  case rest =>
    obtain ⟨rfl, hb⟩ := hcut
    obtain ⟨w14, rfl⟩ : ∃ z, z = wc := ⟨_, rfl⟩
    replace k0 := Blk.later hb k0; clear y0; obtain ⟨a0, b0⟩ := k0.read; have y0 := k0.lt
    replace k1 := Blk.later hb k1; clear y1; obtain ⟨a1, b1⟩ := k1.read; have y1 := k1.lt
    replace k2 := Blk.later hb k2; clear y2; obtain ⟨a2, b2⟩ := k2.read; have y2 := k2.lt
    replace k3 := Blk.later hb k3; clear y3; obtain ⟨a3, b3⟩ := k3.read; have y3 := k3.lt
    replace k4 := Blk.later hb k4; clear y4; obtain ⟨a4, b4⟩ := k4.read; have y4 := k4.lt
    replace k5 := Blk.later hb k5; clear y5; obtain ⟨a5, b5⟩ := k5.read; have y5 := k5.lt
    replace k6 := Blk.later hb k6; clear y6; obtain ⟨a6, b6⟩ := k6.read; have y6 := k6.lt
    replace hBw : Below w.heap.size w w14 := belowThru hBw hb
    have hzw14 := hBw.size
    clear hb
    clear k0 a0 b0 y0 k1 a1 b1 y1 k2 a2 b2 y2 k3 a3 b3 y3 k4 a4 b4 y4 k5 a5 b5 y5 k6 a6 b6 y6
    go_wp2_with fail
    refine (O0.out _).mono ?_
    rintro e w15 ⟨rfl, hb⟩
    replace hBw : Below w.heap.size w w15 := belowThru (by (repeat' (first | (with_reducible exact Below.refl _ _) | (with_reducible assumption) | (with_reducible refine belowThru ?_ (by assumption)) | (with_reducible refine belowAlloc ?_) | (with_reducible refine Below.setCell ?_ (by first | omega | (simp; done) | (simp; omega)) _) | (with_reducible refine Below.drew ?_) | (with_reducible refine below_drewN ?_ _)))) hb
    have hzw15 := hBw.size
    clear hb
    go_wp2_with fail
    refine (O3.out _).mono ?_
    rintro e w16 ⟨rfl, hb⟩
    replace hBw : Below w.heap.size w w16 := belowThru (by (repeat' (first | (with_reducible exact Below.refl _ _) | (with_reducible assumption) | (with_reducible refine belowThru ?_ (by assumption)) | (with_reducible refine belowAlloc ?_) | (with_reducible refine Below.setCell ?_ (by first | omega | (simp; done) | (simp; omega)) _) | (with_reducible refine Below.drew ?_) | (with_reducible refine below_drewN ?_ _)))) hb
    have hzw16 := hBw.size
    clear hb
    go_wp2_with fail
    refine (O0.out _).mono ?_
    rintro e w17 ⟨rfl, hb⟩
    replace hBw : Below w.heap.size w w17 := belowThru (by (repeat' (first | (with_reducible exact Below.refl _ _) | (with_reducible assumption) | (with_reducible refine belowThru ?_ (by assumption)) | (with_reducible refine belowAlloc ?_) | (with_reducible refine Below.setCell ?_ (by first | omega | (simp; done) | (simp; omega)) _) | (with_reducible refine Below.drew ?_) | (with_reducible refine below_drewN ?_ _)))) hb
    have hzw17 := hBw.size
    clear hb
    go_wp2_with fail
    refine (O5.out _).mono ?_
    rintro e w18 ⟨rfl, hb⟩
    replace hBw : Below w.heap.size w w18 := belowThru (by (repeat' (first | (with_reducible exact Below.refl _ _) | (with_reducible assumption) | (with_reducible refine belowThru ?_ (by assumption)) | (with_reducible refine belowAlloc ?_) | (with_reducible refine Below.setCell ?_ (by first | omega | (simp; done) | (simp; omega)) _) | (with_reducible refine Below.drew ?_) | (with_reducible refine below_drewN ?_ _)))) hb
    have hzw18 := hBw.size
    clear hb
    go_wp2_with fail
    refine (x_meet _).mono ?_
    rintro e w19 ⟨rfl, hb⟩
    replace hBw : Below w.heap.size w w19 := belowThru (by (repeat' (first | (with_reducible exact Below.refl _ _) | (with_reducible assumption) | (with_reducible refine belowThru ?_ (by assumption)) | (with_reducible refine belowAlloc ?_) | (with_reducible refine Below.setCell ?_ (by first | omega | (simp; done) | (simp; omega)) _) | (with_reducible refine Below.drew ?_) | (with_reducible refine below_drewN ?_ _)))) hb
    have hzw19 := hBw.size
    clear hb
    go_wp2_with fail
    refine (O1.out _).mono ?_
    rintro e w20 ⟨rfl, hb⟩
    have kn8 : Blk w20 (w19.heap.size) #[.int .i64 3, .int .i64 1, .int .i64 3, .int .i64 1] 30 := Blk.later hb (by (repeat' (first | (with_reducible assumption) | (with_reducible refine Blk.set2 ?_) | ((with_reducible refine Blk.new ?_); first | rfl | (simp; done)) | (with_reducible refine Blk.later (by assumption) ?_) | (with_reducible refine Blk.alloc ?_) | (with_reducible refine Blk.drewN ?_) | (with_reducible refine Blk.drew ?_) | (with_reducible refine Blk.other ?_ (by first | omega | (simp; done) | (simp; omega))))))
    have kn9 : Blk w20 (w19.heap.size + 1) #[.int .i64 5, .int .i64 1, .int .i64 5, .int .i64 1] 30 := Blk.later hb (by (repeat' (first | (with_reducible assumption) | (with_reducible refine Blk.set2 ?_) | ((with_reducible refine Blk.new ?_); first | rfl | (simp; done)) | (with_reducible refine Blk.later (by assumption) ?_) | (with_reducible refine Blk.alloc ?_) | (with_reducible refine Blk.drewN ?_) | (with_reducible refine Blk.drew ?_) | (with_reducible refine Blk.other ?_ (by first | omega | (simp; done) | (simp; omega))))))
    have k8 := kn8; clear kn8; obtain ⟨a8, b8⟩ := k8.read; have y8 := k8.lt
    have k9 := kn9; clear kn9; obtain ⟨a9, b9⟩ := k9.read; have y9 := k9.lt
    replace hBw : Below w.heap.size w w20 := belowThru (by (repeat' (first | (with_reducible exact Below.refl _ _) | (with_reducible assumption) | (with_reducible refine belowThru ?_ (by assumption)) | (with_reducible refine belowAlloc ?_) | (with_reducible refine Below.setCell ?_ (by first | omega | (simp; done) | (simp; omega)) _) | (with_reducible refine Below.drew ?_) | (with_reducible refine below_drewN ?_ _)))) hb
    have hzw20 := hBw.size
    clear hb
    go_wp2_with fail
    refine (O3.out _).mono ?_
    rintro e w21 ⟨rfl, hb⟩
    have kn8 : Blk w21 (w19.heap.size) #[.int .i64 3, .int .i64 1, .int .i64 3, .int .i64 1] 30 := Blk.later hb (by (repeat' (first | (with_reducible assumption) | (with_reducible refine Blk.set2 ?_) | ((with_reducible refine Blk.new ?_); first | rfl | (simp; done)) | (with_reducible refine Blk.later (by assumption) ?_) | (with_reducible refine Blk.alloc ?_) | (with_reducible refine Blk.drewN ?_) | (with_reducible refine Blk.drew ?_) | (with_reducible refine Blk.other ?_ (by first | omega | (simp; done) | (simp; omega))))))
    have kn9 : Blk w21 (w19.heap.size + 1) #[.int .i64 5, .int .i64 1, .int .i64 5, .int .i64 1] 30 := Blk.later hb (by (repeat' (first | (with_reducible assumption) | (with_reducible refine Blk.set2 ?_) | ((with_reducible refine Blk.new ?_); first | rfl | (simp; done)) | (with_reducible refine Blk.later (by assumption) ?_) | (with_reducible refine Blk.alloc ?_) | (with_reducible refine Blk.drewN ?_) | (with_reducible refine Blk.drew ?_) | (with_reducible refine Blk.other ?_ (by first | omega | (simp; done) | (simp; omega))))))
    clear k8 a8 b8 y8
    clear k9 a9 b9 y9
    have k8 := kn8; clear kn8; obtain ⟨a8, b8⟩ := k8.read; have y8 := k8.lt
    have k9 := kn9; clear kn9; obtain ⟨a9, b9⟩ := k9.read; have y9 := k9.lt
    replace hBw : Below w.heap.size w w21 := belowThru (by (repeat' (first | (with_reducible exact Below.refl _ _) | (with_reducible assumption) | (with_reducible refine belowThru ?_ (by assumption)) | (with_reducible refine belowAlloc ?_) | (with_reducible refine Below.setCell ?_ (by first | omega | (simp; done) | (simp; omega)) _) | (with_reducible refine Below.drew ?_) | (with_reducible refine below_drewN ?_ _)))) hb
    have hzw21 := hBw.size
    clear hb
    go_wp2_with fail
    refine (O1.out _).mono ?_
    rintro e w22 ⟨rfl, hb⟩
    have kn8 : Blk w22 (w19.heap.size) #[.int .i64 3, .int .i64 1, .int .i64 3, .int .i64 1] 30 := Blk.later hb (by (repeat' (first | (with_reducible assumption) | (with_reducible refine Blk.set2 ?_) | ((with_reducible refine Blk.new ?_); first | rfl | (simp; done)) | (with_reducible refine Blk.later (by assumption) ?_) | (with_reducible refine Blk.alloc ?_) | (with_reducible refine Blk.drewN ?_) | (with_reducible refine Blk.drew ?_) | (with_reducible refine Blk.other ?_ (by first | omega | (simp; done) | (simp; omega))))))
    have kn9 : Blk w22 (w19.heap.size + 1) #[.int .i64 5, .int .i64 1, .int .i64 5, .int .i64 1] 30 := Blk.later hb (by (repeat' (first | (with_reducible assumption) | (with_reducible refine Blk.set2 ?_) | ((with_reducible refine Blk.new ?_); first | rfl | (simp; done)) | (with_reducible refine Blk.later (by assumption) ?_) | (with_reducible refine Blk.alloc ?_) | (with_reducible refine Blk.drewN ?_) | (with_reducible refine Blk.drew ?_) | (with_reducible refine Blk.other ?_ (by first | omega | (simp; done) | (simp; omega))))))
    clear k8 a8 b8 y8
    clear k9 a9 b9 y9
    have k8 := kn8; clear kn8; obtain ⟨a8, b8⟩ := k8.read; have y8 := k8.lt
    have k9 := kn9; clear kn9; obtain ⟨a9, b9⟩ := k9.read; have y9 := k9.lt
    replace hBw : Below w.heap.size w w22 := belowThru (by (repeat' (first | (with_reducible exact Below.refl _ _) | (with_reducible assumption) | (with_reducible refine belowThru ?_ (by assumption)) | (with_reducible refine belowAlloc ?_) | (with_reducible refine Below.setCell ?_ (by first | omega | (simp; done) | (simp; omega)) _) | (with_reducible refine Below.drew ?_) | (with_reducible refine below_drewN ?_ _)))) hb
    have hzw22 := hBw.size
    clear hb
    go_wp2_with fail
    refine (O5.out _).mono ?_
    rintro e w23 ⟨rfl, hb⟩
    have kn8 : Blk w23 (w19.heap.size) #[.int .i64 3, .int .i64 1, .int .i64 3, .int .i64 1] 30 := Blk.later hb (by (repeat' (first | (with_reducible assumption) | (with_reducible refine Blk.set2 ?_) | ((with_reducible refine Blk.new ?_); first | rfl | (simp; done)) | (with_reducible refine Blk.later (by assumption) ?_) | (with_reducible refine Blk.alloc ?_) | (with_reducible refine Blk.drewN ?_) | (with_reducible refine Blk.drew ?_) | (with_reducible refine Blk.other ?_ (by first | omega | (simp; done) | (simp; omega))))))
    have kn9 : Blk w23 (w19.heap.size + 1) #[.int .i64 5, .int .i64 1, .int .i64 5, .int .i64 1] 30 := Blk.later hb (by (repeat' (first | (with_reducible assumption) | (with_reducible refine Blk.set2 ?_) | ((with_reducible refine Blk.new ?_); first | rfl | (simp; done)) | (with_reducible refine Blk.later (by assumption) ?_) | (with_reducible refine Blk.alloc ?_) | (with_reducible refine Blk.drewN ?_) | (with_reducible refine Blk.drew ?_) | (with_reducible refine Blk.other ?_ (by first | omega | (simp; done) | (simp; omega))))))
    clear k8 a8 b8 y8
    clear k9 a9 b9 y9
    have k8 := kn8; clear kn8; obtain ⟨a8, b8⟩ := k8.read; have y8 := k8.lt
    have k9 := kn9; clear kn9; obtain ⟨a9, b9⟩ := k9.read; have y9 := k9.lt
    replace hBw : Below w.heap.size w w23 := belowThru (by (repeat' (first | (with_reducible exact Below.refl _ _) | (with_reducible assumption) | (with_reducible refine belowThru ?_ (by assumption)) | (with_reducible refine belowAlloc ?_) | (with_reducible refine Below.setCell ?_ (by first | omega | (simp; done) | (simp; omega)) _) | (with_reducible refine Below.drew ?_) | (with_reducible refine below_drewN ?_ _)))) hb
    have hzw23 := hBw.size
    clear hb
    go_wp2_with fail
    refine (x_flat _).mono ?_
    rintro e w24 ⟨rfl, hb⟩
    have kn8 : Blk w24 (w19.heap.size) #[.int .i64 3, .int .i64 1, .int .i64 3, .int .i64 1] 30 := Blk.later hb (by (repeat' (first | (with_reducible assumption) | (with_reducible refine Blk.set2 ?_) | ((with_reducible refine Blk.new ?_); first | rfl | (simp; done)) | (with_reducible refine Blk.later (by assumption) ?_) | (with_reducible refine Blk.alloc ?_) | (with_reducible refine Blk.drewN ?_) | (with_reducible refine Blk.drew ?_) | (with_reducible refine Blk.other ?_ (by first | omega | (simp; done) | (simp; omega))))))
    have kn9 : Blk w24 (w19.heap.size + 1) #[.int .i64 5, .int .i64 1, .int .i64 5, .int .i64 1] 30 := Blk.later hb (by (repeat' (first | (with_reducible assumption) | (with_reducible refine Blk.set2 ?_) | ((with_reducible refine Blk.new ?_); first | rfl | (simp; done)) | (with_reducible refine Blk.later (by assumption) ?_) | (with_reducible refine Blk.alloc ?_) | (with_reducible refine Blk.drewN ?_) | (with_reducible refine Blk.drew ?_) | (with_reducible refine Blk.other ?_ (by first | omega | (simp; done) | (simp; omega))))))
    clear k8 a8 b8 y8
    clear k9 a9 b9 y9
    have k8 := kn8; clear kn8; obtain ⟨a8, b8⟩ := k8.read; have y8 := k8.lt
    have k9 := kn9; clear kn9; obtain ⟨a9, b9⟩ := k9.read; have y9 := k9.lt
    replace hBw : Below w.heap.size w w24 := belowThru (by (repeat' (first | (with_reducible exact Below.refl _ _) | (with_reducible assumption) | (with_reducible refine belowThru ?_ (by assumption)) | (with_reducible refine belowAlloc ?_) | (with_reducible refine Below.setCell ?_ (by first | omega | (simp; done) | (simp; omega)) _) | (with_reducible refine Below.drew ?_) | (with_reducible refine below_drewN ?_ _)))) hb
    have hzw24 := hBw.size
    clear hb
    go_wp2_with fail
    refine (TW.out _).mono ?_
    rintro e w25 ⟨rfl, hb⟩
    have kn8 : Blk w25 (w19.heap.size) #[.int .i64 3, .int .i64 1, .int .i64 3, .int .i64 1] 30 := Blk.later hb (by (repeat' (first | (with_reducible assumption) | (with_reducible refine Blk.set2 ?_) | ((with_reducible refine Blk.new ?_); first | rfl | (simp; done)) | (with_reducible refine Blk.later (by assumption) ?_) | (with_reducible refine Blk.alloc ?_) | (with_reducible refine Blk.drewN ?_) | (with_reducible refine Blk.drew ?_) | (with_reducible refine Blk.other ?_ (by first | omega | (simp; done) | (simp; omega))))))
    have kn9 : Blk w25 (w19.heap.size + 1) #[.int .i64 5, .int .i64 1, .int .i64 5, .int .i64 1] 30 := Blk.later hb (by (repeat' (first | (with_reducible assumption) | (with_reducible refine Blk.set2 ?_) | ((with_reducible refine Blk.new ?_); first | rfl | (simp; done)) | (with_reducible refine Blk.later (by assumption) ?_) | (with_reducible refine Blk.alloc ?_) | (with_reducible refine Blk.drewN ?_) | (with_reducible refine Blk.drew ?_) | (with_reducible refine Blk.other ?_ (by first | omega | (simp; done) | (simp; omega))))))
    clear k8 a8 b8 y8
    clear k9 a9 b9 y9
    have k8 := kn8; clear kn8; obtain ⟨a8, b8⟩ := k8.read; have y8 := k8.lt
    have k9 := kn9; clear kn9; obtain ⟨a9, b9⟩ := k9.read; have y9 := k9.lt
    replace hBw : Below w.heap.size w w25 := belowThru (by (repeat' (first | (with_reducible exact Below.refl _ _) | (with_reducible assumption) | (with_reducible refine belowThru ?_ (by assumption)) | (with_reducible refine belowAlloc ?_) | (with_reducible refine Below.setCell ?_ (by first | omega | (simp; done) | (simp; omega)) _) | (with_reducible refine Below.drew ?_) | (with_reducible refine below_drewN ?_ _)))) hb
    have hzw25 := hBw.size
    clear hb
    go_wp2_with fail
    refine (TW.out _).mono ?_
    rintro e w26 ⟨rfl, hb⟩
    have kn8 : Blk w26 (w19.heap.size) #[.int .i64 3, .int .i64 1, .int .i64 3, .int .i64 1] 30 := Blk.later hb (by (repeat' (first | (with_reducible assumption) | (with_reducible refine Blk.set2 ?_) | ((with_reducible refine Blk.new ?_); first | rfl | (simp; done)) | (with_reducible refine Blk.later (by assumption) ?_) | (with_reducible refine Blk.alloc ?_) | (with_reducible refine Blk.drewN ?_) | (with_reducible refine Blk.drew ?_) | (with_reducible refine Blk.other ?_ (by first | omega | (simp; done) | (simp; omega))))))
    have kn9 : Blk w26 (w19.heap.size + 1) #[.int .i64 5, .int .i64 1, .int .i64 5, .int .i64 1] 30 := Blk.later hb (by (repeat' (first | (with_reducible assumption) | (with_reducible refine Blk.set2 ?_) | ((with_reducible refine Blk.new ?_); first | rfl | (simp; done)) | (with_reducible refine Blk.later (by assumption) ?_) | (with_reducible refine Blk.alloc ?_) | (with_reducible refine Blk.drewN ?_) | (with_reducible refine Blk.drew ?_) | (with_reducible refine Blk.other ?_ (by first | omega | (simp; done) | (simp; omega))))))
    clear k8 a8 b8 y8
    clear k9 a9 b9 y9
    have k8 := kn8; clear kn8; obtain ⟨a8, b8⟩ := k8.read; have y8 := k8.lt
    have k9 := kn9; clear kn9; obtain ⟨a9, b9⟩ := k9.read; have y9 := k9.lt
    replace hBw : Below w.heap.size w w26 := belowThru (by (repeat' (first | (with_reducible exact Below.refl _ _) | (with_reducible assumption) | (with_reducible refine belowThru ?_ (by assumption)) | (with_reducible refine belowAlloc ?_) | (with_reducible refine Below.setCell ?_ (by first | omega | (simp; done) | (simp; omega)) _) | (with_reducible refine Below.drew ?_) | (with_reducible refine below_drewN ?_ _)))) hb
    have hzw26 := hBw.size
    clear hb
    go_wp2_with fail
    obtain ⟨Wp, hWp⟩ : ∃ Wp, ((w26.alloc (.cells #[.int .i64 200, .int .i64 10, .int .i64 2, .int .i64 1, .int .i64 2, .int .i64 1, .int .i64 1, .int .i64 1, .int .i64 2, .int .i64 1] 41)).alloc (.cells #[.int .i64 105, .int .i64 10, .int .i64 2, .int .i64 1, .int .i64 2, .int .i64 1, .int .i64 1, .int .i64 1, .int .i64 2, .int .i64 1] 41)) = Wp := ⟨_, rfl⟩
    have kn8 : Blk Wp (w19.heap.size) #[.int .i64 3, .int .i64 1, .int .i64 3, .int .i64 1] 30 := by rw [← hWp]; (repeat' (first | (with_reducible assumption) | ((with_reducible refine Blk.new ?_); first | rfl | (simp; done)) | (with_reducible refine Blk.later (by assumption) ?_) | (with_reducible refine Blk.alloc ?_) | (with_reducible refine Blk.drewN ?_) | (with_reducible refine Blk.drew ?_) | (with_reducible refine Blk.other ?_ (by first | omega | (simp; done) | (simp; omega)))))
    have kn9 : Blk Wp (w19.heap.size + 1) #[.int .i64 5, .int .i64 1, .int .i64 5, .int .i64 1] 30 := by rw [← hWp]; (repeat' (first | (with_reducible assumption) | ((with_reducible refine Blk.new ?_); first | rfl | (simp; done)) | (with_reducible refine Blk.later (by assumption) ?_) | (with_reducible refine Blk.alloc ?_) | (with_reducible refine Blk.drewN ?_) | (with_reducible refine Blk.drew ?_) | (with_reducible refine Blk.other ?_ (by first | omega | (simp; done) | (simp; omega)))))
    have kn10 : Blk Wp (w26.heap.size) #[.int .i64 200, .int .i64 10, .int .i64 2, .int .i64 1, .int .i64 2, .int .i64 1, .int .i64 1, .int .i64 1, .int .i64 2, .int .i64 1] 41 := by rw [← hWp]; (repeat' (first | (with_reducible assumption) | ((with_reducible refine Blk.new ?_); first | rfl | (simp; done)) | (with_reducible refine Blk.later (by assumption) ?_) | (with_reducible refine Blk.alloc ?_) | (with_reducible refine Blk.drewN ?_) | (with_reducible refine Blk.drew ?_) | (with_reducible refine Blk.other ?_ (by first | omega | (simp; done) | (simp; omega)))))
    have kn11 : Blk Wp (w26.heap.size + 1) #[.int .i64 105, .int .i64 10, .int .i64 2, .int .i64 1, .int .i64 2, .int .i64 1, .int .i64 1, .int .i64 1, .int .i64 2, .int .i64 1] 41 := by rw [← hWp]; (repeat' (first | (with_reducible assumption) | ((with_reducible refine Blk.new ?_); first | rfl | (simp; done)) | (with_reducible refine Blk.later (by assumption) ?_) | (with_reducible refine Blk.alloc ?_) | (with_reducible refine Blk.drewN ?_) | (with_reducible refine Blk.drew ?_) | (with_reducible refine Blk.other ?_ (by first | omega | (simp; done) | (simp; omega)))))
    replace hBw : Below w.heap.size w Wp := by rw [← hWp]; (repeat' (first | (with_reducible exact Below.refl _ _) | (with_reducible assumption) | (with_reducible refine belowThru ?_ (by assumption)) | (with_reducible refine belowAlloc ?_) | (with_reducible refine Below.setCell ?_ (by first | omega | (simp; done) | (simp; omega)) _) | (with_reducible refine Below.drew ?_) | (with_reducible refine below_drewN ?_ _)))
    clear k8 a8 b8 y8
    clear k9 a9 b9 y9
    rw [hWp]
    clear hWp
    have k8 := kn8; clear kn8; have y8 := k8.lt
    have k9 := kn9; clear kn9; have y9 := k9.lt
    have k10 := kn10; clear kn10; have y10 := k10.lt
    have k11 := kn11; clear kn11; have y11 := k11.lt
    refine wp_region_inv (ExI w19 w26 Wp ?i143 ?i144 ?i145 ?i142 ?i146 ?i147 ?i148 ?i20 ?i21 ?i6) (by kernel_rfl) (by kernel_rfl) ?hsz ?hst ?hstep ?hfin
    case hst =>
      unfold ExI
      refine ⟨false, false, false, false, false, false, false, false, false, false, false, 0, 0, rfl, ?_, ?_, ?_, ?_, ?_, ?_, ?_, ?_, ?_, ?_, ?_⟩
      · first | (simp only [Act.put, List.setIfInBounds_toArray, List.set_cons_zero, List.set_cons_succ, cond_false]; done) | (simp only [Act.put, List.setIfInBounds_toArray, List.set_cons_zero, List.set_cons_succ, cond_false]; rfl)
      all_goals (first | (intro h; cases h; done) | ((repeat' (first | (with_reducible assumption) | ((with_reducible refine Blk.new ?_); first | rfl | (simp; done)) | (with_reducible refine Blk.later (by assumption) ?_) | (with_reducible refine Blk.alloc ?_) | (with_reducible refine Blk.drewN ?_) | (with_reducible refine Blk.drew ?_) | (with_reducible refine Blk.other ?_ (by first | omega | (simp; done) | (simp; omega))))); done) | ((repeat' (first | (with_reducible exact Below.refl _ _) | (with_reducible assumption) | (with_reducible refine belowThru ?_ (by assumption)) | (with_reducible refine belowAlloc ?_) | (with_reducible refine Below.setCell ?_ (by first | omega | (simp; done) | (simp; omega)) _) | (with_reducible refine Below.drew ?_) | (with_reducible refine below_drewN ?_ _))); done) | (simp only [cond_false]; (repeat' (first | (with_reducible assumption) | ((with_reducible refine Blk.new ?_); first | rfl | (simp; done)) | (with_reducible refine Blk.later (by assumption) ?_) | (with_reducible refine Blk.alloc ?_) | (with_reducible refine Blk.drewN ?_) | (with_reducible refine Blk.drew ?_) | (with_reducible refine Blk.other ?_ (by first | omega | (simp; done) | (simp; omega))))); done) | (simp only [World.size_drew]; omega) | (simp only [World.size_drew] at *; omega) | (simp; done) | (simp; omega))
    case hsz =>
      intro L a w9 h
      obtain ⟨gg0, gg1, gg2, gg3, gg4, gg5, gg6, gg7, gg8, gg9, gg10, x1, x7, rfl, -⟩ := h; rfl
    case hstep =>
      intro L a w9 hI i hi
      obtain ⟨gg0, gg1, gg2, gg3, gg4, gg5, gg6, gg7, gg8, gg9, gg10, x1, x7, rfl, rfl, fb0, fb1, fb2, fb3, fB, fL, f1, f7, d1_7, s7⟩ := hI
      obtain ⟨hi1, hi2, o, ho, hall⟩ := inv_mem hi
      clear hi
      rcases i with _ | _ | _ | _ | _ | _ | _ | _ | _ | _ | _ | i
      · have ge0 : gg0 = false := hi2
        clear hall hi1 hi2
        subst ge0
        have ho2 := ho
        simp only [List.getElem?_toArray, List.getElem?_cons_zero, List.getElem?_cons_succ] at ho2
        have ho3 := Option.some.inj ho2; clear ho2; subst ho3
        obtain ⟨ba0, bb0⟩ := fb0.read; have bl0 := fb0.lt
        obtain ⟨ba1, bb1⟩ := fb1.read; have bl1 := fb1.lt
        obtain ⟨ba2, bb2⟩ := fb2.read; have bl2 := fb2.lt
        obtain ⟨ba3, bb3⟩ := fb3.read; have bl3 := fb3.lt
        simp only [Act.put, List.setIfInBounds_toArray, List.set_cons_zero, List.set_cons_succ]
        simp only [cond_true, cond_false]
        refine inv_op ho (by kernel_rfl) (fun K hK => ?_)
        clear ho
        go_simp
        refine hK.out _ _ ?_
        unfold ExI
        refine ⟨true, gg1, gg2, gg3, gg4, gg5, gg6, gg7, gg8, gg9, gg10, x1, x7, rfl, by simp only [Act.put, List.setIfInBounds_toArray, List.set_cons_zero, List.set_cons_succ, cond_true, cond_false, Bool.cond_self], ?_, ?_, ?_, ?_, ?_, ?_, ?_, ?_, ?_, ?_⟩
        · exact fb0
        · exact fb1
        · exact fb2
        · exact fb3
        · exact fB
        · exact fL
        · exact f1
        · exact f7
        · exact d1_7
        · exact s7
      · have ge1 : gg1 = false := hi2
        clear hall hi1 hi2
        subst ge1
        have ho2 := ho
        simp only [List.getElem?_toArray, List.getElem?_cons_zero, List.getElem?_cons_succ] at ho2
        have ho3 := Option.some.inj ho2; clear ho2; subst ho3
        obtain ⟨ba0, bb0⟩ := fb0.read; have bl0 := fb0.lt
        obtain ⟨ba1, bb1⟩ := fb1.read; have bl1 := fb1.lt
        obtain ⟨ba2, bb2⟩ := fb2.read; have bl2 := fb2.lt
        obtain ⟨ba3, bb3⟩ := fb3.read; have bl3 := fb3.lt
        simp only [Act.put, List.setIfInBounds_toArray, List.set_cons_zero, List.set_cons_succ]
        simp only [cond_true, cond_false]
        refine inv_op ho (by kernel_rfl) (fun K hK => ?_)
        clear ho
        go_simp
        go_at_call 10; (with_reducible refine (sample_any _).mono ?_); rintro e w8 ⟨bs, rfl, hbs, kS, hb⟩
        refine hK.out _ _ ?_
        unfold ExI
        refine ⟨gg0, true, gg2, gg3, gg4, gg5, gg6, gg7, gg8, gg9, gg10, bs, x7, rfl, by simp only [Act.put, List.setIfInBounds_toArray, List.set_cons_zero, List.set_cons_succ, cond_true, cond_false, Bool.cond_self], ?_, ?_, ?_, ?_, ?_, ?_, ?_, ?_, ?_, ?_⟩
        · exact Blk.later hb fb0
        · exact Blk.later hb fb1
        · exact Blk.later hb fb2
        · exact Blk.later hb fb3
        · exact belowThru fB hb
        · have := hb.size; omega
        · intro _; exact ⟨kS, by omega⟩
        · intro h; obtain ⟨p, q⟩ := f7 h; exact ⟨Blk.later hb p, q⟩
        · intro _ h; have := (f7 h).1.lt; omega
        · exact s7
      · have ge2 : gg2 = false := hi2
        have ge0 : gg0 = true := inv_dep ho hall 0 (by kernel_rfl)
        have ge1 : gg1 = true := inv_dep ho hall 1 (by kernel_rfl)
        clear hall hi1 hi2
        subst ge2 ge0 ge1
        have ho2 := ho
        simp only [List.getElem?_toArray, List.getElem?_cons_zero, List.getElem?_cons_succ] at ho2
        have ho3 := Option.some.inj ho2; clear ho2; subst ho3
        obtain ⟨p1, q1⟩ := f1 rfl
        obtain ⟨ra1, rb1⟩ := p1.read
        have rl1 := p1.lt
        obtain ⟨ba0, bb0⟩ := fb0.read; have bl0 := fb0.lt
        obtain ⟨ba1, bb1⟩ := fb1.read; have bl1 := fb1.lt
        obtain ⟨ba2, bb2⟩ := fb2.read; have bl2 := fb2.lt
        obtain ⟨ba3, bb3⟩ := fb3.read; have bl3 := fb3.lt
        simp only [Act.put, List.setIfInBounds_toArray, List.set_cons_zero, List.set_cons_succ]
        simp only [cond_true, cond_false]
        refine inv_op ho (by kernel_rfl) (fun K hK => ?_)
        clear ho
        go_simp
        go_at_call 19; (with_reducible refine (x_dark _ _ p1).mono ?_); rintro e w8 ⟨rfl, hb⟩
        refine hK.out _ _ ?_
        unfold ExI
        refine ⟨true, true, true, gg3, gg4, gg5, gg6, gg7, gg8, gg9, gg10, x1, x7, rfl, by simp only [Act.put, List.setIfInBounds_toArray, List.set_cons_zero, List.set_cons_succ, cond_true, cond_false, Bool.cond_self], ?_, ?_, ?_, ?_, ?_, ?_, ?_, ?_, ?_, ?_⟩
        · exact Blk.later hb fb0
        · exact Blk.later hb fb1
        · exact Blk.later hb fb2
        · exact Blk.later hb fb3
        · exact belowThru fB hb
        · have := hb.size; omega
        · intro h; obtain ⟨p, q⟩ := f1 h; exact ⟨Blk.later hb p, q⟩
        · intro h; obtain ⟨p, q⟩ := f7 h; exact ⟨Blk.later hb p, q⟩
        · exact d1_7
        · exact s7
      · have ge3 : gg3 = false := hi2
        have ge2 : gg2 = true := inv_dep ho hall 2 (by kernel_rfl)
        clear hall hi1 hi2
        subst ge3 ge2
        have ho2 := ho
        simp only [List.getElem?_toArray, List.getElem?_cons_zero, List.getElem?_cons_succ] at ho2
        have ho3 := Option.some.inj ho2; clear ho2; subst ho3
        obtain ⟨ba0, bb0⟩ := fb0.read; have bl0 := fb0.lt
        obtain ⟨ba1, bb1⟩ := fb1.read; have bl1 := fb1.lt
        obtain ⟨ba2, bb2⟩ := fb2.read; have bl2 := fb2.lt
        obtain ⟨ba3, bb3⟩ := fb3.read; have bl3 := fb3.lt
        simp only [Act.put, List.setIfInBounds_toArray, List.set_cons_zero, List.set_cons_succ]
        simp only [cond_true, cond_false]
        refine inv_op ho (by kernel_rfl) (fun K hK => ?_)
        clear ho
        go_simp
        refine hK.out _ _ ?_
        unfold ExI
        refine ⟨gg0, gg1, true, true, gg4, gg5, gg6, gg7, gg8, gg9, gg10, x1, x7, rfl, by simp only [Act.put, List.setIfInBounds_toArray, List.set_cons_zero, List.set_cons_succ, cond_true, cond_false, Bool.cond_self], ?_, ?_, ?_, ?_, ?_, ?_, ?_, ?_, ?_, ?_⟩
        · exact fb0
        · exact fb1
        · exact fb2
        · exact fb3
        · exact fB
        · exact fL
        · exact f1
        · exact f7
        · exact d1_7
        · exact s7
      · have ge4 : gg4 = false := hi2
        have ge3 : gg3 = true := inv_dep ho hall 3 (by kernel_rfl)
        clear hall hi1 hi2
        subst ge4 ge3
        have ho2 := ho
        simp only [List.getElem?_toArray, List.getElem?_cons_zero, List.getElem?_cons_succ] at ho2
        have ho3 := Option.some.inj ho2; clear ho2; subst ho3
        obtain ⟨ba0, bb0⟩ := fb0.read; have bl0 := fb0.lt
        obtain ⟨ba1, bb1⟩ := fb1.read; have bl1 := fb1.lt
        obtain ⟨ba2, bb2⟩ := fb2.read; have bl2 := fb2.lt
        obtain ⟨ba3, bb3⟩ := fb3.read; have bl3 := fb3.lt
        simp only [Act.put, List.setIfInBounds_toArray, List.set_cons_zero, List.set_cons_succ]
        simp only [cond_true, cond_false]
        refine inv_op ho (by kernel_rfl) (fun K hK => ?_)
        clear ho
        go_simp
        refine hK.out _ _ ?_
        unfold ExI
        refine ⟨gg0, gg1, gg2, true, true, gg5, gg6, gg7, gg8, gg9, gg10, x1, x7, rfl, by simp only [Act.put, List.setIfInBounds_toArray, List.set_cons_zero, List.set_cons_succ, cond_true, cond_false, Bool.cond_self], ?_, ?_, ?_, ?_, ?_, ?_, ?_, ?_, ?_, ?_⟩
        · exact fb0
        · exact fb1
        · exact fb2
        · exact fb3
        · exact fB
        · exact fL
        · exact f1
        · exact f7
        · exact d1_7
        · exact s7
      · have ge5 : gg5 = false := hi2
        have ge3 : gg3 = true := inv_dep ho hall 3 (by kernel_rfl)
        clear hall hi1 hi2
        subst ge5 ge3
        have ho2 := ho
        simp only [List.getElem?_toArray, List.getElem?_cons_zero, List.getElem?_cons_succ] at ho2
        have ho3 := Option.some.inj ho2; clear ho2; subst ho3
        obtain ⟨ba0, bb0⟩ := fb0.read; have bl0 := fb0.lt
        obtain ⟨ba1, bb1⟩ := fb1.read; have bl1 := fb1.lt
        obtain ⟨ba2, bb2⟩ := fb2.read; have bl2 := fb2.lt
        obtain ⟨ba3, bb3⟩ := fb3.read; have bl3 := fb3.lt
        simp only [Act.put, List.setIfInBounds_toArray, List.set_cons_zero, List.set_cons_succ]
        simp only [cond_true, cond_false]
        refine inv_op ho (by kernel_rfl) (fun K hK => ?_)
        clear ho
        go_simp
        refine hK.out _ _ ?_
        unfold ExI
        refine ⟨gg0, gg1, gg2, true, gg4, true, gg6, gg7, gg8, gg9, gg10, x1, x7, rfl, by simp only [Act.put, List.setIfInBounds_toArray, List.set_cons_zero, List.set_cons_succ, cond_true, cond_false, Bool.cond_self], ?_, ?_, ?_, ?_, ?_, ?_, ?_, ?_, ?_, ?_⟩
        · exact fb0
        · exact fb1
        · exact fb2
        · exact fb3
        · exact fB
        · exact fL
        · exact f1
        · exact f7
        · exact d1_7
        · exact s7
      · have ge6 : gg6 = false := hi2
        have ge3 : gg3 = true := inv_dep ho hall 3 (by kernel_rfl)
        clear hall hi1 hi2
        subst ge6 ge3
        have ho2 := ho
        simp only [List.getElem?_toArray, List.getElem?_cons_zero, List.getElem?_cons_succ] at ho2
        have ho3 := Option.some.inj ho2; clear ho2; subst ho3
        obtain ⟨ba0, bb0⟩ := fb0.read; have bl0 := fb0.lt
        obtain ⟨ba1, bb1⟩ := fb1.read; have bl1 := fb1.lt
        obtain ⟨ba2, bb2⟩ := fb2.read; have bl2 := fb2.lt
        obtain ⟨ba3, bb3⟩ := fb3.read; have bl3 := fb3.lt
        simp only [Act.put, List.setIfInBounds_toArray, List.set_cons_zero, List.set_cons_succ]
        simp only [cond_true, cond_false]
        refine inv_op ho (by kernel_rfl) (fun K hK => ?_)
        clear ho
        go_simp
        refine hK.out _ _ ?_
        unfold ExI
        refine ⟨gg0, gg1, gg2, true, gg4, gg5, true, gg7, gg8, gg9, gg10, x1, x7, rfl, by simp only [Act.put, List.setIfInBounds_toArray, List.set_cons_zero, List.set_cons_succ, cond_true, cond_false, Bool.cond_self], ?_, ?_, ?_, ?_, ?_, ?_, ?_, ?_, ?_, ?_⟩
        · exact fb0
        · exact fb1
        · exact fb2
        · exact fb3
        · exact fB
        · exact fL
        · exact f1
        · exact f7
        · exact d1_7
        · exact s7
      · have ge7 : gg7 = false := hi2
        clear hall hi1 hi2
        subst ge7
        have ho2 := ho
        simp only [List.getElem?_toArray, List.getElem?_cons_zero, List.getElem?_cons_succ] at ho2
        have ho3 := Option.some.inj ho2; clear ho2; subst ho3
        obtain ⟨ba0, bb0⟩ := fb0.read; have bl0 := fb0.lt
        obtain ⟨ba1, bb1⟩ := fb1.read; have bl1 := fb1.lt
        obtain ⟨ba2, bb2⟩ := fb2.read; have bl2 := fb2.lt
        obtain ⟨ba3, bb3⟩ := fb3.read; have bl3 := fb3.lt
        obtain rfl : gg8 = false := by cases gg8; rfl; exact Bool.noConfusion (s7 rfl)
        simp only [Act.put, List.setIfInBounds_toArray, List.set_cons_zero, List.set_cons_succ]
        simp only [cond_true, cond_false]
        refine inv_op ho (by kernel_rfl) (fun K hK => ?_)
        clear ho
        go_simp
        refine hK.out _ _ ?_
        unfold ExI
        refine ⟨gg0, gg1, gg2, gg3, gg4, gg5, gg6, true, false, gg9, gg10, x1, w9.heap.size, rfl, by simp only [Act.put, List.setIfInBounds_toArray, List.set_cons_zero, List.set_cons_succ, cond_true, cond_false, Bool.cond_self], ?_, ?_, ?_, ?_, ?_, ?_, ?_, ?_, ?_, ?_⟩
        · exact fb0.alloc
        · exact fb1.alloc
        · exact fb2.alloc
        · exact fb3.alloc
        · exact belowAlloc fB
        · simp only [World.size_alloc]; omega
        · intro h; obtain ⟨p, q⟩ := f1 h; exact ⟨p.alloc, q⟩
        · intro _; exact ⟨Blk.new rfl, fL⟩
        · intro h _; have := (f1 h).1.lt; omega
        · intro _; rfl
      · have ge8 : gg8 = false := hi2
        have ge4 : gg4 = true := inv_dep ho hall 4 (by kernel_rfl)
        have ge7 : gg7 = true := inv_dep ho hall 7 (by kernel_rfl)
        clear hall hi1 hi2
        subst ge8 ge4 ge7
        have ho2 := ho
        simp only [List.getElem?_toArray, List.getElem?_cons_zero, List.getElem?_cons_succ] at ho2
        have ho3 := Option.some.inj ho2; clear ho2; subst ho3
        obtain ⟨p7, q7⟩ := f7 rfl
        obtain ⟨ra7, rb7⟩ := p7.read
        have rl7 := p7.lt
        obtain ⟨ba0, bb0⟩ := fb0.read; have bl0 := fb0.lt
        obtain ⟨ba1, bb1⟩ := fb1.read; have bl1 := fb1.lt
        obtain ⟨ba2, bb2⟩ := fb2.read; have bl2 := fb2.lt
        obtain ⟨ba3, bb3⟩ := fb3.read; have bl3 := fb3.lt
        have rl7 := p7.lt
        skip
        simp only [Act.put, List.setIfInBounds_toArray, List.set_cons_zero, List.set_cons_succ]
        simp only [cond_true, cond_false]
        refine inv_op ho (by kernel_rfl) (fun K hK => ?_)
        clear ho
        go_simp
        refine hK.out _ _ ?_
        unfold ExI
        refine ⟨gg0, gg1, gg2, gg3, true, gg5, gg6, true, true, gg9, gg10, x1, x7, rfl, by simp only [Act.put, List.setIfInBounds_toArray, List.set_cons_zero, List.set_cons_succ, cond_true, cond_false, Bool.cond_self], ?_, ?_, ?_, ?_, ?_, ?_, ?_, ?_, ?_, ?_⟩
        · (repeat' (first | (with_reducible assumption) | ((with_reducible refine Blk.new ?_); first | rfl | (simp; done)) | (with_reducible refine Blk.later (by assumption) ?_) | (with_reducible refine Blk.alloc ?_) | (with_reducible refine Blk.drewN ?_) | (with_reducible refine Blk.drew ?_) | (with_reducible refine Blk.other ?_ (by first | omega | (simp; done) | (simp; omega)))))
        · (repeat' (first | (with_reducible assumption) | ((with_reducible refine Blk.new ?_); first | rfl | (simp; done)) | (with_reducible refine Blk.later (by assumption) ?_) | (with_reducible refine Blk.alloc ?_) | (with_reducible refine Blk.drewN ?_) | (with_reducible refine Blk.drew ?_) | (with_reducible refine Blk.other ?_ (by first | omega | (simp; done) | (simp; omega)))))
        · (repeat' (first | (with_reducible assumption) | ((with_reducible refine Blk.new ?_); first | rfl | (simp; done)) | (with_reducible refine Blk.later (by assumption) ?_) | (with_reducible refine Blk.alloc ?_) | (with_reducible refine Blk.drewN ?_) | (with_reducible refine Blk.drew ?_) | (with_reducible refine Blk.other ?_ (by first | omega | (simp; done) | (simp; omega)))))
        · (repeat' (first | (with_reducible assumption) | ((with_reducible refine Blk.new ?_); first | rfl | (simp; done)) | (with_reducible refine Blk.later (by assumption) ?_) | (with_reducible refine Blk.alloc ?_) | (with_reducible refine Blk.drewN ?_) | (with_reducible refine Blk.drew ?_) | (with_reducible refine Blk.other ?_ (by first | omega | (simp; done) | (simp; omega)))))
        · (repeat' (first | (with_reducible exact Below.refl _ _) | (with_reducible assumption) | (with_reducible refine belowThru ?_ (by assumption)) | (with_reducible refine belowAlloc ?_) | (with_reducible refine Below.setCell ?_ (by first | omega | (simp; done) | (simp; omega)) _) | (with_reducible refine Below.drew ?_) | (with_reducible refine below_drewN ?_ _)))
        · first | exact fL | (simp; omega)
        · intro h; obtain ⟨p, q⟩ := f1 h; have hne := d1_7 h rfl; exact ⟨by (repeat' (first | (with_reducible assumption) | ((with_reducible refine Blk.new ?_); first | rfl | (simp; done)) | (with_reducible refine Blk.later (by assumption) ?_) | (with_reducible refine Blk.alloc ?_) | (with_reducible refine Blk.drewN ?_) | (with_reducible refine Blk.drew ?_) | (with_reducible refine Blk.other ?_ (by first | omega | (simp; done) | (simp; omega))))), q⟩
        · intro _; exact ⟨by exact Blk.set (Blk.set (Blk.set (Blk.set (p7)))), q7⟩
        · exact d1_7
        · intro _; rfl
      · have ge9 : gg9 = false := hi2
        have ge5 : gg5 = true := inv_dep ho hall 5 (by kernel_rfl)
        clear hall hi1 hi2
        subst ge9 ge5
        have ho2 := ho
        simp only [List.getElem?_toArray, List.getElem?_cons_zero, List.getElem?_cons_succ] at ho2
        have ho3 := Option.some.inj ho2; clear ho2; subst ho3
        obtain ⟨ba0, bb0⟩ := fb0.read; have bl0 := fb0.lt
        obtain ⟨ba1, bb1⟩ := fb1.read; have bl1 := fb1.lt
        obtain ⟨ba2, bb2⟩ := fb2.read; have bl2 := fb2.lt
        obtain ⟨ba3, bb3⟩ := fb3.read; have bl3 := fb3.lt
        simp only [Act.put, List.setIfInBounds_toArray, List.set_cons_zero, List.set_cons_succ]
        simp only [cond_true, cond_false]
        refine inv_op ho (by kernel_rfl) (fun K hK => ?_)
        clear ho
        go_simp
        refine hK.out _ _ ?_
        unfold ExI
        refine ⟨gg0, gg1, gg2, gg3, gg4, true, gg6, gg7, gg8, true, gg10, x1, x7, rfl, by simp only [Act.put, List.setIfInBounds_toArray, List.set_cons_zero, List.set_cons_succ, cond_true, cond_false, Bool.cond_self], ?_, ?_, ?_, ?_, ?_, ?_, ?_, ?_, ?_, ?_⟩
        · exact fb0
        · exact fb1
        · exact fb2
        · exact fb3
        · exact fB
        · exact fL
        · exact f1
        · exact f7
        · exact d1_7
        · exact s7
      · have ge10 : gg10 = false := hi2
        have ge6 : gg6 = true := inv_dep ho hall 6 (by kernel_rfl)
        clear hall hi1 hi2
        subst ge10 ge6
        have ho2 := ho
        simp only [List.getElem?_toArray, List.getElem?_cons_zero, List.getElem?_cons_succ] at ho2
        have ho3 := Option.some.inj ho2; clear ho2; subst ho3
        obtain ⟨ba0, bb0⟩ := fb0.read; have bl0 := fb0.lt
        obtain ⟨ba1, bb1⟩ := fb1.read; have bl1 := fb1.lt
        obtain ⟨ba2, bb2⟩ := fb2.read; have bl2 := fb2.lt
        obtain ⟨ba3, bb3⟩ := fb3.read; have bl3 := fb3.lt
        simp only [Act.put, List.setIfInBounds_toArray, List.set_cons_zero, List.set_cons_succ]
        simp only [cond_true, cond_false]
        refine inv_op ho (by kernel_rfl) (fun K hK => ?_)
        clear ho
        go_simp
        refine hK.out _ _ ?_
        unfold ExI
        refine ⟨gg0, gg1, gg2, gg3, gg4, gg5, true, gg7, gg8, gg9, true, x1, x7, rfl, by simp only [Act.put, List.setIfInBounds_toArray, List.set_cons_zero, List.set_cons_succ, cond_true, cond_false, Bool.cond_self], ?_, ?_, ?_, ?_, ?_, ?_, ?_, ?_, ?_, ?_⟩
        · exact fb0
        · exact fb1
        · exact fb2
        · exact fb3
        · exact fB
        · exact fL
        · exact f1
        · exact f7
        · exact d1_7
        · exact s7
      · exfalso; simp at hi1; omega
    case hfin =>
      intro a w9 hI
      obtain ⟨gg0, gg1, gg2, gg3, gg4, gg5, gg6, gg7, gg8, gg9, gg10, x1, x7, hL, rfl, fb0, fb1, fb2, fb3, fB, fL, f1, f7, d1_7, s7⟩ := hI
      have hL2 : #[true, true, true, true, true, true, true, true, true, true, true] = #[gg0, gg1, gg2, gg3, gg4, gg5, gg6, gg7, gg8, gg9, gg10] := hL
      cases hL2
      obtain ⟨p1, q1⟩ := f1 rfl
      obtain ⟨p7, q7⟩ := f7 rfl
      have n1_7 := d1_7 rfl rfl
      clear f1 f7 d1_7 s7
      simp only [Act.put, List.setIfInBounds_toArray, List.set_cons_zero, List.set_cons_succ]
      simp only [cond_true]
      go_wp2_with fail
      obtain ⟨Wq, rfl⟩ : ∃ z, z = w9 := ⟨_, rfl⟩
      have hBw : Below w.heap.size w Wq := belowThru hBw (by (repeat' (first | (with_reducible exact Below.refl _ _) | (with_reducible assumption) | (with_reducible refine belowThru ?_ (by assumption)) | (with_reducible refine belowAlloc ?_) | (with_reducible refine Below.setCell ?_ (by first | omega | (simp; done) | (simp; omega)) _) | (with_reducible refine Below.drew ?_) | (with_reducible refine below_drewN ?_ _))))
      have z1 := fb1; have z2 := fb2; have z3 := fb3
      have yz1 := z1.lt; have yz2 := z2.lt; have yz3 := z3.lt
      clear fb0 fb1 fb2 fb3 p1 p7 fB
      refine wp_region_inv (ExJ w19 w26 Wq ?i150 ?i151 ?i152 ?i149 ?i153 ?i154 ?i155 ?i22 ?i23 ?i8) (by kernel_rfl) (by kernel_rfl) ?hsz ?hst ?hstep ?hfin
      case hst =>
        unfold ExJ
        refine ⟨false, false, false, false, false, false, false, false, false, false, false, 0, 0, rfl, ?_, ?_, ?_, ?_, ?_, ?_, ?_, ?_, ?_, ?_⟩
        · first | (simp only [Act.put, List.setIfInBounds_toArray, List.set_cons_zero, List.set_cons_succ, cond_false]; done) | (simp only [Act.put, List.setIfInBounds_toArray, List.set_cons_zero, List.set_cons_succ, cond_false]; rfl)
        all_goals (first | (intro h; cases h; done) | ((repeat' (first | (with_reducible assumption) | ((with_reducible refine Blk.new ?_); first | rfl | (simp; done)) | (with_reducible refine Blk.later (by assumption) ?_) | (with_reducible refine Blk.alloc ?_) | (with_reducible refine Blk.drewN ?_) | (with_reducible refine Blk.drew ?_) | (with_reducible refine Blk.other ?_ (by first | omega | (simp; done) | (simp; omega))))); done) | ((repeat' (first | (with_reducible exact Below.refl _ _) | (with_reducible assumption) | (with_reducible refine belowThru ?_ (by assumption)) | (with_reducible refine belowAlloc ?_) | (with_reducible refine Below.setCell ?_ (by first | omega | (simp; done) | (simp; omega)) _) | (with_reducible refine Below.drew ?_) | (with_reducible refine below_drewN ?_ _))); done) | (simp only [cond_false]; (repeat' (first | (with_reducible assumption) | ((with_reducible refine Blk.new ?_); first | rfl | (simp; done)) | (with_reducible refine Blk.later (by assumption) ?_) | (with_reducible refine Blk.alloc ?_) | (with_reducible refine Blk.drewN ?_) | (with_reducible refine Blk.drew ?_) | (with_reducible refine Blk.other ?_ (by first | omega | (simp; done) | (simp; omega))))); done) | (simp only [World.size_drew]; omega) | (simp only [World.size_drew] at *; omega) | (simp; done) | (simp; omega))
      case hsz =>
        intro L a w9 h
        obtain ⟨gg0, gg1, gg2, gg3, gg4, gg5, gg6, gg7, gg8, gg9, gg10, x1, x7, rfl, -⟩ := h; rfl
      case hstep =>
        intro L a w9 hI i hi
        obtain ⟨gg0, gg1, gg2, gg3, gg4, gg5, gg6, gg7, gg8, gg9, gg10, x1, x7, rfl, rfl, fb0, fb1, fb2, fB, fL, f1, f7, d1_7, s7⟩ := hI
        obtain ⟨hi1, hi2, o, ho, hall⟩ := inv_mem hi
        clear hi
        rcases i with _ | _ | _ | _ | _ | _ | _ | _ | _ | _ | _ | i
        · have ge0 : gg0 = false := hi2
          clear hall hi1 hi2
          subst ge0
          have ho2 := ho
          simp only [List.getElem?_toArray, List.getElem?_cons_zero, List.getElem?_cons_succ] at ho2
          have ho3 := Option.some.inj ho2; clear ho2; subst ho3
          obtain ⟨ba0, bb0⟩ := fb0.read; have bl0 := fb0.lt
          obtain ⟨ba1, bb1⟩ := fb1.read; have bl1 := fb1.lt
          obtain ⟨ba2, bb2⟩ := fb2.read; have bl2 := fb2.lt
          simp only [Act.put, List.setIfInBounds_toArray, List.set_cons_zero, List.set_cons_succ]
          simp only [cond_true, cond_false]
          refine inv_op ho (by kernel_rfl) (fun K hK => ?_)
          clear ho
          go_simp
          refine hK.out _ _ ?_
          unfold ExJ
          refine ⟨true, gg1, gg2, gg3, gg4, gg5, gg6, gg7, gg8, gg9, gg10, x1, x7, rfl, by simp only [Act.put, List.setIfInBounds_toArray, List.set_cons_zero, List.set_cons_succ, cond_true, cond_false, Bool.cond_self], ?_, ?_, ?_, ?_, ?_, ?_, ?_, ?_, ?_⟩
          · exact fb0
          · exact fb1
          · exact fb2
          · exact fB
          · exact fL
          · exact f1
          · exact f7
          · exact d1_7
          · exact s7
        · have ge1 : gg1 = false := hi2
          clear hall hi1 hi2
          subst ge1
          have ho2 := ho
          simp only [List.getElem?_toArray, List.getElem?_cons_zero, List.getElem?_cons_succ] at ho2
          have ho3 := Option.some.inj ho2; clear ho2; subst ho3
          obtain ⟨ba0, bb0⟩ := fb0.read; have bl0 := fb0.lt
          obtain ⟨ba1, bb1⟩ := fb1.read; have bl1 := fb1.lt
          obtain ⟨ba2, bb2⟩ := fb2.read; have bl2 := fb2.lt
          simp only [Act.put, List.setIfInBounds_toArray, List.set_cons_zero, List.set_cons_succ]
          simp only [cond_true, cond_false]
          refine inv_op ho (by kernel_rfl) (fun K hK => ?_)
          clear ho
          go_simp
          go_at_call 10; (with_reducible refine (sample_any _).mono ?_); rintro e w8 ⟨bs, rfl, hbs, kS, hb⟩
          refine hK.out _ _ ?_
          unfold ExJ
          refine ⟨gg0, true, gg2, gg3, gg4, gg5, gg6, gg7, gg8, gg9, gg10, bs, x7, rfl, by simp only [Act.put, List.setIfInBounds_toArray, List.set_cons_zero, List.set_cons_succ, cond_true, cond_false, Bool.cond_self], ?_, ?_, ?_, ?_, ?_, ?_, ?_, ?_, ?_⟩
          · exact Blk.later hb fb0
          · exact Blk.later hb fb1
          · exact Blk.later hb fb2
          · exact belowThru fB hb
          · have := hb.size; omega
          · intro _; exact ⟨kS, by omega⟩
          · intro h; obtain ⟨p, q⟩ := f7 h; exact ⟨Blk.later hb p, q⟩
          · intro _ h; have := (f7 h).1.lt; omega
          · exact s7
        · have ge2 : gg2 = false := hi2
          have ge0 : gg0 = true := inv_dep ho hall 0 (by kernel_rfl)
          have ge1 : gg1 = true := inv_dep ho hall 1 (by kernel_rfl)
          clear hall hi1 hi2
          subst ge2 ge0 ge1
          have ho2 := ho
          simp only [List.getElem?_toArray, List.getElem?_cons_zero, List.getElem?_cons_succ] at ho2
          have ho3 := Option.some.inj ho2; clear ho2; subst ho3
          obtain ⟨p1, q1⟩ := f1 rfl
          obtain ⟨ra1, rb1⟩ := p1.read
          have rl1 := p1.lt
          obtain ⟨ba0, bb0⟩ := fb0.read; have bl0 := fb0.lt
          obtain ⟨ba1, bb1⟩ := fb1.read; have bl1 := fb1.lt
          obtain ⟨ba2, bb2⟩ := fb2.read; have bl2 := fb2.lt
          simp only [Act.put, List.setIfInBounds_toArray, List.set_cons_zero, List.set_cons_succ]
          simp only [cond_true, cond_false]
          refine inv_op ho (by kernel_rfl) (fun K hK => ?_)
          clear ho
          go_simp
          go_at_call 19; (with_reducible refine (x_open _ _ p1).mono ?_); rintro e w8 ⟨rfl, hb⟩
          refine hK.out _ _ ?_
          unfold ExJ
          refine ⟨true, true, true, gg3, gg4, gg5, gg6, gg7, gg8, gg9, gg10, x1, x7, rfl, by simp only [Act.put, List.setIfInBounds_toArray, List.set_cons_zero, List.set_cons_succ, cond_true, cond_false, Bool.cond_self], ?_, ?_, ?_, ?_, ?_, ?_, ?_, ?_, ?_⟩
          · exact Blk.later hb fb0
          · exact Blk.later hb fb1
          · exact Blk.later hb fb2
          · exact belowThru fB hb
          · have := hb.size; omega
          · intro h; obtain ⟨p, q⟩ := f1 h; exact ⟨Blk.later hb p, q⟩
          · intro h; obtain ⟨p, q⟩ := f7 h; exact ⟨Blk.later hb p, q⟩
          · exact d1_7
          · exact s7
        · have ge3 : gg3 = false := hi2
          have ge2 : gg2 = true := inv_dep ho hall 2 (by kernel_rfl)
          clear hall hi1 hi2
          subst ge3 ge2
          have ho2 := ho
          simp only [List.getElem?_toArray, List.getElem?_cons_zero, List.getElem?_cons_succ] at ho2
          have ho3 := Option.some.inj ho2; clear ho2; subst ho3
          obtain ⟨ba0, bb0⟩ := fb0.read; have bl0 := fb0.lt
          obtain ⟨ba1, bb1⟩ := fb1.read; have bl1 := fb1.lt
          obtain ⟨ba2, bb2⟩ := fb2.read; have bl2 := fb2.lt
          simp only [Act.put, List.setIfInBounds_toArray, List.set_cons_zero, List.set_cons_succ]
          simp only [cond_true, cond_false]
          refine inv_op ho (by kernel_rfl) (fun K hK => ?_)
          clear ho
          go_simp
          refine hK.out _ _ ?_
          unfold ExJ
          refine ⟨gg0, gg1, true, true, gg4, gg5, gg6, gg7, gg8, gg9, gg10, x1, x7, rfl, by simp only [Act.put, List.setIfInBounds_toArray, List.set_cons_zero, List.set_cons_succ, cond_true, cond_false, Bool.cond_self], ?_, ?_, ?_, ?_, ?_, ?_, ?_, ?_, ?_⟩
          · exact fb0
          · exact fb1
          · exact fb2
          · exact fB
          · exact fL
          · exact f1
          · exact f7
          · exact d1_7
          · exact s7
        · have ge4 : gg4 = false := hi2
          have ge3 : gg3 = true := inv_dep ho hall 3 (by kernel_rfl)
          clear hall hi1 hi2
          subst ge4 ge3
          have ho2 := ho
          simp only [List.getElem?_toArray, List.getElem?_cons_zero, List.getElem?_cons_succ] at ho2
          have ho3 := Option.some.inj ho2; clear ho2; subst ho3
          obtain ⟨ba0, bb0⟩ := fb0.read; have bl0 := fb0.lt
          obtain ⟨ba1, bb1⟩ := fb1.read; have bl1 := fb1.lt
          obtain ⟨ba2, bb2⟩ := fb2.read; have bl2 := fb2.lt
          simp only [Act.put, List.setIfInBounds_toArray, List.set_cons_zero, List.set_cons_succ]
          simp only [cond_true, cond_false]
          refine inv_op ho (by kernel_rfl) (fun K hK => ?_)
          clear ho
          go_simp
          refine hK.out _ _ ?_
          unfold ExJ
          refine ⟨gg0, gg1, gg2, true, true, gg5, gg6, gg7, gg8, gg9, gg10, x1, x7, rfl, by simp only [Act.put, List.setIfInBounds_toArray, List.set_cons_zero, List.set_cons_succ, cond_true, cond_false, Bool.cond_self], ?_, ?_, ?_, ?_, ?_, ?_, ?_, ?_, ?_⟩
          · exact fb0
          · exact fb1
          · exact fb2
          · exact fB
          · exact fL
          · exact f1
          · exact f7
          · exact d1_7
          · exact s7
        · have ge5 : gg5 = false := hi2
          have ge3 : gg3 = true := inv_dep ho hall 3 (by kernel_rfl)
          clear hall hi1 hi2
          subst ge5 ge3
          have ho2 := ho
          simp only [List.getElem?_toArray, List.getElem?_cons_zero, List.getElem?_cons_succ] at ho2
          have ho3 := Option.some.inj ho2; clear ho2; subst ho3
          obtain ⟨ba0, bb0⟩ := fb0.read; have bl0 := fb0.lt
          obtain ⟨ba1, bb1⟩ := fb1.read; have bl1 := fb1.lt
          obtain ⟨ba2, bb2⟩ := fb2.read; have bl2 := fb2.lt
          simp only [Act.put, List.setIfInBounds_toArray, List.set_cons_zero, List.set_cons_succ]
          simp only [cond_true, cond_false]
          refine inv_op ho (by kernel_rfl) (fun K hK => ?_)
          clear ho
          go_simp
          refine hK.out _ _ ?_
          unfold ExJ
          refine ⟨gg0, gg1, gg2, true, gg4, true, gg6, gg7, gg8, gg9, gg10, x1, x7, rfl, by simp only [Act.put, List.setIfInBounds_toArray, List.set_cons_zero, List.set_cons_succ, cond_true, cond_false, Bool.cond_self], ?_, ?_, ?_, ?_, ?_, ?_, ?_, ?_, ?_⟩
          · exact fb0
          · exact fb1
          · exact fb2
          · exact fB
          · exact fL
          · exact f1
          · exact f7
          · exact d1_7
          · exact s7
        · have ge6 : gg6 = false := hi2
          have ge3 : gg3 = true := inv_dep ho hall 3 (by kernel_rfl)
          clear hall hi1 hi2
          subst ge6 ge3
          have ho2 := ho
          simp only [List.getElem?_toArray, List.getElem?_cons_zero, List.getElem?_cons_succ] at ho2
          have ho3 := Option.some.inj ho2; clear ho2; subst ho3
          obtain ⟨ba0, bb0⟩ := fb0.read; have bl0 := fb0.lt
          obtain ⟨ba1, bb1⟩ := fb1.read; have bl1 := fb1.lt
          obtain ⟨ba2, bb2⟩ := fb2.read; have bl2 := fb2.lt
          simp only [Act.put, List.setIfInBounds_toArray, List.set_cons_zero, List.set_cons_succ]
          simp only [cond_true, cond_false]
          refine inv_op ho (by kernel_rfl) (fun K hK => ?_)
          clear ho
          go_simp
          refine hK.out _ _ ?_
          unfold ExJ
          refine ⟨gg0, gg1, gg2, true, gg4, gg5, true, gg7, gg8, gg9, gg10, x1, x7, rfl, by simp only [Act.put, List.setIfInBounds_toArray, List.set_cons_zero, List.set_cons_succ, cond_true, cond_false, Bool.cond_self], ?_, ?_, ?_, ?_, ?_, ?_, ?_, ?_, ?_⟩
          · exact fb0
          · exact fb1
          · exact fb2
          · exact fB
          · exact fL
          · exact f1
          · exact f7
          · exact d1_7
          · exact s7
        · have ge7 : gg7 = false := hi2
          clear hall hi1 hi2
          subst ge7
          have ho2 := ho
          simp only [List.getElem?_toArray, List.getElem?_cons_zero, List.getElem?_cons_succ] at ho2
          have ho3 := Option.some.inj ho2; clear ho2; subst ho3
          obtain ⟨ba0, bb0⟩ := fb0.read; have bl0 := fb0.lt
          obtain ⟨ba1, bb1⟩ := fb1.read; have bl1 := fb1.lt
          obtain ⟨ba2, bb2⟩ := fb2.read; have bl2 := fb2.lt
          obtain rfl : gg8 = false := by cases gg8; rfl; exact Bool.noConfusion (s7 rfl)
          simp only [Act.put, List.setIfInBounds_toArray, List.set_cons_zero, List.set_cons_succ]
          simp only [cond_true, cond_false]
          refine inv_op ho (by kernel_rfl) (fun K hK => ?_)
          clear ho
          go_simp
          refine hK.out _ _ ?_
          unfold ExJ
          refine ⟨gg0, gg1, gg2, gg3, gg4, gg5, gg6, true, false, gg9, gg10, x1, w9.heap.size, rfl, by simp only [Act.put, List.setIfInBounds_toArray, List.set_cons_zero, List.set_cons_succ, cond_true, cond_false, Bool.cond_self], ?_, ?_, ?_, ?_, ?_, ?_, ?_, ?_, ?_⟩
          · exact fb0.alloc
          · exact fb1.alloc
          · exact fb2.alloc
          · exact belowAlloc fB
          · simp only [World.size_alloc]; omega
          · intro h; obtain ⟨p, q⟩ := f1 h; exact ⟨p.alloc, q⟩
          · intro _; exact ⟨Blk.new rfl, fL⟩
          · intro h _; have := (f1 h).1.lt; omega
          · intro _; rfl
        · have ge8 : gg8 = false := hi2
          have ge4 : gg4 = true := inv_dep ho hall 4 (by kernel_rfl)
          have ge7 : gg7 = true := inv_dep ho hall 7 (by kernel_rfl)
          clear hall hi1 hi2
          subst ge8 ge4 ge7
          have ho2 := ho
          simp only [List.getElem?_toArray, List.getElem?_cons_zero, List.getElem?_cons_succ] at ho2
          have ho3 := Option.some.inj ho2; clear ho2; subst ho3
          obtain ⟨p7, q7⟩ := f7 rfl
          obtain ⟨ra7, rb7⟩ := p7.read
          have rl7 := p7.lt
          obtain ⟨ba0, bb0⟩ := fb0.read; have bl0 := fb0.lt
          obtain ⟨ba1, bb1⟩ := fb1.read; have bl1 := fb1.lt
          obtain ⟨ba2, bb2⟩ := fb2.read; have bl2 := fb2.lt
          have rl7 := p7.lt
          skip
          simp only [Act.put, List.setIfInBounds_toArray, List.set_cons_zero, List.set_cons_succ]
          simp only [cond_true, cond_false]
          refine inv_op ho (by kernel_rfl) (fun K hK => ?_)
          clear ho
          go_simp
          refine hK.out _ _ ?_
          unfold ExJ
          refine ⟨gg0, gg1, gg2, gg3, true, gg5, gg6, true, true, gg9, gg10, x1, x7, rfl, by simp only [Act.put, List.setIfInBounds_toArray, List.set_cons_zero, List.set_cons_succ, cond_true, cond_false, Bool.cond_self], ?_, ?_, ?_, ?_, ?_, ?_, ?_, ?_, ?_⟩
          · (repeat' (first | (with_reducible assumption) | ((with_reducible refine Blk.new ?_); first | rfl | (simp; done)) | (with_reducible refine Blk.later (by assumption) ?_) | (with_reducible refine Blk.alloc ?_) | (with_reducible refine Blk.drewN ?_) | (with_reducible refine Blk.drew ?_) | (with_reducible refine Blk.other ?_ (by first | omega | (simp; done) | (simp; omega)))))
          · (repeat' (first | (with_reducible assumption) | ((with_reducible refine Blk.new ?_); first | rfl | (simp; done)) | (with_reducible refine Blk.later (by assumption) ?_) | (with_reducible refine Blk.alloc ?_) | (with_reducible refine Blk.drewN ?_) | (with_reducible refine Blk.drew ?_) | (with_reducible refine Blk.other ?_ (by first | omega | (simp; done) | (simp; omega)))))
          · (repeat' (first | (with_reducible assumption) | ((with_reducible refine Blk.new ?_); first | rfl | (simp; done)) | (with_reducible refine Blk.later (by assumption) ?_) | (with_reducible refine Blk.alloc ?_) | (with_reducible refine Blk.drewN ?_) | (with_reducible refine Blk.drew ?_) | (with_reducible refine Blk.other ?_ (by first | omega | (simp; done) | (simp; omega)))))
          · (repeat' (first | (with_reducible exact Below.refl _ _) | (with_reducible assumption) | (with_reducible refine belowThru ?_ (by assumption)) | (with_reducible refine belowAlloc ?_) | (with_reducible refine Below.setCell ?_ (by first | omega | (simp; done) | (simp; omega)) _) | (with_reducible refine Below.drew ?_) | (with_reducible refine below_drewN ?_ _)))
          · first | exact fL | (simp; omega)
          · intro h; obtain ⟨p, q⟩ := f1 h; have hne := d1_7 h rfl; exact ⟨by (repeat' (first | (with_reducible assumption) | ((with_reducible refine Blk.new ?_); first | rfl | (simp; done)) | (with_reducible refine Blk.later (by assumption) ?_) | (with_reducible refine Blk.alloc ?_) | (with_reducible refine Blk.drewN ?_) | (with_reducible refine Blk.drew ?_) | (with_reducible refine Blk.other ?_ (by first | omega | (simp; done) | (simp; omega))))), q⟩
          · intro _; exact ⟨by exact Blk.set (Blk.set (Blk.set (Blk.set (p7)))), q7⟩
          · exact d1_7
          · intro _; rfl
        · have ge9 : gg9 = false := hi2
          have ge5 : gg5 = true := inv_dep ho hall 5 (by kernel_rfl)
          clear hall hi1 hi2
          subst ge9 ge5
          have ho2 := ho
          simp only [List.getElem?_toArray, List.getElem?_cons_zero, List.getElem?_cons_succ] at ho2
          have ho3 := Option.some.inj ho2; clear ho2; subst ho3
          obtain ⟨ba0, bb0⟩ := fb0.read; have bl0 := fb0.lt
          obtain ⟨ba1, bb1⟩ := fb1.read; have bl1 := fb1.lt
          obtain ⟨ba2, bb2⟩ := fb2.read; have bl2 := fb2.lt
          simp only [Act.put, List.setIfInBounds_toArray, List.set_cons_zero, List.set_cons_succ]
          simp only [cond_true, cond_false]
          refine inv_op ho (by kernel_rfl) (fun K hK => ?_)
          clear ho
          go_simp
          refine hK.out _ _ ?_
          unfold ExJ
          refine ⟨gg0, gg1, gg2, gg3, gg4, true, gg6, gg7, gg8, true, gg10, x1, x7, rfl, by simp only [Act.put, List.setIfInBounds_toArray, List.set_cons_zero, List.set_cons_succ, cond_true, cond_false, Bool.cond_self], ?_, ?_, ?_, ?_, ?_, ?_, ?_, ?_, ?_⟩
          · exact fb0
          · exact fb1
          · exact fb2
          · exact fB
          · exact fL
          · exact f1
          · exact f7
          · exact d1_7
          · exact s7
        · have ge10 : gg10 = false := hi2
          have ge6 : gg6 = true := inv_dep ho hall 6 (by kernel_rfl)
          clear hall hi1 hi2
          subst ge10 ge6
          have ho2 := ho
          simp only [List.getElem?_toArray, List.getElem?_cons_zero, List.getElem?_cons_succ] at ho2
          have ho3 := Option.some.inj ho2; clear ho2; subst ho3
          obtain ⟨ba0, bb0⟩ := fb0.read; have bl0 := fb0.lt
          obtain ⟨ba1, bb1⟩ := fb1.read; have bl1 := fb1.lt
          obtain ⟨ba2, bb2⟩ := fb2.read; have bl2 := fb2.lt
          simp only [Act.put, List.setIfInBounds_toArray, List.set_cons_zero, List.set_cons_succ]
          simp only [cond_true, cond_false]
          refine inv_op ho (by kernel_rfl) (fun K hK => ?_)
          clear ho
          go_simp
          refine hK.out _ _ ?_
          unfold ExJ
          refine ⟨gg0, gg1, gg2, gg3, gg4, gg5, true, gg7, gg8, gg9, true, x1, x7, rfl, by simp only [Act.put, List.setIfInBounds_toArray, List.set_cons_zero, List.set_cons_succ, cond_true, cond_false, Bool.cond_self], ?_, ?_, ?_, ?_, ?_, ?_, ?_, ?_, ?_⟩
          · exact fb0
          · exact fb1
          · exact fb2
          · exact fB
          · exact fL
          · exact f1
          · exact f7
          · exact d1_7
          · exact s7
        · exfalso; simp at hi1; omega
      case hfin =>
        intro a w9 hI
        obtain ⟨gg0, gg1, gg2, gg3, gg4, gg5, gg6, gg7, gg8, gg9, gg10, x1, x7, hL, rfl, fb0, fb1, fb2, fB, fL, f1, f7, d1_7, s7⟩ := hI
        have hL2 : #[true, true, true, true, true, true, true, true, true, true, true] = #[gg0, gg1, gg2, gg3, gg4, gg5, gg6, gg7, gg8, gg9, gg10] := hL
        cases hL2
        obtain ⟨p1, q1⟩ := f1 rfl
        obtain ⟨p7, q7⟩ := f7 rfl
        have n1_7 := d1_7 rfl rfl
        clear f1 f7 d1_7 s7
        simp only [Act.put, List.setIfInBounds_toArray, List.set_cons_zero, List.set_cons_succ]
        simp only [cond_true]
        go_wp2_with fail
        obtain ⟨Wp, rfl⟩ : ∃ z, z = w9 := ⟨_, rfl⟩
        have k8 := fb1; have k9 := fb2; have k22 : Blk Wp x7 #[.int .i64 0, .int .i64 1, .int .i64 0, .int .i64 1] 30 := p7
        have hBw : Below w.heap.size w Wp := belowThru hBw (by (repeat' (first | (with_reducible exact Below.refl _ _) | (with_reducible assumption) | (with_reducible refine belowThru ?_ (by assumption)) | (with_reducible refine belowAlloc ?_) | (with_reducible refine Below.setCell ?_ (by first | omega | (simp; done) | (simp; omega)) _) | (with_reducible refine Below.drew ?_) | (with_reducible refine below_drewN ?_ _))))
        have y8 := k8.lt; have y9 := k9.lt; have y22 := k22.lt
        clear fb0 fb1 fb2 p7 fB
        go_region_held3 (fun w' => (Blk w' (w19.heap.size) #[.int .i64 3, .int .i64 1, .int .i64 3, .int .i64 1] 30 ∧ (∀ i : Nat, w'.cell? ⟨w19.heap.size, i, none⟩ = (#[.int .i64 3, .int .i64 1, .int .i64 3, .int .i64 1] : Array Value)[i]?)) ∧ (Blk w' (w19.heap.size + 1) #[.int .i64 5, .int .i64 1, .int .i64 5, .int .i64 1] 30 ∧ (∀ i : Nat, w'.cell? ⟨w19.heap.size + 1, i, none⟩ = (#[.int .i64 5, .int .i64 1, .int .i64 5, .int .i64 1] : Array Value)[i]?)) ∧ (Blk w' (x7) #[.int .i64 0, .int .i64 1, .int .i64 0, .int .i64 1] 30 ∧ (∀ i : Nat, w'.cell? ⟨x7, i, none⟩ = (#[.int .i64 0, .int .i64 1, .int .i64 0, .int .i64 1] : Array Value)[i]?)) ∧ Below Wp.heap.size Wp w')
          (((first | (apply holdX3; (focus assumption); intro p0 p1 p2 pB) | skip); refine ⟨Blk.full ?_, Blk.full ?_, Blk.full ?_, ?_⟩; all_goals (first | ((repeat' (first | (with_reducible assumption) | ((with_reducible refine Blk.new ?_); first | rfl | (simp; done)) | (with_reducible refine Blk.later (by assumption) ?_) | (with_reducible refine Blk.alloc ?_) | (with_reducible refine Blk.drewN ?_) | (with_reducible refine Blk.drew ?_) | (with_reducible refine Blk.other ?_ (by first | omega | (simp; done) | (simp; omega))))); done) | ((repeat' (first | (with_reducible exact Below.refl _ _) | (with_reducible assumption) | (with_reducible refine belowThru ?_ (by assumption)) | (with_reducible refine belowAlloc ?_) | (with_reducible refine Below.setCell ?_ (by first | omega | (simp; done) | (simp; omega)) _) | (with_reducible refine Below.drew ?_) | (with_reducible refine below_drewN ?_ _))); done) | exact Below.refl _ _)))
          (first
          | (go_at_call 16; (with_reducible refine (O3.out _).mono ?_); rintro e w1 ⟨rfl, hb⟩)
          | (go_at_call 16; (with_reducible refine (O5.out _).mono ?_); rintro e w1 ⟨rfl, hb⟩)
          | (go_at_call 16; (with_reducible refine (O0.out _).mono ?_); rintro e w1 ⟨rfl, hb⟩))
        all_goals
          apply holdX3; (focus assumption); intro p0 p1 p2 pB
          go_wp2_with fail
          go_ret
          exact ⟨rfl, belowThru hBw pB⟩
end Go.Proofs.Ytdimmnoflenfhaa
