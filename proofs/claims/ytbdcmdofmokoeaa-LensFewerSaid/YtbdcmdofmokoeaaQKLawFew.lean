/-
  LensFewer: the walks.
-/
import Derived.Deep.RegionHeld3
import Derived.Test.YtbdcmdofmokoeaaQKLawAdd3
import Derived.Test.YtbdcmdofmokoeaaQKLawFeM
namespace Go.Proofs.Ytbdcmdofmokoeaa
open Go.RowKit Go.Shelf
set_option linter.unusedVariables false
set_option linter.unusedSimpArgs false

theorem holdF5 {w : World} {b0 b1 b2 b3 b4 : Nat} {c0 c1 c2 c3 c4 : Array Value} {t0 t1 t2 t3 t4 : TypeId} {D0 D1 D2 D3 D4 E G : Prop} (h : (Blk w b0 c0 t0 ∧ D0) ∧ (Blk w b1 c1 t1 ∧ D1) ∧ (Blk w b2 c2 t2 ∧ D2) ∧ (Blk w b3 c3 t3 ∧ D3) ∧ (Blk w b4 c4 t4 ∧ D4) ∧ E) (g : Blk w b0 c0 t0 → Blk w b1 c1 t1 → Blk w b2 c2 t2 → Blk w b3 c3 t3 → Blk w b4 c4 t4 → E → G) : G := g h.1.1 h.2.1.1 h.2.2.1.1 h.2.2.2.1.1 h.2.2.2.2.1.1 h.2.2.2.2.2
set_option maxRecDepth 100000 in
set_option maxHeartbeats 16000000 in
theorem few_g0 (a : Option Addr) (n c : Nat) (t x z : Int) (w : World) (p0 : decide ((12 : Int) < (n : Int)) = true) (HAl : Hid (∀ w : World, Calls Try.prog 23 #[] w fun e w' => e = .returned (.bool true) ∧ Below w.heap.size w w')) :
    Calls Try.prog 10 #[.slice a n c, .int .i64 t, .int .i64 x, .int .i64 z] w fun e w' => e = .returned (.bool true) ∧ Below w.heap.size w w' := by
  go_enter Try.func10, Try.ntmps10
  go_wp2_with fail
  refine (HAl.out _).mono ?_
  rintro e w1 ⟨rfl, hb⟩
  have hBw : Below w.heap.size w w1 := by (repeat' (first | (with_reducible exact Below.refl _ _) | (with_reducible assumption) | (with_reducible refine belowThru ?_ (by assumption)) | (with_reducible refine belowAlloc ?_) | (with_reducible refine Below.setCell ?_ (by first | omega | (simp; done) | (simp; omega)) _) | (with_reducible refine Below.drew ?_) | (with_reducible refine below_drewN ?_ _)))
  have hzw1 := hBw.size
  clear hb
  go_wp2_with fail
  go_ret
  exact ⟨rfl, by (repeat' (first | (with_reducible exact Below.refl _ _) | (with_reducible assumption) | (with_reducible refine belowThru ?_ (by assumption)) | (with_reducible refine belowAlloc ?_) | (with_reducible refine Below.setCell ?_ (by first | omega | (simp; done) | (simp; omega)) _) | (with_reducible refine Below.drew ?_) | (with_reducible refine below_drewN ?_ _)))⟩
set_option maxRecDepth 100000 in
set_option maxHeartbeats 16000000 in
theorem few_g1 (a : Option Addr) (n c : Nat) (t x z : Int) (w : World) (p0 : decide ((12 : Int) < (n : Int)) = false) (p1 : decide (t < 0) = true) (HAl : Hid (∀ w : World, Calls Try.prog 23 #[] w fun e w' => e = .returned (.bool true) ∧ Below w.heap.size w w')) :
    Calls Try.prog 10 #[.slice a n c, .int .i64 t, .int .i64 x, .int .i64 z] w fun e w' => e = .returned (.bool true) ∧ Below w.heap.size w w' := by
  go_enter Try.func10, Try.ntmps10
  go_wp2_with fail
  refine (HAl.out _).mono ?_
  rintro e w1 ⟨rfl, hb⟩
  have hBw : Below w.heap.size w w1 := by (repeat' (first | (with_reducible exact Below.refl _ _) | (with_reducible assumption) | (with_reducible refine belowThru ?_ (by assumption)) | (with_reducible refine belowAlloc ?_) | (with_reducible refine Below.setCell ?_ (by first | omega | (simp; done) | (simp; omega)) _) | (with_reducible refine Below.drew ?_) | (with_reducible refine below_drewN ?_ _)))
  have hzw1 := hBw.size
  clear hb
  go_wp2_with fail
  go_ret
  exact ⟨rfl, by (repeat' (first | (with_reducible exact Below.refl _ _) | (with_reducible assumption) | (with_reducible refine belowThru ?_ (by assumption)) | (with_reducible refine belowAlloc ?_) | (with_reducible refine Below.setCell ?_ (by first | omega | (simp; done) | (simp; omega)) _) | (with_reducible refine Below.drew ?_) | (with_reducible refine below_drewN ?_ _)))⟩
set_option maxRecDepth 100000 in
set_option maxHeartbeats 16000000 in
theorem few_g2 (a : Option Addr) (n c : Nat) (t x z : Int) (w : World) (p0 : decide ((12 : Int) < (n : Int)) = false) (p1 : decide (t < 0) = false) (p2 : decide ((n : Int) ≤ t) = true) (HAl : Hid (∀ w : World, Calls Try.prog 23 #[] w fun e w' => e = .returned (.bool true) ∧ Below w.heap.size w w')) :
    Calls Try.prog 10 #[.slice a n c, .int .i64 t, .int .i64 x, .int .i64 z] w fun e w' => e = .returned (.bool true) ∧ Below w.heap.size w w' := by
  go_enter Try.func10, Try.ntmps10
  go_wp2_with fail
  refine (HAl.out _).mono ?_
  rintro e w1 ⟨rfl, hb⟩
  have hBw : Below w.heap.size w w1 := by (repeat' (first | (with_reducible exact Below.refl _ _) | (with_reducible assumption) | (with_reducible refine belowThru ?_ (by assumption)) | (with_reducible refine belowAlloc ?_) | (with_reducible refine Below.setCell ?_ (by first | omega | (simp; done) | (simp; omega)) _) | (with_reducible refine Below.drew ?_) | (with_reducible refine below_drewN ?_ _)))
  have hzw1 := hBw.size
  clear hb
  go_wp2_with fail
  go_ret
  exact ⟨rfl, by (repeat' (first | (with_reducible exact Below.refl _ _) | (with_reducible assumption) | (with_reducible refine belowThru ?_ (by assumption)) | (with_reducible refine belowAlloc ?_) | (with_reducible refine Below.setCell ?_ (by first | omega | (simp; done) | (simp; omega)) _) | (with_reducible refine Below.drew ?_) | (with_reducible refine below_drewN ?_ _)))⟩
set_option maxRecDepth 100000 in
set_option maxHeartbeats 16000000 in
theorem few_1 (b o n c i : Nat) (vs : List Vw) (t x z f1 f2 f3 f4 f5 f6 f7 f8 d1 d2 d3 d4 d5 d6 d7 d8 g1 g2 g3 g4 g5 g6 g7 g8 r1 r2 r3 r4 s1 s2 s3 s4 eK eR eG eS : Int) (w : World) (p0 : decide ((12 : Int) < (n : Int)) = false) (p1 : decide (t < 0) = false) (p2 : decide ((n : Int) ≤ t) = false) (hE : (eK != 0) = true) (HR : Hid (VRow w (some ⟨b, o, none⟩) n vs)) (HAl : Hid (∀ w : World, Calls Try.prog 23 #[] w fun e w' => e = .returned (.bool true) ∧ Below w.heap.size w w')) (HK : Hid (∀ W : World, VRow W (some ⟨b, o, none⟩) n vs → Calls Try.prog 21 #[.slice (some ⟨b, o, none⟩) n c] W fun e W' => e = .returned (.tuple #[.agg #[.int .i64 f1, .int .i64 f2, .int .i64 f3, .int .i64 f4, .int .i64 f5, .int .i64 f6, .int .i64 f7, .int .i64 f8], .int .i64 eK]) ∧ Below W.heap.size W W')) (HX : Hid (∀ W : World, VRow W (some ⟨b, o, none⟩) n vs → Calls Try.prog 19 #[.slice (some ⟨b, o, none⟩) n c, .int .i64 x, .int .i64 z] W fun e W' => e = .returned (.tuple #[.agg #[.int .i64 r1, .int .i64 r2, .int .i64 r3, .int .i64 r4], .int .i64 eR]) ∧ Below W.heap.size W W')) :
    Calls Try.prog 10 #[.slice (some ⟨b, o, none⟩) n c, .int .i64 t, .int .i64 x, .int .i64 z] w fun e w' => e = .returned (.bool true) ∧ Below w.heap.size w w' := by
  go_enter Try.func10, Try.ntmps10
  go_wp2_with fail
  refine (HAl.out _).mono ?_
  rintro e w1 ⟨rfl, hb⟩
  have hBw : Below w.heap.size w w1 := by (repeat' (first | (with_reducible exact Below.refl _ _) | (with_reducible assumption) | (with_reducible refine belowThru ?_ (by assumption)) | (with_reducible refine belowAlloc ?_) | (with_reducible refine Below.setCell ?_ (by first | omega | (simp; done) | (simp; omega)) _) | (with_reducible refine Below.drew ?_) | (with_reducible refine below_drewN ?_ _)))
  have hzw1 := hBw.size
  clear hb
  go_wp2_with fail
  refine (HK.out _ (HR.out.later hBw)).mono ?_
  rintro e w2 ⟨rfl, hb⟩
  replace hBw : Below w.heap.size w w2 := belowThru hBw hb
  have hzw2 := hBw.size
  clear hb
  go_wp2_with fail
  refine (HX.out _ (HR.out.later (belowAlloc hBw))).mono ?_
  rintro e w3 ⟨rfl, hb⟩
  have k0 : Blk w3 (w2.heap.size) #[.int .i64 f1, .int .i64 f2, .int .i64 f3, .int .i64 f4, .int .i64 f5, .int .i64 f6, .int .i64 f7, .int .i64 f8] 41 := Blk.later hb (Blk.new rfl)
  replace hBw : Below w.heap.size w w3 := belowThru (belowAlloc hBw) hb
  obtain ⟨a0, b0⟩ := k0.read; have y0 := k0.lt
  have hzw3 := hBw.size
  clear hb
  go_wp2_with fail
  go_ret
  exact ⟨rfl, by (repeat' (first | (with_reducible exact Below.refl _ _) | (with_reducible assumption) | (with_reducible refine belowThru ?_ (by assumption)) | (with_reducible refine belowAlloc ?_) | (with_reducible refine Below.setCell ?_ (by first | omega | (simp; done) | (simp; omega)) _) | (with_reducible refine Below.drew ?_) | (with_reducible refine below_drewN ?_ _)))⟩
set_option maxRecDepth 100000 in
set_option maxHeartbeats 16000000 in
theorem few_2 (b o n c i : Nat) (vs : List Vw) (t x z f1 f2 f3 f4 f5 f6 f7 f8 d1 d2 d3 d4 d5 d6 d7 d8 g1 g2 g3 g4 g5 g6 g7 g8 r1 r2 r3 r4 s1 s2 s3 s4 eK eR eG eS : Int) (w : World) (hn : n ≤ 12) (hti : t = (i : Int)) (hi : i < n) (hcc : n ≤ c) (p0 : decide ((12 : Int) < (n : Int)) = false) (p1 : decide (t < 0) = false) (p2 : decide ((n : Int) ≤ t) = false)  (HR : Hid (VRow w (some ⟨b, o, none⟩) n vs)) (HAl : Hid (∀ w : World, Calls Try.prog 23 #[] w fun e w' => e = .returned (.bool true) ∧ Below w.heap.size w w')) (HK : Hid (∀ W : World, VRow W (some ⟨b, o, none⟩) n vs → Calls Try.prog 21 #[.slice (some ⟨b, o, none⟩) n c] W fun e W' => e = .returned (.tuple #[.agg #[.int .i64 f1, .int .i64 f2, .int .i64 f3, .int .i64 f4, .int .i64 f5, .int .i64 f6, .int .i64 f7, .int .i64 f8], .int .i64 0]) ∧ Below W.heap.size W W')) (HX : Hid (∀ W : World, VRow W (some ⟨b, o, none⟩) n vs → Calls Try.prog 19 #[.slice (some ⟨b, o, none⟩) n c, .int .i64 x, .int .i64 z] W fun e W' => e = .returned (.tuple #[.agg #[.int .i64 r1, .int .i64 r2, .int .i64 r3, .int .i64 r4], .int .i64 0]) ∧ Below W.heap.size W W')) (HG : Hid (∀ (a2 : Option Addr) (n2 c2 : Nat) (W : World), VRow W a2 n2 (vs.take i ++ vs.drop (i + 1)) → Calls Try.prog 21 #[.slice a2 n2 c2] W fun e W' => e = .returned (.tuple #[.agg #[.int .i64 g1, .int .i64 g2, .int .i64 g3, .int .i64 g4, .int .i64 g5, .int .i64 g6, .int .i64 g7, .int .i64 g8], .int .i64 43]) ∧ Below W.heap.size W W')) (HS : Hid (∀ (a2 : Option Addr) (n2 c2 : Nat) (W : World), VRow W a2 n2 (vs.take i ++ vs.drop (i + 1)) → Calls Try.prog 19 #[.slice a2 n2 c2, .int .i64 x, .int .i64 z] W fun e W' => e = .returned (.tuple #[.agg #[.int .i64 s1, .int .i64 s2, .int .i64 s3, .int .i64 s4], .int .i64 eS]) ∧ Below W.heap.size W W')) (HD : Hid (∀ (a2 : Option Addr) (n2 c2 : Nat) (W : World), VRow W a2 n2 (vs.reverse) → Calls Try.prog 21 #[.slice a2 n2 c2] W fun e W' => e = .returned (.tuple #[.agg #[.int .i64 f1, .int .i64 f2, .int .i64 f3, .int .i64 f4, .int .i64 f5, .int .i64 f6, .int .i64 f7, .int .i64 f8], .int .i64 0]) ∧ Below W.heap.size W W')) :
    Calls Try.prog 10 #[.slice (some ⟨b, o, none⟩) n c, .int .i64 t, .int .i64 x, .int .i64 z] w fun e w' => e = .returned (.bool true) ∧ Below w.heap.size w w' := by
  have hmx : Try.prog.follows .mixedOrders = true := by kernel_rfl
  have HN := Lib.hid hn; have HT := Lib.hid hti; have HI := Lib.hid hi; have HCc := Lib.hid hcc
  have u1 : (0 : Int) ≤ t := by omega
  clear hn hti hi hcc
  go_enter Try.func10, Try.ntmps10
  go_wp2_with fail
  refine (HAl.out _).mono ?_
  rintro e w1 ⟨rfl, hb⟩
  have hBw : Below w.heap.size w w1 := by (repeat' (first | (with_reducible exact Below.refl _ _) | (with_reducible assumption) | (with_reducible refine belowThru ?_ (by assumption)) | (with_reducible refine belowAlloc ?_) | (with_reducible refine Below.setCell ?_ (by first | omega | (simp; done) | (simp; omega)) _) | (with_reducible refine Below.drew ?_) | (with_reducible refine below_drewN ?_ _)))
  have hzw1 := hBw.size
  clear hb
  go_wp2_with fail
  refine (HK.out _ (HR.out.later hBw)).mono ?_
  rintro e w2 ⟨rfl, hb⟩
  replace hBw : Below w.heap.size w w2 := belowThru hBw hb
  have hzw2 := hBw.size
  clear hb
  go_wp2_with fail
  refine (HX.out _ (HR.out.later (belowAlloc hBw))).mono ?_
  rintro e w3 ⟨rfl, hb⟩
  have k0 : Blk w3 (w2.heap.size) #[.int .i64 f1, .int .i64 f2, .int .i64 f3, .int .i64 f4, .int .i64 f5, .int .i64 f6, .int .i64 f7, .int .i64 f8] 41 := Blk.later hb (Blk.new rfl)
  replace hBw : Below w.heap.size w w3 := belowThru (belowAlloc hBw) hb
  obtain ⟨a0, b0⟩ := k0.read; have y0 := k0.lt
  have hzw3 := hBw.size
  clear hb
  go_wp2_with fail
  obtain ⟨Wp, hWp⟩ : ∃ Wp, (w3.alloc (.cells #[.int .i64 r1, .int .i64 r2, .int .i64 r3, .int .i64 r4] 35)) = Wp := ⟨_, rfl⟩
  have kn0 : Blk Wp (w2.heap.size) #[.int .i64 f1, .int .i64 f2, .int .i64 f3, .int .i64 f4, .int .i64 f5, .int .i64 f6, .int .i64 f7, .int .i64 f8] 41 := by rw [← hWp]; (repeat' (first | (with_reducible assumption) | ((with_reducible refine Blk.new ?_); first | rfl | (simp; done)) | (with_reducible refine Blk.later (by assumption) ?_) | (with_reducible refine Blk.alloc ?_) | (with_reducible refine Blk.drewN ?_) | (with_reducible refine Blk.drew ?_) | (with_reducible refine Blk.other ?_ (by first | omega | (simp; done) | (simp; omega)))))
  have kn1 : Blk Wp (w3.heap.size) #[.int .i64 r1, .int .i64 r2, .int .i64 r3, .int .i64 r4] 35 := by rw [← hWp]; (repeat' (first | (with_reducible assumption) | ((with_reducible refine Blk.new ?_); first | rfl | (simp; done)) | (with_reducible refine Blk.later (by assumption) ?_) | (with_reducible refine Blk.alloc ?_) | (with_reducible refine Blk.drewN ?_) | (with_reducible refine Blk.drew ?_) | (with_reducible refine Blk.other ?_ (by first | omega | (simp; done) | (simp; omega)))))
  replace hBw : Below w.heap.size w Wp := by rw [← hWp]; (repeat' (first | (with_reducible exact Below.refl _ _) | (with_reducible assumption) | (with_reducible refine belowThru ?_ (by assumption)) | (with_reducible refine belowAlloc ?_) | (with_reducible refine Below.setCell ?_ (by first | omega | (simp; done) | (simp; omega)) _) | (with_reducible refine Below.drew ?_) | (with_reducible refine below_drewN ?_ _)))
  clear k0 a0 b0 y0
  rw [hWp]
  clear hWp
  have k0 := kn0; clear kn0; have y0 := k0.lt
  have k1 := kn1; clear kn1; have y1 := k1.lt
  have HRp : Hid (VRow Wp (some ⟨b, o, none⟩) n vs) := HR.out.later hBw
  go_cut [14] (fun s14 wx => (∃ (a2 : Option Addr) (n2 c2 : Nat), s14 = .slice a2 n2 c2 ∧ VRow wx a2 n2 (vs.take i ++ vs.drop (i + 1))) ∧ Below Wp.heap.size Wp wx)
  case first =>
    refine wp_region_held_drew (S := fun w' => Below Wp.heap.size Wp w') hmx (Below.refl _ _).drew (fun hHeld => ?_)
    obtain ⟨Wd, hWd⟩ : ∃ Wd, Wp.drew = Wd := ⟨_, rfl⟩
    have hBd : Below Wp.heap.size Wp Wd := by rw [← hWd]; exact (Below.refl _ _).drew
    rw [hWd] at hHeld ⊢
    clear hWd k0 k1 y0 y1
    have hn := HN.out; have hti := HT.out; have hi := HI.out; have hcc := HCc.out
    have hsz := hBd.size
    subst hti
    have v1 : ((i : Nat) : Int).toNat = i := by omega
    have v2 : (((i : Nat) : Int) + 1).toNat = i + 1 := by omega
    have v3 : IntKind.i64.wrap (((i : Nat) : Int) + 1) = ((i : Nat) : Int) + 1 := wr64 _ (by omega)
    have v4 : ¬ c < i := by omega
    have v5 : ¬ n < i + 1 := by omega
    have v6 : i + 1 ≤ n := by omega
    have v7 : i ≤ c := by omega
    have v8 : n ≤ c := hcc
    have v9 : i + 1 ≤ c := by omega
    have x1 : ((i : Nat) : Int) ≤ (c : Int) := by omega
    have x2 : ((i : Nat) : Int) + 1 ≤ (n : Int) := by omega
    have x3 : (0 : Int) ≤ ((i : Nat) : Int) + 1 := by omega
    have x4 : (n : Int) ≤ (c : Int) := by omega
    refine wpAnyH_take (i := 1) (v := ?_) rfl (by kernel_rfl) (by kernel_rfl) (by kernel_rfl) (fun _ _ _ h => h) (Or.inl ⟨by rfl, ?hT0⟩) (by assumption) ?_
    case hT0 => ((intro w hSw; (try dsimp only at hSw); go_simp); try (with_reducible rfl))
    try simp only [Act.put, List.setIfInBounds_toArray, List.set_cons_zero, List.set_cons_succ]
    refine wpAnyH_take (i := 2) (v := ?_) rfl (by kernel_rfl) (by kernel_rfl) (by kernel_rfl) (fun _ _ _ h => h) (Or.inl ⟨by rfl, ?hT1⟩) (by assumption) ?_
    case hT1 => ((intro w hSw; (try dsimp only at hSw); go_simp); try (with_reducible rfl))
    try simp only [Act.put, List.setIfInBounds_toArray, List.set_cons_zero, List.set_cons_succ]
    refine wpAnyH_take (i := 3) (v := ?_) rfl (by kernel_rfl) (by kernel_rfl) (by kernel_rfl) (fun _ _ _ h => h) (Or.inl ⟨by rfl, ?hT2⟩) (by assumption) ?_
    case hT2 => ((intro w hSw; (try dsimp only at hSw); go_simp); try (with_reducible rfl))
    try simp only [Act.put, List.setIfInBounds_toArray, List.set_cons_zero, List.set_cons_succ]
    refine wpAnyH_take (i := 5) (v := ?_) rfl (by kernel_rfl) (by kernel_rfl) (by kernel_rfl) (fun _ _ _ h => h) (Or.inl ⟨by rfl, ?hT3⟩) (by assumption) ?_
    case hT3 => ((intro w hSw; (try dsimp only at hSw); go_simp); try (with_reducible rfl))
    try simp only [Act.put, List.setIfInBounds_toArray, List.set_cons_zero, List.set_cons_succ]
    refine wpAnyH_take (i := 6) (v := ?_) rfl (by kernel_rfl) (by kernel_rfl) (by kernel_rfl) (fun _ _ _ h => h) (Or.inl ⟨by rfl, ?hT4⟩) (by assumption) ?_
    case hT4 => ((intro w hSw; (try dsimp only at hSw); go_simp); try (with_reducible rfl))
    try simp only [Act.put, List.setIfInBounds_toArray, List.set_cons_zero, List.set_cons_succ]
    refine wpAnyH_take (i := 7) (v := ?_) rfl (by kernel_rfl) (by kernel_rfl) (by kernel_rfl) (fun _ _ _ h => h) (Or.inl ⟨by rfl, ?hT5⟩) (by assumption) ?_
    case hT5 => ((intro w hSw; (try dsimp only at hSw); go_simp); try (with_reducible rfl))
    try simp only [Act.put, List.setIfInBounds_toArray, List.set_cons_zero, List.set_cons_succ]
    refine wpAnyH_take (i := 8) (v := ?_) rfl (by kernel_rfl) (by kernel_rfl) (by kernel_rfl) (fun _ _ _ h => h) (Or.inl ⟨by rfl, ?hT6⟩) (by assumption) ?_
    case hT6 => ((intro w hSw; (try dsimp only at hSw); go_simp); try (with_reducible rfl))
    try simp only [Act.put, List.setIfInBounds_toArray, List.set_cons_zero, List.set_cons_succ]
    have hDr : ∀ W : World, VRow W (some ⟨b, o, none⟩) n vs → VRow W (if c = i + 1 then some ⟨b, o, none⟩ else some ⟨b, o + (i + 1) * 4, none⟩) (n - (i + 1)) (vs.drop (i + 1)) := fun W h => h.drop2 (by omega) hcc
    generalize (if c = i + 1 then some (⟨b, o, none⟩ : Addr) else some ⟨b, o + (i + 1) * 4, none⟩) = PTR at hDr ⊢
    refine wpAnyH_ready (rs := [0]) (by kernel_rfl) (by simp) ?_
    refine AllReadyH.cons rfl (fun K hK => ?_) AllReadyH.nil
    go_simp
    have hB1 : Below Wp.heap.size Wp (Wd.alloc (.cells #[] 45)) := belowAlloc hBd
    have o42 : Blk (Wd.alloc (.cells #[] 45)) Wd.heap.size #[] 45 := Blk.new rfl
    refine hK.out _ _ ?_ (fun hHeldN => ?_)
    · (try dsimp only); exact hB1
    clear hK K hHeld
    have hHeld := hHeldN
    clear hHeldN
    try simp only [Act.put, List.setIfInBounds_toArray, List.set_cons_zero, List.set_cons_succ]
    obtain ⟨W1, hW1⟩ : ∃ z, (Wd.alloc (.cells #[] 45)) = z := ⟨_, rfl⟩
    rw [hW1] at hHeld hB1 o42 ⊢
    clear hW1
    have y42 := o42.lt
    refine wpAnyH_ready (rs := [4]) (by kernel_rfl) (by simp) ?_
    refine AllReadyH.cons rfl (fun K hK => ?_) AllReadyH.nil
    rw [if_pos (by rfl)]
    refine wp_append_slot _ _ _ _ rfl _ _ rfl rfl (few_app _ (Nat.le_refl _) o42 ((HRp.out.later hB1).take (show i ≤ n by omega)) (by omega)) ?_
    rintro r W2 ⟨v1, rfl, O1, hb1⟩
    have hB2 : Below Wp.heap.size Wp W2 := Below.trans hB1 (hb1.mono (by omega))
    have hsW2 := hb1.size
    clear hb1
    refine hK.out _ _ ?_ (fun hHeldN => ?_)
    · (try dsimp only); exact hB2
    clear hK K hHeld
    have hHeld := hHeldN
    clear hHeldN
    try simp only [Act.put, List.setIfInBounds_toArray, List.set_cons_zero, List.set_cons_succ]
    refine wpAnyH_ready (rs := [9]) (by kernel_rfl) (by simp) ?_
    refine AllReadyH.cons rfl (fun K hK => ?_) AllReadyH.nil
    rw [if_pos (by rfl)]
    refine wp_append_slot _ _ _ _ rfl _ _ rfl rfl (few_app2 _ O1 (hDr _ (HRp.out.later hB2)) ⟨by rw [List.length_take]; omega, by omega⟩ (by omega)) ?_
    rintro r W3 ⟨a2, n2, c2, rfl, hR2, hb1⟩
    have hB3 : Below Wp.heap.size Wp W3 := Below.trans hB2 (hb1.mono (by omega))
    have hsW3 := hb1.size
    clear hb1
    refine hK.out _ _ ?_ (fun hHeldN => ?_)
    · (try dsimp only); exact hB3
    clear hK K hHeld
    have hHeld := hHeldN
    clear hHeldN
    try simp only [Act.put, List.setIfInBounds_toArray, List.set_cons_zero, List.set_cons_succ]
    refine wpAnyH_ready (rs := [10]) (by kernel_rfl) (by simp) ?_
    refine AllReadyH.cons rfl (fun K hK => ?_) AllReadyH.nil
    go_simp
    refine hK.out _ _ ?_ (fun hHeldN => ?_)
    · (try dsimp only); exact hHeld
    clear hK K hHeld
    have hHeld := hHeldN
    clear hHeldN
    try simp only [Act.put, List.setIfInBounds_toArray, List.set_cons_zero, List.set_cons_succ]
    refine wpAnyH_done (by kernel_rfl) ?_ _
    go_wp2_with fail
    go_meet
    exact ⟨⟨a2, n2, c2, rfl, hR2⟩, hB3⟩
  case rest =>
    obtain ⟨⟨a2, n2, c2, rfl, hR2⟩, hb⟩ := hcut
    obtain ⟨wq, rfl⟩ : ∃ wq, wq = wc := ⟨_, rfl⟩
    replace k0 := Blk.later hb k0; clear y0; obtain ⟨a0, b0⟩ := k0.read; have y0 := k0.lt
    replace k1 := Blk.later hb k1; clear y1; obtain ⟨a1, b1⟩ := k1.read; have y1 := k1.lt
    replace hBw : Below w.heap.size w wq := belowThru hBw hb
    have hzq := hBw.size
    have HM := Lib.hid hR2; clear hb hR2 HRp
    go_wp2_with fail
    refine (HG.out _ _ _ _ HM.out).mono ?_
    rintro e w4 ⟨rfl, hb⟩
    replace HM : Hid (VRow w4 a2 n2 (vs.take i ++ vs.drop (i + 1))) := HM.out.later hb
    replace k0 := Blk.later hb k0; clear a0 b0 y0
    replace k1 := Blk.later hb k1; clear a1 b1 y1
    replace hBw : Below w.heap.size w w4 := belowThru hBw hb
    obtain ⟨a0, b0⟩ := k0.read; have y0 := k0.lt
    obtain ⟨a1, b1⟩ := k1.read; have y1 := k1.lt
    have hzw4 := hBw.size
    clear hb
    go_wp2_with fail
    refine (HS.out _ _ _ _ (HM.out.later (by (repeat' (first | (with_reducible exact Below.refl _ _) | (with_reducible assumption) | (with_reducible refine belowThru ?_ (by assumption)) | (with_reducible refine belowAlloc ?_) | (with_reducible refine Below.setCell ?_ (by first | omega | (simp; done) | (simp; omega)) _) | (with_reducible refine Below.drew ?_) | (with_reducible refine below_drewN ?_ _)))))).mono ?_
    rintro e w5 ⟨rfl, hb⟩
    replace k0 := Blk.later hb (Blk.alloc k0); clear a0 b0 y0
    replace k1 := Blk.later hb (Blk.alloc k1); clear a1 b1 y1
    have k2 : Blk w5 (w4.heap.size) #[.int .i64 g1, .int .i64 g2, .int .i64 g3, .int .i64 g4, .int .i64 g5, .int .i64 g6, .int .i64 g7, .int .i64 g8] 41 := Blk.later hb (Blk.new rfl)
    replace hBw : Below w.heap.size w w5 := belowThru (belowAlloc hBw) hb
    obtain ⟨a0, b0⟩ := k0.read; have y0 := k0.lt
    obtain ⟨a1, b1⟩ := k1.read; have y1 := k1.lt
    obtain ⟨a2, b2⟩ := k2.read; have y2 := k2.lt
    have hzw5 := hBw.size
    clear hb
    clear HM
    go_wp2_with fail
    have k3 : Blk (w5.alloc (.cells #[.int .i64 s1, .int .i64 s2, .int .i64 s3, .int .i64 s4] 35)) w5.heap.size #[.int .i64 s1, .int .i64 s2, .int .i64 s3, .int .i64 s4] 35 := Blk.new rfl
    replace k0 := Blk.alloc (o := .cells #[.int .i64 s1, .int .i64 s2, .int .i64 s3, .int .i64 s4] 35) k0
    replace k1 := Blk.alloc (o := .cells #[.int .i64 s1, .int .i64 s2, .int .i64 s3, .int .i64 s4] 35) k1
    replace k2 := Blk.alloc (o := .cells #[.int .i64 s1, .int .i64 s2, .int .i64 s3, .int .i64 s4] 35) k2
    have hB3 : Below w.heap.size w (w5.alloc (.cells #[.int .i64 s1, .int .i64 s2, .int .i64 s3, .int .i64 s4] 35)) := belowAlloc hBw
    clear hBw a0 b0 y0 a1 b1 y1 a2 b2 y2
    obtain ⟨w0, hw0⟩ : ∃ z, (w5.alloc (.cells #[.int .i64 s1, .int .i64 s2, .int .i64 s3, .int .i64 s4] 35)) = z := ⟨_, rfl⟩
    rw [hw0] at k0 k1 k2 k3 hB3 ⊢
    clear hw0
    have y3 := k3.lt
    have hB0 := Below.refl w0.heap.size w0
    go_loopw [19, 20, 81] (fun v _ j wr => ∃ k : Nat, k ≤ n ∧ j = .int .i64 k ∧ OwnV w0.heap.size wr v (vs.reverse.take k) ∧ Below w0.heap.size w0 wr) (fun _ _ j _ => n - (intOf j).toNat)
    case atStart => exact ⟨0, Nat.zero_le _, rfl, OwnV.nil _ _, hB0⟩
    case round =>
      obtain ⟨k, hk, rfl, O, hB⟩ := hrel
      have hn := HN.out
      by_cases hlt : k < n
      · have hl := HR.out.1
        obtain ⟨bb, oo, vx, vz, vl, vh, ha, l1, e1, q1, q2, q3, q4⟩ := HR.out.at (show n - 1 - k < n by omega)
        obtain ⟨rfl, rfl⟩ : b = bb ∧ o = oo := by simpa using ha
        have hzr := hB.size
        have hBB : Below w.heap.size w wr := Below.trans hB3 (hB.mono (by have := hB3.size; omega))
        have q1 := cell_later hBB q1
        have q2 := cell_later hBB q2
        have q3 := cell_later hBB q3
        have q4 := cell_later hBB q4
        have u2 : (0 : Int) ≤ (k : Int) := by omega
        have u3 : (k : Int) < (n : Int) := by omega
        have u4 : (n : Int) - 1 - (k : Int) = ((n - 1 - k : Nat) : Int) := by omega
        have u5 : IntKind.i64.wrap ((n : Int) - 1) = (n : Int) - 1 := wr64 _ (by omega)
        have u6 : IntKind.i64.wrap (((n - 1 - k : Nat)) : Int) = ((n - 1 - k : Nat) : Int) := wr64 _ (by omega)
        have u7 : ((n - 1 - k : Nat) : Int) < (n : Int) := by omega
        have u8 : (0 : Int) ≤ ((n - 1 - k : Nat) : Int) := by omega
        have u9 : IntKind.i64.wrap ((n : Int) - 1 - (k : Int)) = ((n - 1 - k : Nat) : Int) := by rw [u4]; exact u6
        have HO := Lib.hid O; clear O
        have hT : vs.reverse.take (k + 1) = vs.reverse.take k ++ [(vx, vz, vl, vh)] := few_rev ⟨by omega, hl⟩ e1
        have HTk := Lib.hid hT; clear hT e1 hl ha
        go_wp2_with (at_builtin; (refine wpList_append_slot rfl _ _ _ _ rfl _ _ rfl rfl (few_app1 (X := vx) (Z := vz) (lo := vl) (hi := vh) _ (HO.out.later (by (repeat' (first | (with_reducible exact Below.refl _ _) | (with_reducible assumption) | (with_reducible refine belowThru ?_ (by assumption)) | (with_reducible refine belowAlloc ?_) | (with_reducible refine Below.setCell ?_ (by first | omega | (simp; done) | (simp; omega)) _) | (with_reducible refine Below.drew ?_) | (with_reducible refine below_drewN ?_ _))))) (by (repeat' (first | (with_reducible assumption) | ((with_reducible refine Blk.new ?_); first | rfl | (simp; done)) | (with_reducible refine Blk.later (by assumption) ?_) | (with_reducible refine Blk.alloc ?_) | (with_reducible refine Blk.drewN ?_) | (with_reducible refine Blk.drew ?_) | (with_reducible refine Blk.other ?_ (by first | omega | (simp; done) | (simp; omega)))))) (by rw [List.length_take]; omega) (by first | omega | (simp only [World.size_alloc]; omega))) ?_); (rintro r w9 ⟨v9, rfl, O9, hb9⟩))
        rw [← HTk.out] at O9
        have hB9 : Below w0.heap.size w0 w9 := Below.trans (belowAlloc hB) hb9
        go_wp2_with fail
        go_roundw
        case rel => exact ⟨k + 1, hlt, by go_num, O9, hB9⟩
        case measure => simp [intOf]; omega
      · obtain rfl : k = n := by omega
        have hl := HR.out.1
        rw [List.take_of_length_le (by rw [List.length_reverse]; omega)] at O
        obtain ⟨a4, c4, hv4, hR4, -⟩ := O.row
        rw [List.length_reverse, hl] at hv4 hR4
        subst hv4
        have HM4 := Lib.hid hR4; clear hR4 O
        have hBw : Below w.heap.size w wr := Below.trans hB3 (hB.mono (by omega))
        replace k0 : Blk wr (w2.heap.size) #[.int .i64 f1, .int .i64 f2, .int .i64 f3, .int .i64 f4, .int .i64 f5, .int .i64 f6, .int .i64 f7, .int .i64 f8] 41 := Blk.below hB (by have := k0.lt; omega) k0
        replace k1 : Blk wr (w3.heap.size) #[.int .i64 r1, .int .i64 r2, .int .i64 r3, .int .i64 r4] 35 := Blk.below hB (by have := k1.lt; omega) k1
        replace k2 : Blk wr (w4.heap.size) #[.int .i64 g1, .int .i64 g2, .int .i64 g3, .int .i64 g4, .int .i64 g5, .int .i64 g6, .int .i64 g7, .int .i64 g8] 41 := Blk.below hB (by have := k2.lt; omega) k2
        replace k3 : Blk wr (w5.heap.size) #[.int .i64 s1, .int .i64 s2, .int .i64 s3, .int .i64 s4] 35 := Blk.below hB (by have := k3.lt; omega) k3
        clear hB hB3 hB0 y3 hl
        go_wp2_with fail
        refine (HD.out _ _ _ _ HM4.out).mono ?_
        rintro e w31 ⟨rfl, hb⟩
        replace k0 := Blk.later hb k0; obtain ⟨a0, b0⟩ := k0.read; have y0 := k0.lt
        replace k1 := Blk.later hb k1; obtain ⟨a1, b1⟩ := k1.read; have y1 := k1.lt
        replace k2 := Blk.later hb k2; obtain ⟨a2, b2⟩ := k2.read; have y2 := k2.lt
        replace k3 := Blk.later hb k3; obtain ⟨a3, b3⟩ := k3.read; have y3 := k3.lt
        replace hBw : Below w.heap.size w w31 := belowThru hBw hb
        clear hb HM4
        go_wp2_with fail
        go_ret
        exact ⟨rfl, by (repeat' (first | (with_reducible exact Below.refl _ _) | (with_reducible assumption) | (with_reducible refine belowThru ?_ (by assumption)) | (with_reducible refine belowAlloc ?_) | (with_reducible refine Below.setCell ?_ (by first | omega | (simp; done) | (simp; omega)) _) | (with_reducible refine Below.drew ?_) | (with_reducible refine below_drewN ?_ _)))⟩
set_option maxRecDepth 100000 in
set_option maxHeartbeats 16000000 in
theorem few_3 (b o n c i : Nat) (vs : List Vw) (t x z f1 f2 f3 f4 f5 f6 f7 f8 d1 d2 d3 d4 d5 d6 d7 d8 g1 g2 g3 g4 g5 g6 g7 g8 r1 r2 r3 r4 s1 s2 s3 s4 eK eR eG eS : Int) (w : World) (hn : n ≤ 12) (hti : t = (i : Int)) (hi : i < n) (hcc : n ≤ c) (p0 : decide ((12 : Int) < (n : Int)) = false) (p1 : decide (t < 0) = false) (p2 : decide ((n : Int) ≤ t) = false)  (HR : Hid (VRow w (some ⟨b, o, none⟩) n vs)) (HAl : Hid (∀ w : World, Calls Try.prog 23 #[] w fun e w' => e = .returned (.bool true) ∧ Below w.heap.size w w')) (HK : Hid (∀ W : World, VRow W (some ⟨b, o, none⟩) n vs → Calls Try.prog 21 #[.slice (some ⟨b, o, none⟩) n c] W fun e W' => e = .returned (.tuple #[.agg #[.int .i64 f1, .int .i64 f2, .int .i64 f3, .int .i64 f4, .int .i64 f5, .int .i64 f6, .int .i64 f7, .int .i64 f8], .int .i64 0]) ∧ Below W.heap.size W W')) (HX : Hid (∀ W : World, VRow W (some ⟨b, o, none⟩) n vs → Calls Try.prog 19 #[.slice (some ⟨b, o, none⟩) n c, .int .i64 x, .int .i64 z] W fun e W' => e = .returned (.tuple #[.agg #[.int .i64 r1, .int .i64 r2, .int .i64 r3, .int .i64 r4], .int .i64 2]) ∧ Below W.heap.size W W')) (HG : Hid (∀ (a2 : Option Addr) (n2 c2 : Nat) (W : World), VRow W a2 n2 (vs.take i ++ vs.drop (i + 1)) → Calls Try.prog 21 #[.slice a2 n2 c2] W fun e W' => e = .returned (.tuple #[.agg #[.int .i64 g1, .int .i64 g2, .int .i64 g3, .int .i64 g4, .int .i64 g5, .int .i64 g6, .int .i64 g7, .int .i64 g8], .int .i64 43]) ∧ Below W.heap.size W W')) (HS : Hid (∀ (a2 : Option Addr) (n2 c2 : Nat) (W : World), VRow W a2 n2 (vs.take i ++ vs.drop (i + 1)) → Calls Try.prog 19 #[.slice a2 n2 c2, .int .i64 x, .int .i64 z] W fun e W' => e = .returned (.tuple #[.agg #[.int .i64 s1, .int .i64 s2, .int .i64 s3, .int .i64 s4], .int .i64 eS]) ∧ Below W.heap.size W W')) (HD : Hid (∀ (a2 : Option Addr) (n2 c2 : Nat) (W : World), VRow W a2 n2 (vs.reverse) → Calls Try.prog 21 #[.slice a2 n2 c2] W fun e W' => e = .returned (.tuple #[.agg #[.int .i64 f1, .int .i64 f2, .int .i64 f3, .int .i64 f4, .int .i64 f5, .int .i64 f6, .int .i64 f7, .int .i64 f8], .int .i64 0]) ∧ Below W.heap.size W W')) :
    Calls Try.prog 10 #[.slice (some ⟨b, o, none⟩) n c, .int .i64 t, .int .i64 x, .int .i64 z] w fun e w' => e = .returned (.bool true) ∧ Below w.heap.size w w' := by
  have hmx : Try.prog.follows .mixedOrders = true := by kernel_rfl
  have HN := Lib.hid hn; have HT := Lib.hid hti; have HI := Lib.hid hi; have HCc := Lib.hid hcc
  have u1 : (0 : Int) ≤ t := by omega
  clear hn hti hi hcc
  go_enter Try.func10, Try.ntmps10
  go_wp2_with fail
  refine (HAl.out _).mono ?_
  rintro e w1 ⟨rfl, hb⟩
  have hBw : Below w.heap.size w w1 := by (repeat' (first | (with_reducible exact Below.refl _ _) | (with_reducible assumption) | (with_reducible refine belowThru ?_ (by assumption)) | (with_reducible refine belowAlloc ?_) | (with_reducible refine Below.setCell ?_ (by first | omega | (simp; done) | (simp; omega)) _) | (with_reducible refine Below.drew ?_) | (with_reducible refine below_drewN ?_ _)))
  have hzw1 := hBw.size
  clear hb
  go_wp2_with fail
  refine (HK.out _ (HR.out.later hBw)).mono ?_
  rintro e w2 ⟨rfl, hb⟩
  replace hBw : Below w.heap.size w w2 := belowThru hBw hb
  have hzw2 := hBw.size
  clear hb
  go_wp2_with fail
  refine (HX.out _ (HR.out.later (belowAlloc hBw))).mono ?_
  rintro e w3 ⟨rfl, hb⟩
  have k0 : Blk w3 (w2.heap.size) #[.int .i64 f1, .int .i64 f2, .int .i64 f3, .int .i64 f4, .int .i64 f5, .int .i64 f6, .int .i64 f7, .int .i64 f8] 41 := Blk.later hb (Blk.new rfl)
  replace hBw : Below w.heap.size w w3 := belowThru (belowAlloc hBw) hb
  obtain ⟨a0, b0⟩ := k0.read; have y0 := k0.lt
  have hzw3 := hBw.size
  clear hb
  go_wp2_with fail
  obtain ⟨Wp, hWp⟩ : ∃ Wp, (w3.alloc (.cells #[.int .i64 r1, .int .i64 r2, .int .i64 r3, .int .i64 r4] 35)) = Wp := ⟨_, rfl⟩
  have kn0 : Blk Wp (w2.heap.size) #[.int .i64 f1, .int .i64 f2, .int .i64 f3, .int .i64 f4, .int .i64 f5, .int .i64 f6, .int .i64 f7, .int .i64 f8] 41 := by rw [← hWp]; (repeat' (first | (with_reducible assumption) | ((with_reducible refine Blk.new ?_); first | rfl | (simp; done)) | (with_reducible refine Blk.later (by assumption) ?_) | (with_reducible refine Blk.alloc ?_) | (with_reducible refine Blk.drewN ?_) | (with_reducible refine Blk.drew ?_) | (with_reducible refine Blk.other ?_ (by first | omega | (simp; done) | (simp; omega)))))
  have kn1 : Blk Wp (w3.heap.size) #[.int .i64 r1, .int .i64 r2, .int .i64 r3, .int .i64 r4] 35 := by rw [← hWp]; (repeat' (first | (with_reducible assumption) | ((with_reducible refine Blk.new ?_); first | rfl | (simp; done)) | (with_reducible refine Blk.later (by assumption) ?_) | (with_reducible refine Blk.alloc ?_) | (with_reducible refine Blk.drewN ?_) | (with_reducible refine Blk.drew ?_) | (with_reducible refine Blk.other ?_ (by first | omega | (simp; done) | (simp; omega)))))
  replace hBw : Below w.heap.size w Wp := by rw [← hWp]; (repeat' (first | (with_reducible exact Below.refl _ _) | (with_reducible assumption) | (with_reducible refine belowThru ?_ (by assumption)) | (with_reducible refine belowAlloc ?_) | (with_reducible refine Below.setCell ?_ (by first | omega | (simp; done) | (simp; omega)) _) | (with_reducible refine Below.drew ?_) | (with_reducible refine below_drewN ?_ _)))
  clear k0 a0 b0 y0
  rw [hWp]
  clear hWp
  have k0 := kn0; clear kn0; have y0 := k0.lt
  have k1 := kn1; clear kn1; have y1 := k1.lt
  have HRp : Hid (VRow Wp (some ⟨b, o, none⟩) n vs) := HR.out.later hBw
  go_cut [14] (fun s14 wx => (∃ (a2 : Option Addr) (n2 c2 : Nat), s14 = .slice a2 n2 c2 ∧ VRow wx a2 n2 (vs.take i ++ vs.drop (i + 1))) ∧ Below Wp.heap.size Wp wx)
  case first =>
    refine wp_region_held_drew (S := fun w' => Below Wp.heap.size Wp w') hmx (Below.refl _ _).drew (fun hHeld => ?_)
    obtain ⟨Wd, hWd⟩ : ∃ Wd, Wp.drew = Wd := ⟨_, rfl⟩
    have hBd : Below Wp.heap.size Wp Wd := by rw [← hWd]; exact (Below.refl _ _).drew
    rw [hWd] at hHeld ⊢
    clear hWd k0 k1 y0 y1
    have hn := HN.out; have hti := HT.out; have hi := HI.out; have hcc := HCc.out
    have hsz := hBd.size
    subst hti
    have v1 : ((i : Nat) : Int).toNat = i := by omega
    have v2 : (((i : Nat) : Int) + 1).toNat = i + 1 := by omega
    have v3 : IntKind.i64.wrap (((i : Nat) : Int) + 1) = ((i : Nat) : Int) + 1 := wr64 _ (by omega)
    have v4 : ¬ c < i := by omega
    have v5 : ¬ n < i + 1 := by omega
    have v6 : i + 1 ≤ n := by omega
    have v7 : i ≤ c := by omega
    have v8 : n ≤ c := hcc
    have v9 : i + 1 ≤ c := by omega
    have x1 : ((i : Nat) : Int) ≤ (c : Int) := by omega
    have x2 : ((i : Nat) : Int) + 1 ≤ (n : Int) := by omega
    have x3 : (0 : Int) ≤ ((i : Nat) : Int) + 1 := by omega
    have x4 : (n : Int) ≤ (c : Int) := by omega
    refine wpAnyH_take (i := 1) (v := ?_) rfl (by kernel_rfl) (by kernel_rfl) (by kernel_rfl) (fun _ _ _ h => h) (Or.inl ⟨by rfl, ?hT7⟩) (by assumption) ?_
    case hT7 => ((intro w hSw; (try dsimp only at hSw); go_simp); try (with_reducible rfl))
    try simp only [Act.put, List.setIfInBounds_toArray, List.set_cons_zero, List.set_cons_succ]
    refine wpAnyH_take (i := 2) (v := ?_) rfl (by kernel_rfl) (by kernel_rfl) (by kernel_rfl) (fun _ _ _ h => h) (Or.inl ⟨by rfl, ?hT8⟩) (by assumption) ?_
    case hT8 => ((intro w hSw; (try dsimp only at hSw); go_simp); try (with_reducible rfl))
    try simp only [Act.put, List.setIfInBounds_toArray, List.set_cons_zero, List.set_cons_succ]
    refine wpAnyH_take (i := 3) (v := ?_) rfl (by kernel_rfl) (by kernel_rfl) (by kernel_rfl) (fun _ _ _ h => h) (Or.inl ⟨by rfl, ?hT9⟩) (by assumption) ?_
    case hT9 => ((intro w hSw; (try dsimp only at hSw); go_simp); try (with_reducible rfl))
    try simp only [Act.put, List.setIfInBounds_toArray, List.set_cons_zero, List.set_cons_succ]
    refine wpAnyH_take (i := 5) (v := ?_) rfl (by kernel_rfl) (by kernel_rfl) (by kernel_rfl) (fun _ _ _ h => h) (Or.inl ⟨by rfl, ?hT10⟩) (by assumption) ?_
    case hT10 => ((intro w hSw; (try dsimp only at hSw); go_simp); try (with_reducible rfl))
    try simp only [Act.put, List.setIfInBounds_toArray, List.set_cons_zero, List.set_cons_succ]
    refine wpAnyH_take (i := 6) (v := ?_) rfl (by kernel_rfl) (by kernel_rfl) (by kernel_rfl) (fun _ _ _ h => h) (Or.inl ⟨by rfl, ?hT11⟩) (by assumption) ?_
    case hT11 => ((intro w hSw; (try dsimp only at hSw); go_simp); try (with_reducible rfl))
    try simp only [Act.put, List.setIfInBounds_toArray, List.set_cons_zero, List.set_cons_succ]
    refine wpAnyH_take (i := 7) (v := ?_) rfl (by kernel_rfl) (by kernel_rfl) (by kernel_rfl) (fun _ _ _ h => h) (Or.inl ⟨by rfl, ?hT12⟩) (by assumption) ?_
    case hT12 => ((intro w hSw; (try dsimp only at hSw); go_simp); try (with_reducible rfl))
    try simp only [Act.put, List.setIfInBounds_toArray, List.set_cons_zero, List.set_cons_succ]
    refine wpAnyH_take (i := 8) (v := ?_) rfl (by kernel_rfl) (by kernel_rfl) (by kernel_rfl) (fun _ _ _ h => h) (Or.inl ⟨by rfl, ?hT13⟩) (by assumption) ?_
    case hT13 => ((intro w hSw; (try dsimp only at hSw); go_simp); try (with_reducible rfl))
    try simp only [Act.put, List.setIfInBounds_toArray, List.set_cons_zero, List.set_cons_succ]
    have hDr : ∀ W : World, VRow W (some ⟨b, o, none⟩) n vs → VRow W (if c = i + 1 then some ⟨b, o, none⟩ else some ⟨b, o + (i + 1) * 4, none⟩) (n - (i + 1)) (vs.drop (i + 1)) := fun W h => h.drop2 (by omega) hcc
    generalize (if c = i + 1 then some (⟨b, o, none⟩ : Addr) else some ⟨b, o + (i + 1) * 4, none⟩) = PTR at hDr ⊢
    refine wpAnyH_ready (rs := [0]) (by kernel_rfl) (by simp) ?_
    refine AllReadyH.cons rfl (fun K hK => ?_) AllReadyH.nil
    go_simp
    have hB1 : Below Wp.heap.size Wp (Wd.alloc (.cells #[] 45)) := belowAlloc hBd
    have o42 : Blk (Wd.alloc (.cells #[] 45)) Wd.heap.size #[] 45 := Blk.new rfl
    refine hK.out _ _ ?_ (fun hHeldN => ?_)
    · (try dsimp only); exact hB1
    clear hK K hHeld
    have hHeld := hHeldN
    clear hHeldN
    try simp only [Act.put, List.setIfInBounds_toArray, List.set_cons_zero, List.set_cons_succ]
    obtain ⟨W1, hW1⟩ : ∃ z, (Wd.alloc (.cells #[] 45)) = z := ⟨_, rfl⟩
    rw [hW1] at hHeld hB1 o42 ⊢
    clear hW1
    have y42 := o42.lt
    refine wpAnyH_ready (rs := [4]) (by kernel_rfl) (by simp) ?_
    refine AllReadyH.cons rfl (fun K hK => ?_) AllReadyH.nil
    rw [if_pos (by rfl)]
    refine wp_append_slot _ _ _ _ rfl _ _ rfl rfl (few_app _ (Nat.le_refl _) o42 ((HRp.out.later hB1).take (show i ≤ n by omega)) (by omega)) ?_
    rintro r W2 ⟨v1, rfl, O1, hb1⟩
    have hB2 : Below Wp.heap.size Wp W2 := Below.trans hB1 (hb1.mono (by omega))
    have hsW2 := hb1.size
    clear hb1
    refine hK.out _ _ ?_ (fun hHeldN => ?_)
    · (try dsimp only); exact hB2
    clear hK K hHeld
    have hHeld := hHeldN
    clear hHeldN
    try simp only [Act.put, List.setIfInBounds_toArray, List.set_cons_zero, List.set_cons_succ]
    refine wpAnyH_ready (rs := [9]) (by kernel_rfl) (by simp) ?_
    refine AllReadyH.cons rfl (fun K hK => ?_) AllReadyH.nil
    rw [if_pos (by rfl)]
    refine wp_append_slot _ _ _ _ rfl _ _ rfl rfl (few_app2 _ O1 (hDr _ (HRp.out.later hB2)) ⟨by rw [List.length_take]; omega, by omega⟩ (by omega)) ?_
    rintro r W3 ⟨a2, n2, c2, rfl, hR2, hb1⟩
    have hB3 : Below Wp.heap.size Wp W3 := Below.trans hB2 (hb1.mono (by omega))
    have hsW3 := hb1.size
    clear hb1
    refine hK.out _ _ ?_ (fun hHeldN => ?_)
    · (try dsimp only); exact hB3
    clear hK K hHeld
    have hHeld := hHeldN
    clear hHeldN
    try simp only [Act.put, List.setIfInBounds_toArray, List.set_cons_zero, List.set_cons_succ]
    refine wpAnyH_ready (rs := [10]) (by kernel_rfl) (by simp) ?_
    refine AllReadyH.cons rfl (fun K hK => ?_) AllReadyH.nil
    go_simp
    refine hK.out _ _ ?_ (fun hHeldN => ?_)
    · (try dsimp only); exact hHeld
    clear hK K hHeld
    have hHeld := hHeldN
    clear hHeldN
    try simp only [Act.put, List.setIfInBounds_toArray, List.set_cons_zero, List.set_cons_succ]
    refine wpAnyH_done (by kernel_rfl) ?_ _
    go_wp2_with fail
    go_meet
    exact ⟨⟨a2, n2, c2, rfl, hR2⟩, hB3⟩
  case rest =>
    obtain ⟨⟨a2, n2, c2, rfl, hR2⟩, hb⟩ := hcut
    obtain ⟨wq, rfl⟩ : ∃ wq, wq = wc := ⟨_, rfl⟩
    replace k0 := Blk.later hb k0; clear y0; obtain ⟨a0, b0⟩ := k0.read; have y0 := k0.lt
    replace k1 := Blk.later hb k1; clear y1; obtain ⟨a1, b1⟩ := k1.read; have y1 := k1.lt
    replace hBw : Below w.heap.size w wq := belowThru hBw hb
    have hzq := hBw.size
    have HM := Lib.hid hR2; clear hb hR2 HRp
    go_wp2_with fail
    refine (HG.out _ _ _ _ HM.out).mono ?_
    rintro e w4 ⟨rfl, hb⟩
    replace HM : Hid (VRow w4 a2 n2 (vs.take i ++ vs.drop (i + 1))) := HM.out.later hb
    replace k0 := Blk.later hb k0; clear a0 b0 y0
    replace k1 := Blk.later hb k1; clear a1 b1 y1
    replace hBw : Below w.heap.size w w4 := belowThru hBw hb
    obtain ⟨a0, b0⟩ := k0.read; have y0 := k0.lt
    obtain ⟨a1, b1⟩ := k1.read; have y1 := k1.lt
    have hzw4 := hBw.size
    clear hb
    go_wp2_with fail
    refine (HS.out _ _ _ _ (HM.out.later (by (repeat' (first | (with_reducible exact Below.refl _ _) | (with_reducible assumption) | (with_reducible refine belowThru ?_ (by assumption)) | (with_reducible refine belowAlloc ?_) | (with_reducible refine Below.setCell ?_ (by first | omega | (simp; done) | (simp; omega)) _) | (with_reducible refine Below.drew ?_) | (with_reducible refine below_drewN ?_ _)))))).mono ?_
    rintro e w5 ⟨rfl, hb⟩
    replace k0 := Blk.later hb (Blk.alloc k0); clear a0 b0 y0
    replace k1 := Blk.later hb (Blk.alloc k1); clear a1 b1 y1
    have k2 : Blk w5 (w4.heap.size) #[.int .i64 g1, .int .i64 g2, .int .i64 g3, .int .i64 g4, .int .i64 g5, .int .i64 g6, .int .i64 g7, .int .i64 g8] 41 := Blk.later hb (Blk.new rfl)
    replace hBw : Below w.heap.size w w5 := belowThru (belowAlloc hBw) hb
    obtain ⟨a0, b0⟩ := k0.read; have y0 := k0.lt
    obtain ⟨a1, b1⟩ := k1.read; have y1 := k1.lt
    obtain ⟨a2, b2⟩ := k2.read; have y2 := k2.lt
    have hzw5 := hBw.size
    clear hb
    clear HM
    go_wp2_with fail
    have k3 : Blk (w5.alloc (.cells #[.int .i64 s1, .int .i64 s2, .int .i64 s3, .int .i64 s4] 35)) w5.heap.size #[.int .i64 s1, .int .i64 s2, .int .i64 s3, .int .i64 s4] 35 := Blk.new rfl
    replace k0 := Blk.alloc (o := .cells #[.int .i64 s1, .int .i64 s2, .int .i64 s3, .int .i64 s4] 35) k0
    replace k1 := Blk.alloc (o := .cells #[.int .i64 s1, .int .i64 s2, .int .i64 s3, .int .i64 s4] 35) k1
    replace k2 := Blk.alloc (o := .cells #[.int .i64 s1, .int .i64 s2, .int .i64 s3, .int .i64 s4] 35) k2
    have hB3 : Below w.heap.size w (w5.alloc (.cells #[.int .i64 s1, .int .i64 s2, .int .i64 s3, .int .i64 s4] 35)) := belowAlloc hBw
    clear hBw a0 b0 y0 a1 b1 y1 a2 b2 y2
    obtain ⟨w0, hw0⟩ : ∃ z, (w5.alloc (.cells #[.int .i64 s1, .int .i64 s2, .int .i64 s3, .int .i64 s4] 35)) = z := ⟨_, rfl⟩
    rw [hw0] at k0 k1 k2 k3 hB3 ⊢
    clear hw0
    have y3 := k3.lt
    have hB0 := Below.refl w0.heap.size w0
    go_loopw [19, 20, 81] (fun v _ j wr => ∃ k : Nat, k ≤ n ∧ j = .int .i64 k ∧ OwnV w0.heap.size wr v (vs.reverse.take k) ∧ Below w0.heap.size w0 wr) (fun _ _ j _ => n - (intOf j).toNat)
    case atStart => exact ⟨0, Nat.zero_le _, rfl, OwnV.nil _ _, hB0⟩
    case round =>
      obtain ⟨k, hk, rfl, O, hB⟩ := hrel
      have hn := HN.out
      by_cases hlt : k < n
      · have hl := HR.out.1
        obtain ⟨bb, oo, vx, vz, vl, vh, ha, l1, e1, q1, q2, q3, q4⟩ := HR.out.at (show n - 1 - k < n by omega)
        obtain ⟨rfl, rfl⟩ : b = bb ∧ o = oo := by simpa using ha
        have hzr := hB.size
        have hBB : Below w.heap.size w wr := Below.trans hB3 (hB.mono (by have := hB3.size; omega))
        have q1 := cell_later hBB q1
        have q2 := cell_later hBB q2
        have q3 := cell_later hBB q3
        have q4 := cell_later hBB q4
        have u2 : (0 : Int) ≤ (k : Int) := by omega
        have u3 : (k : Int) < (n : Int) := by omega
        have u4 : (n : Int) - 1 - (k : Int) = ((n - 1 - k : Nat) : Int) := by omega
        have u5 : IntKind.i64.wrap ((n : Int) - 1) = (n : Int) - 1 := wr64 _ (by omega)
        have u6 : IntKind.i64.wrap (((n - 1 - k : Nat)) : Int) = ((n - 1 - k : Nat) : Int) := wr64 _ (by omega)
        have u7 : ((n - 1 - k : Nat) : Int) < (n : Int) := by omega
        have u8 : (0 : Int) ≤ ((n - 1 - k : Nat) : Int) := by omega
        have u9 : IntKind.i64.wrap ((n : Int) - 1 - (k : Int)) = ((n - 1 - k : Nat) : Int) := by rw [u4]; exact u6
        have HO := Lib.hid O; clear O
        have hT : vs.reverse.take (k + 1) = vs.reverse.take k ++ [(vx, vz, vl, vh)] := few_rev ⟨by omega, hl⟩ e1
        have HTk := Lib.hid hT; clear hT e1 hl ha
        go_wp2_with (at_builtin; (refine wpList_append_slot rfl _ _ _ _ rfl _ _ rfl rfl (few_app1 (X := vx) (Z := vz) (lo := vl) (hi := vh) _ (HO.out.later (by (repeat' (first | (with_reducible exact Below.refl _ _) | (with_reducible assumption) | (with_reducible refine belowThru ?_ (by assumption)) | (with_reducible refine belowAlloc ?_) | (with_reducible refine Below.setCell ?_ (by first | omega | (simp; done) | (simp; omega)) _) | (with_reducible refine Below.drew ?_) | (with_reducible refine below_drewN ?_ _))))) (by (repeat' (first | (with_reducible assumption) | ((with_reducible refine Blk.new ?_); first | rfl | (simp; done)) | (with_reducible refine Blk.later (by assumption) ?_) | (with_reducible refine Blk.alloc ?_) | (with_reducible refine Blk.drewN ?_) | (with_reducible refine Blk.drew ?_) | (with_reducible refine Blk.other ?_ (by first | omega | (simp; done) | (simp; omega)))))) (by rw [List.length_take]; omega) (by first | omega | (simp only [World.size_alloc]; omega))) ?_); (rintro r w9 ⟨v9, rfl, O9, hb9⟩))
        rw [← HTk.out] at O9
        have hB9 : Below w0.heap.size w0 w9 := Below.trans (belowAlloc hB) hb9
        go_wp2_with fail
        go_roundw
        case rel => exact ⟨k + 1, hlt, by go_num, O9, hB9⟩
        case measure => simp [intOf]; omega
      · obtain rfl : k = n := by omega
        have hl := HR.out.1
        rw [List.take_of_length_le (by rw [List.length_reverse]; omega)] at O
        obtain ⟨a4, c4, hv4, hR4, -⟩ := O.row
        rw [List.length_reverse, hl] at hv4 hR4
        subst hv4
        have HM4 := Lib.hid hR4; clear hR4 O
        have hBw : Below w.heap.size w wr := Below.trans hB3 (hB.mono (by omega))
        replace k0 : Blk wr (w2.heap.size) #[.int .i64 f1, .int .i64 f2, .int .i64 f3, .int .i64 f4, .int .i64 f5, .int .i64 f6, .int .i64 f7, .int .i64 f8] 41 := Blk.below hB (by have := k0.lt; omega) k0
        replace k1 : Blk wr (w3.heap.size) #[.int .i64 r1, .int .i64 r2, .int .i64 r3, .int .i64 r4] 35 := Blk.below hB (by have := k1.lt; omega) k1
        replace k2 : Blk wr (w4.heap.size) #[.int .i64 g1, .int .i64 g2, .int .i64 g3, .int .i64 g4, .int .i64 g5, .int .i64 g6, .int .i64 g7, .int .i64 g8] 41 := Blk.below hB (by have := k2.lt; omega) k2
        replace k3 : Blk wr (w5.heap.size) #[.int .i64 s1, .int .i64 s2, .int .i64 s3, .int .i64 s4] 35 := Blk.below hB (by have := k3.lt; omega) k3
        clear hB hB3 hB0 y3 hl
        go_wp2_with fail
        refine (HD.out _ _ _ _ HM4.out).mono ?_
        rintro e w31 ⟨rfl, hb⟩
        replace k0 := Blk.later hb k0; obtain ⟨a0, b0⟩ := k0.read; have y0 := k0.lt
        replace k1 := Blk.later hb k1; obtain ⟨a1, b1⟩ := k1.read; have y1 := k1.lt
        replace k2 := Blk.later hb k2; obtain ⟨a2, b2⟩ := k2.read; have y2 := k2.lt
        replace k3 := Blk.later hb k3; obtain ⟨a3, b3⟩ := k3.read; have y3 := k3.lt
        replace hBw : Below w.heap.size w w31 := belowThru hBw hb
        clear hb HM4
        go_wp2_with fail
        go_ret
        exact ⟨rfl, by (repeat' (first | (with_reducible exact Below.refl _ _) | (with_reducible assumption) | (with_reducible refine belowThru ?_ (by assumption)) | (with_reducible refine belowAlloc ?_) | (with_reducible refine Below.setCell ?_ (by first | omega | (simp; done) | (simp; omega)) _) | (with_reducible refine Below.drew ?_) | (with_reducible refine below_drewN ?_ _)))⟩
set_option maxRecDepth 100000 in
set_option maxHeartbeats 16000000 in
theorem few_4 (b o n c i : Nat) (vs : List Vw) (t x z f1 f2 f3 f4 f5 f6 f7 f8 d1 d2 d3 d4 d5 d6 d7 d8 g1 g2 g3 g4 g5 g6 g7 g8 r1 r2 r3 r4 s1 s2 s3 s4 eK eR eG eS : Int) (w : World) (hn : n ≤ 12) (hti : t = (i : Int)) (hi : i < n) (hcc : n ≤ c) (p0 : decide ((12 : Int) < (n : Int)) = false) (p1 : decide (t < 0) = false) (p2 : decide ((n : Int) ≤ t) = false)  (HR : Hid (VRow w (some ⟨b, o, none⟩) n vs)) (HAl : Hid (∀ w : World, Calls Try.prog 23 #[] w fun e w' => e = .returned (.bool true) ∧ Below w.heap.size w w')) (HK : Hid (∀ W : World, VRow W (some ⟨b, o, none⟩) n vs → Calls Try.prog 21 #[.slice (some ⟨b, o, none⟩) n c] W fun e W' => e = .returned (.tuple #[.agg #[.int .i64 f1, .int .i64 f2, .int .i64 f3, .int .i64 f4, .int .i64 f5, .int .i64 f6, .int .i64 f7, .int .i64 f8], .int .i64 0]) ∧ Below W.heap.size W W')) (HX : Hid (∀ W : World, VRow W (some ⟨b, o, none⟩) n vs → Calls Try.prog 19 #[.slice (some ⟨b, o, none⟩) n c, .int .i64 x, .int .i64 z] W fun e W' => e = .returned (.tuple #[.agg #[.int .i64 r1, .int .i64 r2, .int .i64 r3, .int .i64 r4], .int .i64 2]) ∧ Below W.heap.size W W')) (HG : Hid (∀ (a2 : Option Addr) (n2 c2 : Nat) (W : World), VRow W a2 n2 (vs.take i ++ vs.drop (i + 1)) → Calls Try.prog 21 #[.slice a2 n2 c2] W fun e W' => e = .returned (.tuple #[.agg #[.int .i64 g1, .int .i64 g2, .int .i64 g3, .int .i64 g4, .int .i64 g5, .int .i64 g6, .int .i64 g7, .int .i64 g8], .int .i64 0]) ∧ Below W.heap.size W W')) (HS : Hid (∀ (a2 : Option Addr) (n2 c2 : Nat) (W : World), VRow W a2 n2 (vs.take i ++ vs.drop (i + 1)) → Calls Try.prog 19 #[.slice a2 n2 c2, .int .i64 x, .int .i64 z] W fun e W' => e = .returned (.tuple #[.agg #[.int .i64 s1, .int .i64 s2, .int .i64 s3, .int .i64 s4], .int .i64 eS]) ∧ Below W.heap.size W W')) (HD : Hid (∀ (a2 : Option Addr) (n2 c2 : Nat) (W : World), VRow W a2 n2 (vs.reverse) → Calls Try.prog 21 #[.slice a2 n2 c2] W fun e W' => e = .returned (.tuple #[.agg #[.int .i64 f1, .int .i64 f2, .int .i64 f3, .int .i64 f4, .int .i64 f5, .int .i64 f6, .int .i64 f7, .int .i64 f8], .int .i64 0]) ∧ Below W.heap.size W W')) :
    Calls Try.prog 10 #[.slice (some ⟨b, o, none⟩) n c, .int .i64 t, .int .i64 x, .int .i64 z] w fun e w' => e = .returned (.bool true) ∧ Below w.heap.size w w' := by
  have hmx : Try.prog.follows .mixedOrders = true := by kernel_rfl
  have HN := Lib.hid hn; have HT := Lib.hid hti; have HI := Lib.hid hi; have HCc := Lib.hid hcc
  have u1 : (0 : Int) ≤ t := by omega
  clear hn hti hi hcc
  go_enter Try.func10, Try.ntmps10
  go_wp2_with fail
  refine (HAl.out _).mono ?_
  rintro e w1 ⟨rfl, hb⟩
  have hBw : Below w.heap.size w w1 := by (repeat' (first | (with_reducible exact Below.refl _ _) | (with_reducible assumption) | (with_reducible refine belowThru ?_ (by assumption)) | (with_reducible refine belowAlloc ?_) | (with_reducible refine Below.setCell ?_ (by first | omega | (simp; done) | (simp; omega)) _) | (with_reducible refine Below.drew ?_) | (with_reducible refine below_drewN ?_ _)))
  have hzw1 := hBw.size
  clear hb
  go_wp2_with fail
  refine (HK.out _ (HR.out.later hBw)).mono ?_
  rintro e w2 ⟨rfl, hb⟩
  replace hBw : Below w.heap.size w w2 := belowThru hBw hb
  have hzw2 := hBw.size
  clear hb
  go_wp2_with fail
  refine (HX.out _ (HR.out.later (belowAlloc hBw))).mono ?_
  rintro e w3 ⟨rfl, hb⟩
  have k0 : Blk w3 (w2.heap.size) #[.int .i64 f1, .int .i64 f2, .int .i64 f3, .int .i64 f4, .int .i64 f5, .int .i64 f6, .int .i64 f7, .int .i64 f8] 41 := Blk.later hb (Blk.new rfl)
  replace hBw : Below w.heap.size w w3 := belowThru (belowAlloc hBw) hb
  obtain ⟨a0, b0⟩ := k0.read; have y0 := k0.lt
  have hzw3 := hBw.size
  clear hb
  go_wp2_with fail
  obtain ⟨Wp, hWp⟩ : ∃ Wp, (w3.alloc (.cells #[.int .i64 r1, .int .i64 r2, .int .i64 r3, .int .i64 r4] 35)) = Wp := ⟨_, rfl⟩
  have kn0 : Blk Wp (w2.heap.size) #[.int .i64 f1, .int .i64 f2, .int .i64 f3, .int .i64 f4, .int .i64 f5, .int .i64 f6, .int .i64 f7, .int .i64 f8] 41 := by rw [← hWp]; (repeat' (first | (with_reducible assumption) | ((with_reducible refine Blk.new ?_); first | rfl | (simp; done)) | (with_reducible refine Blk.later (by assumption) ?_) | (with_reducible refine Blk.alloc ?_) | (with_reducible refine Blk.drewN ?_) | (with_reducible refine Blk.drew ?_) | (with_reducible refine Blk.other ?_ (by first | omega | (simp; done) | (simp; omega)))))
  have kn1 : Blk Wp (w3.heap.size) #[.int .i64 r1, .int .i64 r2, .int .i64 r3, .int .i64 r4] 35 := by rw [← hWp]; (repeat' (first | (with_reducible assumption) | ((with_reducible refine Blk.new ?_); first | rfl | (simp; done)) | (with_reducible refine Blk.later (by assumption) ?_) | (with_reducible refine Blk.alloc ?_) | (with_reducible refine Blk.drewN ?_) | (with_reducible refine Blk.drew ?_) | (with_reducible refine Blk.other ?_ (by first | omega | (simp; done) | (simp; omega)))))
  replace hBw : Below w.heap.size w Wp := by rw [← hWp]; (repeat' (first | (with_reducible exact Below.refl _ _) | (with_reducible assumption) | (with_reducible refine belowThru ?_ (by assumption)) | (with_reducible refine belowAlloc ?_) | (with_reducible refine Below.setCell ?_ (by first | omega | (simp; done) | (simp; omega)) _) | (with_reducible refine Below.drew ?_) | (with_reducible refine below_drewN ?_ _)))
  clear k0 a0 b0 y0
  rw [hWp]
  clear hWp
  have k0 := kn0; clear kn0; have y0 := k0.lt
  have k1 := kn1; clear kn1; have y1 := k1.lt
  have HRp : Hid (VRow Wp (some ⟨b, o, none⟩) n vs) := HR.out.later hBw
  go_cut [14] (fun s14 wx => (∃ (a2 : Option Addr) (n2 c2 : Nat), s14 = .slice a2 n2 c2 ∧ VRow wx a2 n2 (vs.take i ++ vs.drop (i + 1))) ∧ Below Wp.heap.size Wp wx)
  case first =>
    refine wp_region_held_drew (S := fun w' => Below Wp.heap.size Wp w') hmx (Below.refl _ _).drew (fun hHeld => ?_)
    obtain ⟨Wd, hWd⟩ : ∃ Wd, Wp.drew = Wd := ⟨_, rfl⟩
    have hBd : Below Wp.heap.size Wp Wd := by rw [← hWd]; exact (Below.refl _ _).drew
    rw [hWd] at hHeld ⊢
    clear hWd k0 k1 y0 y1
    have hn := HN.out; have hti := HT.out; have hi := HI.out; have hcc := HCc.out
    have hsz := hBd.size
    subst hti
    have v1 : ((i : Nat) : Int).toNat = i := by omega
    have v2 : (((i : Nat) : Int) + 1).toNat = i + 1 := by omega
    have v3 : IntKind.i64.wrap (((i : Nat) : Int) + 1) = ((i : Nat) : Int) + 1 := wr64 _ (by omega)
    have v4 : ¬ c < i := by omega
    have v5 : ¬ n < i + 1 := by omega
    have v6 : i + 1 ≤ n := by omega
    have v7 : i ≤ c := by omega
    have v8 : n ≤ c := hcc
    have v9 : i + 1 ≤ c := by omega
    have x1 : ((i : Nat) : Int) ≤ (c : Int) := by omega
    have x2 : ((i : Nat) : Int) + 1 ≤ (n : Int) := by omega
    have x3 : (0 : Int) ≤ ((i : Nat) : Int) + 1 := by omega
    have x4 : (n : Int) ≤ (c : Int) := by omega
    refine wpAnyH_take (i := 1) (v := ?_) rfl (by kernel_rfl) (by kernel_rfl) (by kernel_rfl) (fun _ _ _ h => h) (Or.inl ⟨by rfl, ?hT14⟩) (by assumption) ?_
    case hT14 => ((intro w hSw; (try dsimp only at hSw); go_simp); try (with_reducible rfl))
    try simp only [Act.put, List.setIfInBounds_toArray, List.set_cons_zero, List.set_cons_succ]
    refine wpAnyH_take (i := 2) (v := ?_) rfl (by kernel_rfl) (by kernel_rfl) (by kernel_rfl) (fun _ _ _ h => h) (Or.inl ⟨by rfl, ?hT15⟩) (by assumption) ?_
    case hT15 => ((intro w hSw; (try dsimp only at hSw); go_simp); try (with_reducible rfl))
    try simp only [Act.put, List.setIfInBounds_toArray, List.set_cons_zero, List.set_cons_succ]
    refine wpAnyH_take (i := 3) (v := ?_) rfl (by kernel_rfl) (by kernel_rfl) (by kernel_rfl) (fun _ _ _ h => h) (Or.inl ⟨by rfl, ?hT16⟩) (by assumption) ?_
    case hT16 => ((intro w hSw; (try dsimp only at hSw); go_simp); try (with_reducible rfl))
    try simp only [Act.put, List.setIfInBounds_toArray, List.set_cons_zero, List.set_cons_succ]
    refine wpAnyH_take (i := 5) (v := ?_) rfl (by kernel_rfl) (by kernel_rfl) (by kernel_rfl) (fun _ _ _ h => h) (Or.inl ⟨by rfl, ?hT17⟩) (by assumption) ?_
    case hT17 => ((intro w hSw; (try dsimp only at hSw); go_simp); try (with_reducible rfl))
    try simp only [Act.put, List.setIfInBounds_toArray, List.set_cons_zero, List.set_cons_succ]
    refine wpAnyH_take (i := 6) (v := ?_) rfl (by kernel_rfl) (by kernel_rfl) (by kernel_rfl) (fun _ _ _ h => h) (Or.inl ⟨by rfl, ?hT18⟩) (by assumption) ?_
    case hT18 => ((intro w hSw; (try dsimp only at hSw); go_simp); try (with_reducible rfl))
    try simp only [Act.put, List.setIfInBounds_toArray, List.set_cons_zero, List.set_cons_succ]
    refine wpAnyH_take (i := 7) (v := ?_) rfl (by kernel_rfl) (by kernel_rfl) (by kernel_rfl) (fun _ _ _ h => h) (Or.inl ⟨by rfl, ?hT19⟩) (by assumption) ?_
    case hT19 => ((intro w hSw; (try dsimp only at hSw); go_simp); try (with_reducible rfl))
    try simp only [Act.put, List.setIfInBounds_toArray, List.set_cons_zero, List.set_cons_succ]
    refine wpAnyH_take (i := 8) (v := ?_) rfl (by kernel_rfl) (by kernel_rfl) (by kernel_rfl) (fun _ _ _ h => h) (Or.inl ⟨by rfl, ?hT20⟩) (by assumption) ?_
    case hT20 => ((intro w hSw; (try dsimp only at hSw); go_simp); try (with_reducible rfl))
    try simp only [Act.put, List.setIfInBounds_toArray, List.set_cons_zero, List.set_cons_succ]
    have hDr : ∀ W : World, VRow W (some ⟨b, o, none⟩) n vs → VRow W (if c = i + 1 then some ⟨b, o, none⟩ else some ⟨b, o + (i + 1) * 4, none⟩) (n - (i + 1)) (vs.drop (i + 1)) := fun W h => h.drop2 (by omega) hcc
    generalize (if c = i + 1 then some (⟨b, o, none⟩ : Addr) else some ⟨b, o + (i + 1) * 4, none⟩) = PTR at hDr ⊢
    refine wpAnyH_ready (rs := [0]) (by kernel_rfl) (by simp) ?_
    refine AllReadyH.cons rfl (fun K hK => ?_) AllReadyH.nil
    go_simp
    have hB1 : Below Wp.heap.size Wp (Wd.alloc (.cells #[] 45)) := belowAlloc hBd
    have o42 : Blk (Wd.alloc (.cells #[] 45)) Wd.heap.size #[] 45 := Blk.new rfl
    refine hK.out _ _ ?_ (fun hHeldN => ?_)
    · (try dsimp only); exact hB1
    clear hK K hHeld
    have hHeld := hHeldN
    clear hHeldN
    try simp only [Act.put, List.setIfInBounds_toArray, List.set_cons_zero, List.set_cons_succ]
    obtain ⟨W1, hW1⟩ : ∃ z, (Wd.alloc (.cells #[] 45)) = z := ⟨_, rfl⟩
    rw [hW1] at hHeld hB1 o42 ⊢
    clear hW1
    have y42 := o42.lt
    refine wpAnyH_ready (rs := [4]) (by kernel_rfl) (by simp) ?_
    refine AllReadyH.cons rfl (fun K hK => ?_) AllReadyH.nil
    rw [if_pos (by rfl)]
    refine wp_append_slot _ _ _ _ rfl _ _ rfl rfl (few_app _ (Nat.le_refl _) o42 ((HRp.out.later hB1).take (show i ≤ n by omega)) (by omega)) ?_
    rintro r W2 ⟨v1, rfl, O1, hb1⟩
    have hB2 : Below Wp.heap.size Wp W2 := Below.trans hB1 (hb1.mono (by omega))
    have hsW2 := hb1.size
    clear hb1
    refine hK.out _ _ ?_ (fun hHeldN => ?_)
    · (try dsimp only); exact hB2
    clear hK K hHeld
    have hHeld := hHeldN
    clear hHeldN
    try simp only [Act.put, List.setIfInBounds_toArray, List.set_cons_zero, List.set_cons_succ]
    refine wpAnyH_ready (rs := [9]) (by kernel_rfl) (by simp) ?_
    refine AllReadyH.cons rfl (fun K hK => ?_) AllReadyH.nil
    rw [if_pos (by rfl)]
    refine wp_append_slot _ _ _ _ rfl _ _ rfl rfl (few_app2 _ O1 (hDr _ (HRp.out.later hB2)) ⟨by rw [List.length_take]; omega, by omega⟩ (by omega)) ?_
    rintro r W3 ⟨a2, n2, c2, rfl, hR2, hb1⟩
    have hB3 : Below Wp.heap.size Wp W3 := Below.trans hB2 (hb1.mono (by omega))
    have hsW3 := hb1.size
    clear hb1
    refine hK.out _ _ ?_ (fun hHeldN => ?_)
    · (try dsimp only); exact hB3
    clear hK K hHeld
    have hHeld := hHeldN
    clear hHeldN
    try simp only [Act.put, List.setIfInBounds_toArray, List.set_cons_zero, List.set_cons_succ]
    refine wpAnyH_ready (rs := [10]) (by kernel_rfl) (by simp) ?_
    refine AllReadyH.cons rfl (fun K hK => ?_) AllReadyH.nil
    go_simp
    refine hK.out _ _ ?_ (fun hHeldN => ?_)
    · (try dsimp only); exact hHeld
    clear hK K hHeld
    have hHeld := hHeldN
    clear hHeldN
    try simp only [Act.put, List.setIfInBounds_toArray, List.set_cons_zero, List.set_cons_succ]
    refine wpAnyH_done (by kernel_rfl) ?_ _
    go_wp2_with fail
    go_meet
    exact ⟨⟨a2, n2, c2, rfl, hR2⟩, hB3⟩
  case rest =>
    obtain ⟨⟨a2, n2, c2, rfl, hR2⟩, hb⟩ := hcut
    obtain ⟨wq, rfl⟩ : ∃ wq, wq = wc := ⟨_, rfl⟩
    replace k0 := Blk.later hb k0; clear y0; obtain ⟨a0, b0⟩ := k0.read; have y0 := k0.lt
    replace k1 := Blk.later hb k1; clear y1; obtain ⟨a1, b1⟩ := k1.read; have y1 := k1.lt
    replace hBw : Below w.heap.size w wq := belowThru hBw hb
    have hzq := hBw.size
    have HM := Lib.hid hR2; clear hb hR2 HRp
    go_wp2_with fail
    refine (HG.out _ _ _ _ HM.out).mono ?_
    rintro e w4 ⟨rfl, hb⟩
    replace HM : Hid (VRow w4 a2 n2 (vs.take i ++ vs.drop (i + 1))) := HM.out.later hb
    replace k0 := Blk.later hb k0; clear a0 b0 y0
    replace k1 := Blk.later hb k1; clear a1 b1 y1
    replace hBw : Below w.heap.size w w4 := belowThru hBw hb
    obtain ⟨a0, b0⟩ := k0.read; have y0 := k0.lt
    obtain ⟨a1, b1⟩ := k1.read; have y1 := k1.lt
    have hzw4 := hBw.size
    clear hb
    go_wp2_with fail
    refine (HS.out _ _ _ _ (HM.out.later (by (repeat' (first | (with_reducible exact Below.refl _ _) | (with_reducible assumption) | (with_reducible refine belowThru ?_ (by assumption)) | (with_reducible refine belowAlloc ?_) | (with_reducible refine Below.setCell ?_ (by first | omega | (simp; done) | (simp; omega)) _) | (with_reducible refine Below.drew ?_) | (with_reducible refine below_drewN ?_ _)))))).mono ?_
    rintro e w5 ⟨rfl, hb⟩
    replace k0 := Blk.later hb (Blk.alloc k0); clear a0 b0 y0
    replace k1 := Blk.later hb (Blk.alloc k1); clear a1 b1 y1
    have k2 : Blk w5 (w4.heap.size) #[.int .i64 g1, .int .i64 g2, .int .i64 g3, .int .i64 g4, .int .i64 g5, .int .i64 g6, .int .i64 g7, .int .i64 g8] 41 := Blk.later hb (Blk.new rfl)
    replace hBw : Below w.heap.size w w5 := belowThru (belowAlloc hBw) hb
    obtain ⟨a0, b0⟩ := k0.read; have y0 := k0.lt
    obtain ⟨a1, b1⟩ := k1.read; have y1 := k1.lt
    obtain ⟨a2, b2⟩ := k2.read; have y2 := k2.lt
    have hzw5 := hBw.size
    clear hb
    clear HM
    go_wp2_with fail
    have k3 : Blk (w5.alloc (.cells #[.int .i64 s1, .int .i64 s2, .int .i64 s3, .int .i64 s4] 35)) w5.heap.size #[.int .i64 s1, .int .i64 s2, .int .i64 s3, .int .i64 s4] 35 := Blk.new rfl
    replace k0 := Blk.alloc (o := .cells #[.int .i64 s1, .int .i64 s2, .int .i64 s3, .int .i64 s4] 35) k0
    replace k1 := Blk.alloc (o := .cells #[.int .i64 s1, .int .i64 s2, .int .i64 s3, .int .i64 s4] 35) k1
    replace k2 := Blk.alloc (o := .cells #[.int .i64 s1, .int .i64 s2, .int .i64 s3, .int .i64 s4] 35) k2
    have hB3 : Below w.heap.size w (w5.alloc (.cells #[.int .i64 s1, .int .i64 s2, .int .i64 s3, .int .i64 s4] 35)) := belowAlloc hBw
    clear hBw a0 b0 y0 a1 b1 y1 a2 b2 y2
    obtain ⟨w0, hw0⟩ : ∃ z, (w5.alloc (.cells #[.int .i64 s1, .int .i64 s2, .int .i64 s3, .int .i64 s4] 35)) = z := ⟨_, rfl⟩
    rw [hw0] at k0 k1 k2 k3 hB3 ⊢
    clear hw0
    have y3 := k3.lt
    have hB0 := Below.refl w0.heap.size w0
    go_loopw [19, 20, 81] (fun v _ j wr => ∃ k : Nat, k ≤ n ∧ j = .int .i64 k ∧ OwnV w0.heap.size wr v (vs.reverse.take k) ∧ Below w0.heap.size w0 wr) (fun _ _ j _ => n - (intOf j).toNat)
    case atStart => exact ⟨0, Nat.zero_le _, rfl, OwnV.nil _ _, hB0⟩
    case round =>
      obtain ⟨k, hk, rfl, O, hB⟩ := hrel
      have hn := HN.out
      by_cases hlt : k < n
      · have hl := HR.out.1
        obtain ⟨bb, oo, vx, vz, vl, vh, ha, l1, e1, q1, q2, q3, q4⟩ := HR.out.at (show n - 1 - k < n by omega)
        obtain ⟨rfl, rfl⟩ : b = bb ∧ o = oo := by simpa using ha
        have hzr := hB.size
        have hBB : Below w.heap.size w wr := Below.trans hB3 (hB.mono (by have := hB3.size; omega))
        have q1 := cell_later hBB q1
        have q2 := cell_later hBB q2
        have q3 := cell_later hBB q3
        have q4 := cell_later hBB q4
        have u2 : (0 : Int) ≤ (k : Int) := by omega
        have u3 : (k : Int) < (n : Int) := by omega
        have u4 : (n : Int) - 1 - (k : Int) = ((n - 1 - k : Nat) : Int) := by omega
        have u5 : IntKind.i64.wrap ((n : Int) - 1) = (n : Int) - 1 := wr64 _ (by omega)
        have u6 : IntKind.i64.wrap (((n - 1 - k : Nat)) : Int) = ((n - 1 - k : Nat) : Int) := wr64 _ (by omega)
        have u7 : ((n - 1 - k : Nat) : Int) < (n : Int) := by omega
        have u8 : (0 : Int) ≤ ((n - 1 - k : Nat) : Int) := by omega
        have u9 : IntKind.i64.wrap ((n : Int) - 1 - (k : Int)) = ((n - 1 - k : Nat) : Int) := by rw [u4]; exact u6
        have HO := Lib.hid O; clear O
        have hT : vs.reverse.take (k + 1) = vs.reverse.take k ++ [(vx, vz, vl, vh)] := few_rev ⟨by omega, hl⟩ e1
        have HTk := Lib.hid hT; clear hT e1 hl ha
        go_wp2_with (at_builtin; (refine wpList_append_slot rfl _ _ _ _ rfl _ _ rfl rfl (few_app1 (X := vx) (Z := vz) (lo := vl) (hi := vh) _ (HO.out.later (by (repeat' (first | (with_reducible exact Below.refl _ _) | (with_reducible assumption) | (with_reducible refine belowThru ?_ (by assumption)) | (with_reducible refine belowAlloc ?_) | (with_reducible refine Below.setCell ?_ (by first | omega | (simp; done) | (simp; omega)) _) | (with_reducible refine Below.drew ?_) | (with_reducible refine below_drewN ?_ _))))) (by (repeat' (first | (with_reducible assumption) | ((with_reducible refine Blk.new ?_); first | rfl | (simp; done)) | (with_reducible refine Blk.later (by assumption) ?_) | (with_reducible refine Blk.alloc ?_) | (with_reducible refine Blk.drewN ?_) | (with_reducible refine Blk.drew ?_) | (with_reducible refine Blk.other ?_ (by first | omega | (simp; done) | (simp; omega)))))) (by rw [List.length_take]; omega) (by first | omega | (simp only [World.size_alloc]; omega))) ?_); (rintro r w9 ⟨v9, rfl, O9, hb9⟩))
        rw [← HTk.out] at O9
        have hB9 : Below w0.heap.size w0 w9 := Below.trans (belowAlloc hB) hb9
        go_wp2_with fail
        go_roundw
        case rel => exact ⟨k + 1, hlt, by go_num, O9, hB9⟩
        case measure => simp [intOf]; omega
      · obtain rfl : k = n := by omega
        have hl := HR.out.1
        rw [List.take_of_length_le (by rw [List.length_reverse]; omega)] at O
        obtain ⟨a4, c4, hv4, hR4, -⟩ := O.row
        rw [List.length_reverse, hl] at hv4 hR4
        subst hv4
        have HM4 := Lib.hid hR4; clear hR4 O
        have hBw : Below w.heap.size w wr := Below.trans hB3 (hB.mono (by omega))
        replace k0 : Blk wr (w2.heap.size) #[.int .i64 f1, .int .i64 f2, .int .i64 f3, .int .i64 f4, .int .i64 f5, .int .i64 f6, .int .i64 f7, .int .i64 f8] 41 := Blk.below hB (by have := k0.lt; omega) k0
        replace k1 : Blk wr (w3.heap.size) #[.int .i64 r1, .int .i64 r2, .int .i64 r3, .int .i64 r4] 35 := Blk.below hB (by have := k1.lt; omega) k1
        replace k2 : Blk wr (w4.heap.size) #[.int .i64 g1, .int .i64 g2, .int .i64 g3, .int .i64 g4, .int .i64 g5, .int .i64 g6, .int .i64 g7, .int .i64 g8] 41 := Blk.below hB (by have := k2.lt; omega) k2
        replace k3 : Blk wr (w5.heap.size) #[.int .i64 s1, .int .i64 s2, .int .i64 s3, .int .i64 s4] 35 := Blk.below hB (by have := k3.lt; omega) k3
        clear hB hB3 hB0 y3 hl
        go_wp2_with fail
        refine (HD.out _ _ _ _ HM4.out).mono ?_
        rintro e w31 ⟨rfl, hb⟩
        replace k0 := Blk.later hb k0; obtain ⟨a0, b0⟩ := k0.read; have y0 := k0.lt
        replace k1 := Blk.later hb k1; obtain ⟨a1, b1⟩ := k1.read; have y1 := k1.lt
        replace k2 := Blk.later hb k2; obtain ⟨a2, b2⟩ := k2.read; have y2 := k2.lt
        replace k3 := Blk.later hb k3; obtain ⟨a3, b3⟩ := k3.read; have y3 := k3.lt
        replace hBw : Below w.heap.size w w31 := belowThru hBw hb
        clear hb HM4
        go_wp2_with fail
        go_ret
        exact ⟨rfl, by (repeat' (first | (with_reducible exact Below.refl _ _) | (with_reducible assumption) | (with_reducible refine belowThru ?_ (by assumption)) | (with_reducible refine belowAlloc ?_) | (with_reducible refine Below.setCell ?_ (by first | omega | (simp; done) | (simp; omega)) _) | (with_reducible refine Below.drew ?_) | (with_reducible refine below_drewN ?_ _)))⟩
set_option maxRecDepth 100000 in
set_option maxHeartbeats 16000000 in
theorem few_5 (b o n c i : Nat) (vs : List Vw) (t x z f1 f2 f3 f4 f5 f6 f7 f8 d1 d2 d3 d4 d5 d6 d7 d8 g1 g2 g3 g4 g5 g6 g7 g8 r1 r2 r3 r4 s1 s2 s3 s4 eK eR eG eS : Int) (w : World) (hn : n ≤ 12) (hti : t = (i : Int)) (hi : i < n) (hcc : n ≤ c) (p0 : decide ((12 : Int) < (n : Int)) = false) (p1 : decide (t < 0) = false) (p2 : decide ((n : Int) ≤ t) = false)  (HR : Hid (VRow w (some ⟨b, o, none⟩) n vs)) (HAl : Hid (∀ w : World, Calls Try.prog 23 #[] w fun e w' => e = .returned (.bool true) ∧ Below w.heap.size w w')) (HK : Hid (∀ W : World, VRow W (some ⟨b, o, none⟩) n vs → Calls Try.prog 21 #[.slice (some ⟨b, o, none⟩) n c] W fun e W' => e = .returned (.tuple #[.agg #[.int .i64 f1, .int .i64 f2, .int .i64 f3, .int .i64 f4, .int .i64 f5, .int .i64 f6, .int .i64 f7, .int .i64 f8], .int .i64 0]) ∧ Below W.heap.size W W')) (HX : Hid (∀ W : World, VRow W (some ⟨b, o, none⟩) n vs → Calls Try.prog 19 #[.slice (some ⟨b, o, none⟩) n c, .int .i64 x, .int .i64 z] W fun e W' => e = .returned (.tuple #[.agg #[.int .i64 r1, .int .i64 r2, .int .i64 r3, .int .i64 r4], .int .i64 0]) ∧ Below W.heap.size W W')) (HG : Hid (∀ (a2 : Option Addr) (n2 c2 : Nat) (W : World), VRow W a2 n2 (vs.take i ++ vs.drop (i + 1)) → Calls Try.prog 21 #[.slice a2 n2 c2] W fun e W' => e = .returned (.tuple #[.agg #[.int .i64 g1, .int .i64 g2, .int .i64 g3, .int .i64 g4, .int .i64 g5, .int .i64 g6, .int .i64 g7, .int .i64 g8], .int .i64 0]) ∧ Below W.heap.size W W')) (HS : Hid (∀ (a2 : Option Addr) (n2 c2 : Nat) (W : World), VRow W a2 n2 (vs.take i ++ vs.drop (i + 1)) → Calls Try.prog 19 #[.slice a2 n2 c2, .int .i64 x, .int .i64 z] W fun e W' => e = .returned (.tuple #[.agg #[.int .i64 s1, .int .i64 s2, .int .i64 s3, .int .i64 s4], .int .i64 0]) ∧ Below W.heap.size W W')) (HD : Hid (∀ (a2 : Option Addr) (n2 c2 : Nat) (W : World), VRow W a2 n2 (vs.reverse) → Calls Try.prog 21 #[.slice a2 n2 c2] W fun e W' => e = .returned (.tuple #[.agg #[.int .i64 f1, .int .i64 f2, .int .i64 f3, .int .i64 f4, .int .i64 f5, .int .i64 f6, .int .i64 f7, .int .i64 f8], .int .i64 0]) ∧ Below W.heap.size W W')) (W1 : Hid (∀ W : World, Calls Try.prog 47 #[.agg #[.int .i64 f1, .int .i64 f2, .int .i64 f3, .int .i64 f4], .agg #[.int .i64 g1, .int .i64 g2, .int .i64 g3, .int .i64 g4]] W fun e W' => e = .returned (.bool true) ∧ Below W.heap.size W W')) (W2 : Hid (∀ W : World, Calls Try.prog 47 #[.agg #[.int .i64 f5, .int .i64 f6, .int .i64 f7, .int .i64 f8], .agg #[.int .i64 g5, .int .i64 g6, .int .i64 g7, .int .i64 g8]] W fun e W' => e = .returned (.bool true) ∧ Below W.heap.size W W')) (W3 : Hid (∀ W : World, Calls Try.prog 47 #[.agg #[.int .i64 r1, .int .i64 r2, .int .i64 r3, .int .i64 r4], .agg #[.int .i64 s1, .int .i64 s2, .int .i64 s3, .int .i64 s4]] W fun e W' => e = .returned (.bool true) ∧ Below W.heap.size W W')) :
    Calls Try.prog 10 #[.slice (some ⟨b, o, none⟩) n c, .int .i64 t, .int .i64 x, .int .i64 z] w fun e w' => e = .returned (.bool true) ∧ Below w.heap.size w w' := by
  have hmx : Try.prog.follows .mixedOrders = true := by kernel_rfl
  have HN := Lib.hid hn; have HT := Lib.hid hti; have HI := Lib.hid hi; have HCc := Lib.hid hcc
  have u1 : (0 : Int) ≤ t := by omega
  clear hn hti hi hcc
  go_enter Try.func10, Try.ntmps10
  go_wp2_with fail
  refine (HAl.out _).mono ?_
  rintro e w1 ⟨rfl, hb⟩
  have hBw : Below w.heap.size w w1 := by (repeat' (first | (with_reducible exact Below.refl _ _) | (with_reducible assumption) | (with_reducible refine belowThru ?_ (by assumption)) | (with_reducible refine belowAlloc ?_) | (with_reducible refine Below.setCell ?_ (by first | omega | (simp; done) | (simp; omega)) _) | (with_reducible refine Below.drew ?_) | (with_reducible refine below_drewN ?_ _)))
  have hzw1 := hBw.size
  clear hb
  go_wp2_with fail
  refine (HK.out _ (HR.out.later hBw)).mono ?_
  rintro e w2 ⟨rfl, hb⟩
  replace hBw : Below w.heap.size w w2 := belowThru hBw hb
  have hzw2 := hBw.size
  clear hb
  go_wp2_with fail
  refine (HX.out _ (HR.out.later (belowAlloc hBw))).mono ?_
  rintro e w3 ⟨rfl, hb⟩
  have k0 : Blk w3 (w2.heap.size) #[.int .i64 f1, .int .i64 f2, .int .i64 f3, .int .i64 f4, .int .i64 f5, .int .i64 f6, .int .i64 f7, .int .i64 f8] 41 := Blk.later hb (Blk.new rfl)
  replace hBw : Below w.heap.size w w3 := belowThru (belowAlloc hBw) hb
  obtain ⟨a0, b0⟩ := k0.read; have y0 := k0.lt
  have hzw3 := hBw.size
  clear hb
  go_wp2_with fail
  obtain ⟨Wp, hWp⟩ : ∃ Wp, (w3.alloc (.cells #[.int .i64 r1, .int .i64 r2, .int .i64 r3, .int .i64 r4] 35)) = Wp := ⟨_, rfl⟩
  have kn0 : Blk Wp (w2.heap.size) #[.int .i64 f1, .int .i64 f2, .int .i64 f3, .int .i64 f4, .int .i64 f5, .int .i64 f6, .int .i64 f7, .int .i64 f8] 41 := by rw [← hWp]; (repeat' (first | (with_reducible assumption) | ((with_reducible refine Blk.new ?_); first | rfl | (simp; done)) | (with_reducible refine Blk.later (by assumption) ?_) | (with_reducible refine Blk.alloc ?_) | (with_reducible refine Blk.drewN ?_) | (with_reducible refine Blk.drew ?_) | (with_reducible refine Blk.other ?_ (by first | omega | (simp; done) | (simp; omega)))))
  have kn1 : Blk Wp (w3.heap.size) #[.int .i64 r1, .int .i64 r2, .int .i64 r3, .int .i64 r4] 35 := by rw [← hWp]; (repeat' (first | (with_reducible assumption) | ((with_reducible refine Blk.new ?_); first | rfl | (simp; done)) | (with_reducible refine Blk.later (by assumption) ?_) | (with_reducible refine Blk.alloc ?_) | (with_reducible refine Blk.drewN ?_) | (with_reducible refine Blk.drew ?_) | (with_reducible refine Blk.other ?_ (by first | omega | (simp; done) | (simp; omega)))))
  replace hBw : Below w.heap.size w Wp := by rw [← hWp]; (repeat' (first | (with_reducible exact Below.refl _ _) | (with_reducible assumption) | (with_reducible refine belowThru ?_ (by assumption)) | (with_reducible refine belowAlloc ?_) | (with_reducible refine Below.setCell ?_ (by first | omega | (simp; done) | (simp; omega)) _) | (with_reducible refine Below.drew ?_) | (with_reducible refine below_drewN ?_ _)))
  clear k0 a0 b0 y0
  rw [hWp]
  clear hWp
  have k0 := kn0; clear kn0; have y0 := k0.lt
  have k1 := kn1; clear kn1; have y1 := k1.lt
  have HRp : Hid (VRow Wp (some ⟨b, o, none⟩) n vs) := HR.out.later hBw
  go_cut [14] (fun s14 wx => (∃ (a2 : Option Addr) (n2 c2 : Nat), s14 = .slice a2 n2 c2 ∧ VRow wx a2 n2 (vs.take i ++ vs.drop (i + 1))) ∧ Below Wp.heap.size Wp wx)
  case first =>
    refine wp_region_held_drew (S := fun w' => Below Wp.heap.size Wp w') hmx (Below.refl _ _).drew (fun hHeld => ?_)
    obtain ⟨Wd, hWd⟩ : ∃ Wd, Wp.drew = Wd := ⟨_, rfl⟩
    have hBd : Below Wp.heap.size Wp Wd := by rw [← hWd]; exact (Below.refl _ _).drew
    rw [hWd] at hHeld ⊢
    clear hWd k0 k1 y0 y1
    have hn := HN.out; have hti := HT.out; have hi := HI.out; have hcc := HCc.out
    have hsz := hBd.size
    subst hti
    have v1 : ((i : Nat) : Int).toNat = i := by omega
    have v2 : (((i : Nat) : Int) + 1).toNat = i + 1 := by omega
    have v3 : IntKind.i64.wrap (((i : Nat) : Int) + 1) = ((i : Nat) : Int) + 1 := wr64 _ (by omega)
    have v4 : ¬ c < i := by omega
    have v5 : ¬ n < i + 1 := by omega
    have v6 : i + 1 ≤ n := by omega
    have v7 : i ≤ c := by omega
    have v8 : n ≤ c := hcc
    have v9 : i + 1 ≤ c := by omega
    have x1 : ((i : Nat) : Int) ≤ (c : Int) := by omega
    have x2 : ((i : Nat) : Int) + 1 ≤ (n : Int) := by omega
    have x3 : (0 : Int) ≤ ((i : Nat) : Int) + 1 := by omega
    have x4 : (n : Int) ≤ (c : Int) := by omega
    refine wpAnyH_take (i := 1) (v := ?_) rfl (by kernel_rfl) (by kernel_rfl) (by kernel_rfl) (fun _ _ _ h => h) (Or.inl ⟨by rfl, ?hT21⟩) (by assumption) ?_
    case hT21 => ((intro w hSw; (try dsimp only at hSw); go_simp); try (with_reducible rfl))
    try simp only [Act.put, List.setIfInBounds_toArray, List.set_cons_zero, List.set_cons_succ]
    refine wpAnyH_take (i := 2) (v := ?_) rfl (by kernel_rfl) (by kernel_rfl) (by kernel_rfl) (fun _ _ _ h => h) (Or.inl ⟨by rfl, ?hT22⟩) (by assumption) ?_
    case hT22 => ((intro w hSw; (try dsimp only at hSw); go_simp); try (with_reducible rfl))
    try simp only [Act.put, List.setIfInBounds_toArray, List.set_cons_zero, List.set_cons_succ]
    refine wpAnyH_take (i := 3) (v := ?_) rfl (by kernel_rfl) (by kernel_rfl) (by kernel_rfl) (fun _ _ _ h => h) (Or.inl ⟨by rfl, ?hT23⟩) (by assumption) ?_
    case hT23 => ((intro w hSw; (try dsimp only at hSw); go_simp); try (with_reducible rfl))
    try simp only [Act.put, List.setIfInBounds_toArray, List.set_cons_zero, List.set_cons_succ]
    refine wpAnyH_take (i := 5) (v := ?_) rfl (by kernel_rfl) (by kernel_rfl) (by kernel_rfl) (fun _ _ _ h => h) (Or.inl ⟨by rfl, ?hT24⟩) (by assumption) ?_
    case hT24 => ((intro w hSw; (try dsimp only at hSw); go_simp); try (with_reducible rfl))
    try simp only [Act.put, List.setIfInBounds_toArray, List.set_cons_zero, List.set_cons_succ]
    refine wpAnyH_take (i := 6) (v := ?_) rfl (by kernel_rfl) (by kernel_rfl) (by kernel_rfl) (fun _ _ _ h => h) (Or.inl ⟨by rfl, ?hT25⟩) (by assumption) ?_
    case hT25 => ((intro w hSw; (try dsimp only at hSw); go_simp); try (with_reducible rfl))
    try simp only [Act.put, List.setIfInBounds_toArray, List.set_cons_zero, List.set_cons_succ]
    refine wpAnyH_take (i := 7) (v := ?_) rfl (by kernel_rfl) (by kernel_rfl) (by kernel_rfl) (fun _ _ _ h => h) (Or.inl ⟨by rfl, ?hT26⟩) (by assumption) ?_
    case hT26 => ((intro w hSw; (try dsimp only at hSw); go_simp); try (with_reducible rfl))
    try simp only [Act.put, List.setIfInBounds_toArray, List.set_cons_zero, List.set_cons_succ]
    refine wpAnyH_take (i := 8) (v := ?_) rfl (by kernel_rfl) (by kernel_rfl) (by kernel_rfl) (fun _ _ _ h => h) (Or.inl ⟨by rfl, ?hT27⟩) (by assumption) ?_
    case hT27 => ((intro w hSw; (try dsimp only at hSw); go_simp); try (with_reducible rfl))
    try simp only [Act.put, List.setIfInBounds_toArray, List.set_cons_zero, List.set_cons_succ]
    have hDr : ∀ W : World, VRow W (some ⟨b, o, none⟩) n vs → VRow W (if c = i + 1 then some ⟨b, o, none⟩ else some ⟨b, o + (i + 1) * 4, none⟩) (n - (i + 1)) (vs.drop (i + 1)) := fun W h => h.drop2 (by omega) hcc
    generalize (if c = i + 1 then some (⟨b, o, none⟩ : Addr) else some ⟨b, o + (i + 1) * 4, none⟩) = PTR at hDr ⊢
    refine wpAnyH_ready (rs := [0]) (by kernel_rfl) (by simp) ?_
    refine AllReadyH.cons rfl (fun K hK => ?_) AllReadyH.nil
    go_simp
    have hB1 : Below Wp.heap.size Wp (Wd.alloc (.cells #[] 45)) := belowAlloc hBd
    have o42 : Blk (Wd.alloc (.cells #[] 45)) Wd.heap.size #[] 45 := Blk.new rfl
    refine hK.out _ _ ?_ (fun hHeldN => ?_)
    · (try dsimp only); exact hB1
    clear hK K hHeld
    have hHeld := hHeldN
    clear hHeldN
    try simp only [Act.put, List.setIfInBounds_toArray, List.set_cons_zero, List.set_cons_succ]
    obtain ⟨W1, hW1⟩ : ∃ z, (Wd.alloc (.cells #[] 45)) = z := ⟨_, rfl⟩
    rw [hW1] at hHeld hB1 o42 ⊢
    clear hW1
    have y42 := o42.lt
    refine wpAnyH_ready (rs := [4]) (by kernel_rfl) (by simp) ?_
    refine AllReadyH.cons rfl (fun K hK => ?_) AllReadyH.nil
    rw [if_pos (by rfl)]
    refine wp_append_slot _ _ _ _ rfl _ _ rfl rfl (few_app _ (Nat.le_refl _) o42 ((HRp.out.later hB1).take (show i ≤ n by omega)) (by omega)) ?_
    rintro r W2 ⟨v1, rfl, O1, hb1⟩
    have hB2 : Below Wp.heap.size Wp W2 := Below.trans hB1 (hb1.mono (by omega))
    have hsW2 := hb1.size
    clear hb1
    refine hK.out _ _ ?_ (fun hHeldN => ?_)
    · (try dsimp only); exact hB2
    clear hK K hHeld
    have hHeld := hHeldN
    clear hHeldN
    try simp only [Act.put, List.setIfInBounds_toArray, List.set_cons_zero, List.set_cons_succ]
    refine wpAnyH_ready (rs := [9]) (by kernel_rfl) (by simp) ?_
    refine AllReadyH.cons rfl (fun K hK => ?_) AllReadyH.nil
    rw [if_pos (by rfl)]
    refine wp_append_slot _ _ _ _ rfl _ _ rfl rfl (few_app2 _ O1 (hDr _ (HRp.out.later hB2)) ⟨by rw [List.length_take]; omega, by omega⟩ (by omega)) ?_
    rintro r W3 ⟨a2, n2, c2, rfl, hR2, hb1⟩
    have hB3 : Below Wp.heap.size Wp W3 := Below.trans hB2 (hb1.mono (by omega))
    have hsW3 := hb1.size
    clear hb1
    refine hK.out _ _ ?_ (fun hHeldN => ?_)
    · (try dsimp only); exact hB3
    clear hK K hHeld
    have hHeld := hHeldN
    clear hHeldN
    try simp only [Act.put, List.setIfInBounds_toArray, List.set_cons_zero, List.set_cons_succ]
    refine wpAnyH_ready (rs := [10]) (by kernel_rfl) (by simp) ?_
    refine AllReadyH.cons rfl (fun K hK => ?_) AllReadyH.nil
    go_simp
    refine hK.out _ _ ?_ (fun hHeldN => ?_)
    · (try dsimp only); exact hHeld
    clear hK K hHeld
    have hHeld := hHeldN
    clear hHeldN
    try simp only [Act.put, List.setIfInBounds_toArray, List.set_cons_zero, List.set_cons_succ]
    refine wpAnyH_done (by kernel_rfl) ?_ _
    go_wp2_with fail
    go_meet
    exact ⟨⟨a2, n2, c2, rfl, hR2⟩, hB3⟩
  case rest =>
    obtain ⟨⟨a2, n2, c2, rfl, hR2⟩, hb⟩ := hcut
    obtain ⟨wq, rfl⟩ : ∃ wq, wq = wc := ⟨_, rfl⟩
    replace k0 := Blk.later hb k0; clear y0; obtain ⟨a0, b0⟩ := k0.read; have y0 := k0.lt
    replace k1 := Blk.later hb k1; clear y1; obtain ⟨a1, b1⟩ := k1.read; have y1 := k1.lt
    replace hBw : Below w.heap.size w wq := belowThru hBw hb
    have hzq := hBw.size
    have HM := Lib.hid hR2; clear hb hR2 HRp
    go_wp2_with fail
    refine (HG.out _ _ _ _ HM.out).mono ?_
    rintro e w4 ⟨rfl, hb⟩
    replace HM : Hid (VRow w4 a2 n2 (vs.take i ++ vs.drop (i + 1))) := HM.out.later hb
    replace k0 := Blk.later hb k0; clear a0 b0 y0
    replace k1 := Blk.later hb k1; clear a1 b1 y1
    replace hBw : Below w.heap.size w w4 := belowThru hBw hb
    obtain ⟨a0, b0⟩ := k0.read; have y0 := k0.lt
    obtain ⟨a1, b1⟩ := k1.read; have y1 := k1.lt
    have hzw4 := hBw.size
    clear hb
    go_wp2_with fail
    refine (HS.out _ _ _ _ (HM.out.later (by (repeat' (first | (with_reducible exact Below.refl _ _) | (with_reducible assumption) | (with_reducible refine belowThru ?_ (by assumption)) | (with_reducible refine belowAlloc ?_) | (with_reducible refine Below.setCell ?_ (by first | omega | (simp; done) | (simp; omega)) _) | (with_reducible refine Below.drew ?_) | (with_reducible refine below_drewN ?_ _)))))).mono ?_
    rintro e w5 ⟨rfl, hb⟩
    replace k0 := Blk.later hb (Blk.alloc k0); clear a0 b0 y0
    replace k1 := Blk.later hb (Blk.alloc k1); clear a1 b1 y1
    have k2 : Blk w5 (w4.heap.size) #[.int .i64 g1, .int .i64 g2, .int .i64 g3, .int .i64 g4, .int .i64 g5, .int .i64 g6, .int .i64 g7, .int .i64 g8] 41 := Blk.later hb (Blk.new rfl)
    replace hBw : Below w.heap.size w w5 := belowThru (belowAlloc hBw) hb
    obtain ⟨a0, b0⟩ := k0.read; have y0 := k0.lt
    obtain ⟨a1, b1⟩ := k1.read; have y1 := k1.lt
    obtain ⟨a2, b2⟩ := k2.read; have y2 := k2.lt
    have hzw5 := hBw.size
    clear hb
    clear HM
    go_wp2_with fail
    have k3 : Blk (w5.alloc (.cells #[.int .i64 s1, .int .i64 s2, .int .i64 s3, .int .i64 s4] 35)) w5.heap.size #[.int .i64 s1, .int .i64 s2, .int .i64 s3, .int .i64 s4] 35 := Blk.new rfl
    replace k0 := Blk.alloc (o := .cells #[.int .i64 s1, .int .i64 s2, .int .i64 s3, .int .i64 s4] 35) k0
    replace k1 := Blk.alloc (o := .cells #[.int .i64 s1, .int .i64 s2, .int .i64 s3, .int .i64 s4] 35) k1
    replace k2 := Blk.alloc (o := .cells #[.int .i64 s1, .int .i64 s2, .int .i64 s3, .int .i64 s4] 35) k2
    have hB3 : Below w.heap.size w (w5.alloc (.cells #[.int .i64 s1, .int .i64 s2, .int .i64 s3, .int .i64 s4] 35)) := belowAlloc hBw
    clear hBw a0 b0 y0 a1 b1 y1 a2 b2 y2
    obtain ⟨w0, hw0⟩ : ∃ z, (w5.alloc (.cells #[.int .i64 s1, .int .i64 s2, .int .i64 s3, .int .i64 s4] 35)) = z := ⟨_, rfl⟩
    rw [hw0] at k0 k1 k2 k3 hB3 ⊢
    clear hw0
    have y3 := k3.lt
    have hB0 := Below.refl w0.heap.size w0
    go_loopw [19, 20, 81] (fun v _ j wr => ∃ k : Nat, k ≤ n ∧ j = .int .i64 k ∧ OwnV w0.heap.size wr v (vs.reverse.take k) ∧ Below w0.heap.size w0 wr) (fun _ _ j _ => n - (intOf j).toNat)
    case atStart => exact ⟨0, Nat.zero_le _, rfl, OwnV.nil _ _, hB0⟩
    case round =>
      obtain ⟨k, hk, rfl, O, hB⟩ := hrel
      have hn := HN.out
      by_cases hlt : k < n
      · have hl := HR.out.1
        obtain ⟨bb, oo, vx, vz, vl, vh, ha, l1, e1, q1, q2, q3, q4⟩ := HR.out.at (show n - 1 - k < n by omega)
        obtain ⟨rfl, rfl⟩ : b = bb ∧ o = oo := by simpa using ha
        have hzr := hB.size
        have hBB : Below w.heap.size w wr := Below.trans hB3 (hB.mono (by have := hB3.size; omega))
        have q1 := cell_later hBB q1
        have q2 := cell_later hBB q2
        have q3 := cell_later hBB q3
        have q4 := cell_later hBB q4
        have u2 : (0 : Int) ≤ (k : Int) := by omega
        have u3 : (k : Int) < (n : Int) := by omega
        have u4 : (n : Int) - 1 - (k : Int) = ((n - 1 - k : Nat) : Int) := by omega
        have u5 : IntKind.i64.wrap ((n : Int) - 1) = (n : Int) - 1 := wr64 _ (by omega)
        have u6 : IntKind.i64.wrap (((n - 1 - k : Nat)) : Int) = ((n - 1 - k : Nat) : Int) := wr64 _ (by omega)
        have u7 : ((n - 1 - k : Nat) : Int) < (n : Int) := by omega
        have u8 : (0 : Int) ≤ ((n - 1 - k : Nat) : Int) := by omega
        have u9 : IntKind.i64.wrap ((n : Int) - 1 - (k : Int)) = ((n - 1 - k : Nat) : Int) := by rw [u4]; exact u6
        have HO := Lib.hid O; clear O
        have hT : vs.reverse.take (k + 1) = vs.reverse.take k ++ [(vx, vz, vl, vh)] := few_rev ⟨by omega, hl⟩ e1
        have HTk := Lib.hid hT; clear hT e1 hl ha
        go_wp2_with (at_builtin; (refine wpList_append_slot rfl _ _ _ _ rfl _ _ rfl rfl (few_app1 (X := vx) (Z := vz) (lo := vl) (hi := vh) _ (HO.out.later (by (repeat' (first | (with_reducible exact Below.refl _ _) | (with_reducible assumption) | (with_reducible refine belowThru ?_ (by assumption)) | (with_reducible refine belowAlloc ?_) | (with_reducible refine Below.setCell ?_ (by first | omega | (simp; done) | (simp; omega)) _) | (with_reducible refine Below.drew ?_) | (with_reducible refine below_drewN ?_ _))))) (by (repeat' (first | (with_reducible assumption) | ((with_reducible refine Blk.new ?_); first | rfl | (simp; done)) | (with_reducible refine Blk.later (by assumption) ?_) | (with_reducible refine Blk.alloc ?_) | (with_reducible refine Blk.drewN ?_) | (with_reducible refine Blk.drew ?_) | (with_reducible refine Blk.other ?_ (by first | omega | (simp; done) | (simp; omega)))))) (by rw [List.length_take]; omega) (by first | omega | (simp only [World.size_alloc]; omega))) ?_); (rintro r w9 ⟨v9, rfl, O9, hb9⟩))
        rw [← HTk.out] at O9
        have hB9 : Below w0.heap.size w0 w9 := Below.trans (belowAlloc hB) hb9
        go_wp2_with fail
        go_roundw
        case rel => exact ⟨k + 1, hlt, by go_num, O9, hB9⟩
        case measure => simp [intOf]; omega
      · obtain rfl : k = n := by omega
        have hl := HR.out.1
        rw [List.take_of_length_le (by rw [List.length_reverse]; omega)] at O
        obtain ⟨a4, c4, hv4, hR4, -⟩ := O.row
        rw [List.length_reverse, hl] at hv4 hR4
        subst hv4
        have HM4 := Lib.hid hR4; clear hR4 O
        have hBw : Below w.heap.size w wr := Below.trans hB3 (hB.mono (by omega))
        replace k0 : Blk wr (w2.heap.size) #[.int .i64 f1, .int .i64 f2, .int .i64 f3, .int .i64 f4, .int .i64 f5, .int .i64 f6, .int .i64 f7, .int .i64 f8] 41 := Blk.below hB (by have := k0.lt; omega) k0
        replace k1 : Blk wr (w3.heap.size) #[.int .i64 r1, .int .i64 r2, .int .i64 r3, .int .i64 r4] 35 := Blk.below hB (by have := k1.lt; omega) k1
        replace k2 : Blk wr (w4.heap.size) #[.int .i64 g1, .int .i64 g2, .int .i64 g3, .int .i64 g4, .int .i64 g5, .int .i64 g6, .int .i64 g7, .int .i64 g8] 41 := Blk.below hB (by have := k2.lt; omega) k2
        replace k3 : Blk wr (w5.heap.size) #[.int .i64 s1, .int .i64 s2, .int .i64 s3, .int .i64 s4] 35 := Blk.below hB (by have := k3.lt; omega) k3
        clear hB hB3 hB0 y3 hl
        go_wp2_with fail
        refine (HD.out _ _ _ _ HM4.out).mono ?_
        rintro e w31 ⟨rfl, hb⟩
        replace k0 := Blk.later hb k0; obtain ⟨a0, b0⟩ := k0.read; have y0 := k0.lt
        replace k1 := Blk.later hb k1; obtain ⟨a1, b1⟩ := k1.read; have y1 := k1.lt
        replace k2 := Blk.later hb k2; obtain ⟨a2, b2⟩ := k2.read; have y2 := k2.lt
        replace k3 := Blk.later hb k3; obtain ⟨a3, b3⟩ := k3.read; have y3 := k3.lt
        replace hBw : Below w.heap.size w w31 := belowThru hBw hb
        clear hb HM4
        go_wp2_with fail
        refine (W1.out _).mono ?_
        rintro e w32 ⟨rfl, hb⟩
        replace k0 := Blk.later hb (Blk.alloc k0); clear a0 b0 y0
        replace k1 := Blk.later hb (Blk.alloc k1); clear a1 b1 y1
        replace k2 := Blk.later hb (Blk.alloc k2); clear a2 b2 y2
        replace k3 := Blk.later hb (Blk.alloc k3); clear a3 b3 y3
        have k4 : Blk w32 (w31.heap.size) #[.int .i64 f1, .int .i64 f2, .int .i64 f3, .int .i64 f4, .int .i64 f5, .int .i64 f6, .int .i64 f7, .int .i64 f8] 41 := Blk.later hb (Blk.new rfl)
        replace hBw : Below w.heap.size w w32 := belowThru (belowAlloc hBw) hb
        obtain ⟨a0, b0⟩ := k0.read; have y0 := k0.lt
        obtain ⟨a1, b1⟩ := k1.read; have y1 := k1.lt
        obtain ⟨a2, b2⟩ := k2.read; have y2 := k2.lt
        obtain ⟨a3, b3⟩ := k3.read; have y3 := k3.lt
        obtain ⟨a4, b4⟩ := k4.read; have y4 := k4.lt
        have hzw32 := hBw.size
        clear hb
        go_wp2_with fail
        refine (W2.out _).mono ?_
        rintro e w33 ⟨rfl, hb⟩
        replace k0 := Blk.later hb k0; clear a0 b0 y0
        replace k1 := Blk.later hb k1; clear a1 b1 y1
        replace k2 := Blk.later hb k2; clear a2 b2 y2
        replace k3 := Blk.later hb k3; clear a3 b3 y3
        replace k4 := Blk.later hb k4; clear a4 b4 y4
        replace hBw : Below w.heap.size w w33 := belowThru hBw hb
        obtain ⟨a0, b0⟩ := k0.read; have y0 := k0.lt
        obtain ⟨a1, b1⟩ := k1.read; have y1 := k1.lt
        obtain ⟨a2, b2⟩ := k2.read; have y2 := k2.lt
        obtain ⟨a3, b3⟩ := k3.read; have y3 := k3.lt
        obtain ⟨a4, b4⟩ := k4.read; have y4 := k4.lt
        have hzw33 := hBw.size
        clear hb
        go_wp2_with fail
        refine (W3.out _).mono ?_
        rintro e w34 ⟨rfl, hb⟩
        replace k0 := Blk.later hb k0; clear a0 b0 y0
        replace k1 := Blk.later hb k1; clear a1 b1 y1
        replace k2 := Blk.later hb k2; clear a2 b2 y2
        replace k3 := Blk.later hb k3; clear a3 b3 y3
        replace k4 := Blk.later hb k4; clear a4 b4 y4
        replace hBw : Below w.heap.size w w34 := belowThru hBw hb
        obtain ⟨a0, b0⟩ := k0.read; have y0 := k0.lt
        obtain ⟨a1, b1⟩ := k1.read; have y1 := k1.lt
        obtain ⟨a2, b2⟩ := k2.read; have y2 := k2.lt
        obtain ⟨a3, b3⟩ := k3.read; have y3 := k3.lt
        obtain ⟨a4, b4⟩ := k4.read; have y4 := k4.lt
        have hzw34 := hBw.size
        clear hb
        go_wp2_with fail
        go_ret
        exact ⟨rfl, by (repeat' (first | (with_reducible exact Below.refl _ _) | (with_reducible assumption) | (with_reducible refine belowThru ?_ (by assumption)) | (with_reducible refine belowAlloc ?_) | (with_reducible refine Below.setCell ?_ (by first | omega | (simp; done) | (simp; omega)) _) | (with_reducible refine Below.drew ?_) | (with_reducible refine below_drewN ?_ _)))⟩
end Go.Proofs.Ytbdcmdofmokoeaa
