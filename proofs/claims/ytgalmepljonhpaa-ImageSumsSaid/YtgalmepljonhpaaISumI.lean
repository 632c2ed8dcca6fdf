/-
  Layer 2: sums: all answers of both sides.
-/
import Derived.Test.YtgalmepljonhpaaISumR
namespace Go.Proofs.Ytgalmepljonhpaa
open Go.RowKit Go.Shelf
set_option linter.unusedVariables false
set_option linter.unusedSimpArgs false

set_option maxRecDepth 100000 in
set_option maxHeartbeats 8000000 in
theorem rinteg_ok (W H : Int) (Wn Hn : Nat) (hWn : W = (Wn : Int)) (hHn : H = (Hn : Int)) (a : Option Addr) (n c : Nat) (zs : List Int) (hI : okI W H zs) (hn : n ≤ maxLen) (w : World) (hR : Row w a n (iv zs)) :
    Calls Try.prog 34 #[.agg #[.int .i64 W, .int .i64 H, .slice a n c]] w (RetL ((List.range ((Wn + 1) * (Hn + 1))).map fun q => boxN Wn zs 0 0 (q % (Wn + 1)) (q / (Wn + 1))) 0 w) := by
  have hs := hI.1
  unfold okS at hs
  have hW16 : Wn ≤ 16 := by omega
  have hH16 : Hn ≤ 16 := by omega
  have HV := Lib.hid (rvalid_ok hI a n c hn)
  have HS : Hid (∀ i j : Nat, i ≤ Wn → j ≤ Hn → ∀ w, Row w a n (iv zs) → Calls Try.prog 81 #[.agg #[.int .i64 W, .int .i64 H, .slice a n c], .int .i64 0, .int .i64 0, .int .i64 (i : Int), .int .i64 (j : Int)] w fun e w' => e = .returned (.int .i64 ((fun q => boxN Wn zs 0 0 (q % (Wn + 1)) (q / (Wn + 1))) (j * (Wn + 1) + i))) ∧ Below w.heap.size w w') := by
    intro i j hi hj w h
    obtain ⟨e1, e2⟩ := divmod_place (W := Wn + 1) (x := i) (y := j) (by omega)
    dsimp only
    rw [e1, e2]
    exact rsum_any W H Wn Hn 0 0 i j hWn hHn hi hj (by omega) (by omega) a n c zs hI w h
  generalize (fun q => boxN Wn zs 0 0 (q % (Wn + 1)) (q / (Wn + 1))) = f at HS ⊢
  have HR := Lib.hid hR
  have HWN := Lib.hid hWn
  have HHN := Lib.hid hHn
  obtain ⟨i0, hi, hz0, hz1, hz2⟩ := info_parts info_tin
  have g2 : 1 ≤ W := by omega
  have g3 : W ≤ 16 := by omega
  have g4 : 1 ≤ H := by omega
  have g5 : H ≤ 16 := by omega
  have hM : (Hn + 1) * (Wn + 1) ≤ 289 := Nat.mul_le_mul (show Hn + 1 ≤ 17 by omega) (show Wn + 1 ≤ 17 by omega)
  have HM := Lib.hid hM
  clear hI hR hs hWn hHn hM
  go_enter Try.func34, Try.ntmps34
  go_wp2_with (go_at_call 43; (with_reducible refine (HV.out _ (HR.out.later (by (repeat' (first | (with_reducible exact Below.refl _ _) | (with_reducible assumption) | (with_reducible refine belowThru ?_ (by assumption)) | (with_reducible refine belowAlloc ?_) | (with_reducible refine Below.setCell ?_ (by first | omega | (simp; done) | (simp; omega)) _) | (with_reducible refine Below.drew ?_) | (with_reducible refine below_drewN ?_ _)))))).mono ?_); rintro e w1 ⟨rfl, hb⟩; (first | ((with_reducible have k0 := Blk.later hb (Blk.new rfl)); skip; obtain ⟨a0, b0⟩ := k0.read; have zl := k0.lt) | ((try (have zk := k0.lt; (first | ((with_reducible refine Blk.keepG hb k0 (fun h => ?_) ?_); (focus ((repeat' (first | (with_reducible assumption) | ((with_reducible refine Blk.new ?_); first | rfl | (simp; done)) | (with_reducible refine Blk.later (by assumption) ?_) | (with_reducible refine Blk.alloc ?_) | (with_reducible refine Blk.drewN ?_) | (with_reducible refine Blk.drew ?_) | (with_reducible refine Blk.other ?_ (by first | omega | (simp; done) | (simp; omega))))); done)); clear k0; intro k0) | (with_reducible replace k0 := Blk.later hb (Blk.set (Blk.set k0))) | (with_reducible replace k0 := Blk.later hb (Blk.set k0))); clear a0 b0; obtain ⟨a0, b0⟩ := k0.read; have zl := k0.lt)))))
  go_loopw [4, 5, 6] (fun v s5 _ wr => ∃ j : Nat, j ≤ Hn + 1 ∧ s5 = .int .i64 j ∧ wr.ownsRow (w.heap.size + 1) 3 1 v (j * (Wn + 1)) (iv ((List.range (j * (Wn + 1))).map f)) ∧ Blk wr w.heap.size #[.int .i64 W, .int .i64 H, .slice a n c] 24 ∧ Below w.heap.size w wr) (fun _ s5 _ _ => Hn + 1 - (intOf s5).toNat)
  case atStart => exact ⟨0, Nat.zero_le _, rfl, by rw [Nat.zero_mul]; exact World.ownsRow_nil _ _ _ _, by (repeat' (first | (with_reducible assumption) | ((with_reducible refine Blk.new ?_); first | rfl | (simp; done)) | (with_reducible refine Blk.later (by assumption) ?_) | (with_reducible refine Blk.alloc ?_) | (with_reducible refine Blk.drewN ?_) | (with_reducible refine Blk.drew ?_) | (with_reducible refine Blk.other ?_ (by first | omega | (simp; done) | (simp; omega))))), by (repeat' (first | (with_reducible exact Below.refl _ _) | (with_reducible assumption) | (with_reducible refine belowThru ?_ (by assumption)) | (with_reducible refine belowAlloc ?_) | (with_reducible refine Below.setCell ?_ (by first | omega | (simp; done) | (simp; omega)) _) | (with_reducible refine Below.drew ?_) | (with_reducible refine below_drewN ?_ _)))⟩
  case round =>
    clear k0 a0 b0
    obtain ⟨j, hj, rfl, hown, k0, hB⟩ := hrel
    obtain ⟨wo, rfl⟩ : ∃ wo : World, wo = wr := ⟨_, rfl⟩
    obtain ⟨a0, b0⟩ := k0.read
    have p0 : (0 : Int) ≤ (j : Int) := by omega
    have zk0 := k0.lt
    by_cases hlt : j < Hn + 1
    · have p1 : (j : Int) ≤ H := by have := HHN.out; omega
      have hjm : (j + 1) * (Wn + 1) ≤ (Hn + 1) * (Wn + 1) := Nat.mul_le_mul_right _ hlt
      have hjs : (j + 1) * (Wn + 1) = j * (Wn + 1) + (Wn + 1) := Nat.succ_mul _ _
      obtain ⟨Q, hQ⟩ : ∃ Q, j * (Wn + 1) = Q := ⟨_, rfl⟩
      have HQ1 : Hid (Q + (Wn + 1) ≤ 289) := by show _ ≤ _; have := HM.out; omega
      have HQ2 : Hid ((j + 1) * (Wn + 1) = Q + (Wn + 1)) := by show _ = _; omega
      have HSj : Hid (∀ i : Nat, i ≤ Wn → ∀ w, Row w a n (iv zs) → Calls Try.prog 81 #[.agg #[.int .i64 W, .int .i64 H, .slice a n c], .int .i64 0, .int .i64 0, .int .i64 (i : Int), .int .i64 (j : Int)] w fun e w' => e = .returned (.int .i64 (f (Q + i))) ∧ Below w.heap.size w w') := by
        intro i hi w h; have := HS.out i j hi (by omega) w h; rwa [hQ] at this
      rw [hQ] at hown
      clear hQ hjm hjs
      go_wp2
      go_loopw [4, 6] (fun v s6 wr => ∃ i : Nat, i ≤ Wn + 1 ∧ s6 = .int .i64 i ∧ wr.ownsRow (w.heap.size + 1) 3 1 v (Q + i) (iv ((List.range (Q + i)).map f)) ∧ Blk wr w.heap.size #[.int .i64 W, .int .i64 H, .slice a n c] 24 ∧ Below w.heap.size w wr) (fun _ s6 _ => Wn + 1 - (intOf s6).toNat)
      case atStart => exact ⟨0, Nat.zero_le _, rfl, hown, k0, hB⟩
      case round =>
        clear k0 a0 b0 hown
        obtain ⟨i, hi', rfl, hown, k0, hB⟩ := hrel
        obtain ⟨a0, b0⟩ := k0.read
        have p2 : (0 : Int) ≤ (i : Int) := by omega
        have zk0 := k0.lt
        by_cases hli : i < Wn + 1
        · have p3 : (i : Int) ≤ W := by have := HWN.out; omega
          have HS1 := Lib.hid (HSj.out i (by omega))
          have hzB := hB.size
          have hq1 := HQ1.out
          go_wp2_with (first
            | (go_at_call 81; (with_reducible refine (HS1.out _ (HR.out.later hB)).mono ?_); rintro e w1 ⟨rfl, hb⟩; have hown1 := ownsRow_later hb hown; have hb' := hb.size)
            | (at_builtin; refine wpList_append_own _ rfl _ _ 22 rfl (w.heap.size + 1) 3 i0 (.int .i64 0) 1 8 Try.underlying22 hi hz0 hz1 hz2 rfl (by decide) _ _ _ rfl (hown1.alloc _) ⟨w1.heap.size, 0, none⟩ 1 1 [.int .i64 (f (Q + i))] rfl rfl (cell_one_new _ _ _) (fun x hx => by simp at hx; subst hx; rfl) (by unfold maxLen; omega) (by omega) (by simp; omega) ?_; intro v' w3 hown' hgrow3 hnil3))
          have hB' := below_growL hown1 (belowAlloc (belowThru hB hb)) hgrow3
          have HO := Lib.hid (own_map hown')
          have kq : Blk w3 w.heap.size #[.int .i64 W, .int .i64 H, .slice a n c] 24 := (hgrow3.block w.heap.size (Nat.lt_of_lt_of_le zk0 (by simp; omega)) (fun e => by have := hown1.lt _ e.symm; omega)).trans (Blk.alloc (Blk.later hb k0))
          clear hown' hgrow3 hnil3 hown hown1
          go_roundw
          case rel => exact ⟨i + 1, hli, by go_num, HO.out, kq, hB'⟩
          case measure => simp [intOf]; omega
        · have p3 : W < (i : Int) := by have := HWN.out; omega
          obtain rfl : i = Wn + 1 := by omega
          have HO := Lib.hid hown
          clear hown
          go_wp2
          go_roundw
          case rel => exact ⟨j + 1, hlt, by go_num, by rw [HQ2.out]; exact HO.out, k0, hB⟩
          case measure => simp [intOf]; omega
    · obtain rfl : j = Hn + 1 := by omega
      have p1 : H < ((Hn + 1 : Nat) : Int) := by have := HHN.out; omega
      rw [Nat.mul_comm (Hn + 1) (Wn + 1)] at hown
      have hln : ((List.range ((Wn + 1) * (Hn + 1))).map f).length = (Wn + 1) * (Hn + 1) := by simp
      obtain ⟨v, e, rfl, hr⟩ := ownsRow_row (zs := (List.range ((Wn + 1) * (Hn + 1))).map f) (by rw [hln]; exact hown)
      have HQ := Lib.hid hr
      have HL := Lib.hid hln
      clear hr hown hln
      rw [HL.out]
      go_wp2
      go_ret2
      exact ⟨v, e, by rw [HL.out]; rfl, HQ.out, hB⟩

set_option maxHeartbeats 1000000 in
theorem rrows_no (W H : Int) (a : Option Addr) (n c : Nat) (zs : List Int) (hI : ¬ okI W H zs) (hn : n ≤ maxLen) (w : World) (hR : Row w a n (iv zs)) :
    Calls Try.prog 30 #[.agg #[.int .i64 W, .int .i64 H, .slice a n c]] w (RetL [] 20 w) := by
  have HV := Lib.hid (rvalid_no hI a n c hn)
  have HR := Lib.hid hR
  clear hI hR
  go_enter Try.func30, Try.ntmps30
  go_wp2_with (go_at_call 43; (with_reducible refine (HV.out _ (HR.out.later (by (repeat' (first | (with_reducible exact Below.refl _ _) | (with_reducible assumption) | (with_reducible refine belowThru ?_ (by assumption)) | (with_reducible refine belowAlloc ?_) | (with_reducible refine Below.setCell ?_ (by first | omega | (simp; done) | (simp; omega)) _) | (with_reducible refine Below.drew ?_) | (with_reducible refine below_drewN ?_ _)))))).mono ?_); rintro e w1 ⟨rfl, hb⟩; (first | ((with_reducible have k0 := Blk.later hb (Blk.new rfl)); skip; obtain ⟨a0, b0⟩ := k0.read; have zl := k0.lt) | ((try (have zk := k0.lt; (first | ((with_reducible refine Blk.keepG hb k0 (fun h => ?_) ?_); (focus ((repeat' (first | (with_reducible assumption) | ((with_reducible refine Blk.new ?_); first | rfl | (simp; done)) | (with_reducible refine Blk.later (by assumption) ?_) | (with_reducible refine Blk.alloc ?_) | (with_reducible refine Blk.drewN ?_) | (with_reducible refine Blk.drew ?_) | (with_reducible refine Blk.other ?_ (by first | omega | (simp; done) | (simp; omega))))); done)); clear k0; intro k0) | (with_reducible replace k0 := Blk.later hb (Blk.set (Blk.set k0))) | (with_reducible replace k0 := Blk.later hb (Blk.set k0))); clear a0 b0; obtain ⟨a0, b0⟩ := k0.read; have zl := k0.lt)))))
  go_ret2
  exact retL_nil (by (repeat' (first | (with_reducible exact Below.refl _ _) | (with_reducible assumption) | (with_reducible refine belowThru ?_ (by assumption)) | (with_reducible refine belowAlloc ?_) | (with_reducible refine Below.setCell ?_ (by first | omega | (simp; done) | (simp; omega)) _) | (with_reducible refine Below.drew ?_) | (with_reducible refine below_drewN ?_ _))))

set_option maxHeartbeats 1000000 in
theorem rcols_no (W H : Int) (a : Option Addr) (n c : Nat) (zs : List Int) (hI : ¬ okI W H zs) (hn : n ≤ maxLen) (w : World) (hR : Row w a n (iv zs)) :
    Calls Try.prog 32 #[.agg #[.int .i64 W, .int .i64 H, .slice a n c]] w (RetL [] 20 w) := by
  have HV := Lib.hid (rvalid_no hI a n c hn)
  have HR := Lib.hid hR
  clear hI hR
  go_enter Try.func32, Try.ntmps32
  go_wp2_with (go_at_call 43; (with_reducible refine (HV.out _ (HR.out.later (by (repeat' (first | (with_reducible exact Below.refl _ _) | (with_reducible assumption) | (with_reducible refine belowThru ?_ (by assumption)) | (with_reducible refine belowAlloc ?_) | (with_reducible refine Below.setCell ?_ (by first | omega | (simp; done) | (simp; omega)) _) | (with_reducible refine Below.drew ?_) | (with_reducible refine below_drewN ?_ _)))))).mono ?_); rintro e w1 ⟨rfl, hb⟩; (first | ((with_reducible have k0 := Blk.later hb (Blk.new rfl)); skip; obtain ⟨a0, b0⟩ := k0.read; have zl := k0.lt) | ((try (have zk := k0.lt; (first | ((with_reducible refine Blk.keepG hb k0 (fun h => ?_) ?_); (focus ((repeat' (first | (with_reducible assumption) | ((with_reducible refine Blk.new ?_); first | rfl | (simp; done)) | (with_reducible refine Blk.later (by assumption) ?_) | (with_reducible refine Blk.alloc ?_) | (with_reducible refine Blk.drewN ?_) | (with_reducible refine Blk.drew ?_) | (with_reducible refine Blk.other ?_ (by first | omega | (simp; done) | (simp; omega))))); done)); clear k0; intro k0) | (with_reducible replace k0 := Blk.later hb (Blk.set (Blk.set k0))) | (with_reducible replace k0 := Blk.later hb (Blk.set k0))); clear a0 b0; obtain ⟨a0, b0⟩ := k0.read; have zl := k0.lt)))))
  go_ret2
  exact retL_nil (by (repeat' (first | (with_reducible exact Below.refl _ _) | (with_reducible assumption) | (with_reducible refine belowThru ?_ (by assumption)) | (with_reducible refine belowAlloc ?_) | (with_reducible refine Below.setCell ?_ (by first | omega | (simp; done) | (simp; omega)) _) | (with_reducible refine Below.drew ?_) | (with_reducible refine below_drewN ?_ _))))

set_option maxHeartbeats 1000000 in
theorem rinteg_no (W H : Int) (a : Option Addr) (n c : Nat) (zs : List Int) (hI : ¬ okI W H zs) (hn : n ≤ maxLen) (w : World) (hR : Row w a n (iv zs)) :
    Calls Try.prog 34 #[.agg #[.int .i64 W, .int .i64 H, .slice a n c]] w (RetL [] 20 w) := by
  have HV := Lib.hid (rvalid_no hI a n c hn)
  have HR := Lib.hid hR
  clear hI hR
  go_enter Try.func34, Try.ntmps34
  go_wp2_with (go_at_call 43; (with_reducible refine (HV.out _ (HR.out.later (by (repeat' (first | (with_reducible exact Below.refl _ _) | (with_reducible assumption) | (with_reducible refine belowThru ?_ (by assumption)) | (with_reducible refine belowAlloc ?_) | (with_reducible refine Below.setCell ?_ (by first | omega | (simp; done) | (simp; omega)) _) | (with_reducible refine Below.drew ?_) | (with_reducible refine below_drewN ?_ _)))))).mono ?_); rintro e w1 ⟨rfl, hb⟩; (first | ((with_reducible have k0 := Blk.later hb (Blk.new rfl)); skip; obtain ⟨a0, b0⟩ := k0.read; have zl := k0.lt) | ((try (have zk := k0.lt; (first | ((with_reducible refine Blk.keepG hb k0 (fun h => ?_) ?_); (focus ((repeat' (first | (with_reducible assumption) | ((with_reducible refine Blk.new ?_); first | rfl | (simp; done)) | (with_reducible refine Blk.later (by assumption) ?_) | (with_reducible refine Blk.alloc ?_) | (with_reducible refine Blk.drewN ?_) | (with_reducible refine Blk.drew ?_) | (with_reducible refine Blk.other ?_ (by first | omega | (simp; done) | (simp; omega))))); done)); clear k0; intro k0) | (with_reducible replace k0 := Blk.later hb (Blk.set (Blk.set k0))) | (with_reducible replace k0 := Blk.later hb (Blk.set k0))); clear a0 b0; obtain ⟨a0, b0⟩ := k0.read; have zl := k0.lt)))))
  go_ret2
  exact retL_nil (by (repeat' (first | (with_reducible exact Below.refl _ _) | (with_reducible assumption) | (with_reducible refine belowThru ?_ (by assumption)) | (with_reducible refine belowAlloc ?_) | (with_reducible refine Below.setCell ?_ (by first | omega | (simp; done) | (simp; omega)) _) | (with_reducible refine Below.drew ?_) | (with_reducible refine below_drewN ?_ _))))

set_option maxHeartbeats 1000000 in
theorem sums_no (W H : Int) (F : FuncId) (cnt : Int) (a : Option Addr) (n c : Nat) (zs : List Int) (hI : ¬ okI W H zs) (hn : n ≤ maxLen) (w : World) (hR : Row w a n (iv zs)) :
    Calls Try.prog 79 #[.agg #[.int .i64 W, .int .i64 H, .slice a n c], .int .i64 cnt, .func (.func F) #[] #[]] w (RetL [] 20 w) := by
  have HV : Hid (∀ w, Row w a n (iv zs) → Calls Try.prog 55 #[.agg #[.int .i64 W, .int .i64 H, .slice a n c]] w fun e w' => e = .returned (.int .i64 20) ∧ Below w.heap.size w w') := fun w h => by have := icheck_any W H a n c zs hn w h; rwa [ckI_no hI] at this
  have HR := Lib.hid hR
  clear hI hR
  go_enter Try.func79, Try.ntmps79
  go_wp2_with (go_at_call 55; (with_reducible refine (HV.out _ (HR.out.later (by (repeat' (first | (with_reducible exact Below.refl _ _) | (with_reducible assumption) | (with_reducible refine belowThru ?_ (by assumption)) | (with_reducible refine belowAlloc ?_) | (with_reducible refine Below.setCell ?_ (by first | omega | (simp; done) | (simp; omega)) _) | (with_reducible refine Below.drew ?_) | (with_reducible refine below_drewN ?_ _)))))).mono ?_); rintro e w1 ⟨rfl, hb⟩; (first | ((with_reducible have k0 := Blk.later hb (Blk.alloc (Blk.new rfl))); (with_reducible have k1 := Blk.later hb (Blk.new rfl)); simp only [World.size_alloc] at k1; obtain ⟨a0, b0⟩ := k0.read; have zl := k0.lt; obtain ⟨a1, b1⟩ := k1.read; have zl := k1.lt) | ((try (have zk := k0.lt; (first | ((with_reducible refine Blk.keepG hb k0 (fun h => ?_) ?_); (focus ((repeat' (first | (with_reducible assumption) | ((with_reducible refine Blk.new ?_); first | rfl | (simp; done)) | (with_reducible refine Blk.later (by assumption) ?_) | (with_reducible refine Blk.alloc ?_) | (with_reducible refine Blk.drewN ?_) | (with_reducible refine Blk.drew ?_) | (with_reducible refine Blk.other ?_ (by first | omega | (simp; done) | (simp; omega))))); done)); clear k0; intro k0) | (with_reducible replace k0 := Blk.later hb (Blk.set (Blk.set k0))) | (with_reducible replace k0 := Blk.later hb (Blk.set k0))); clear a0 b0; obtain ⟨a0, b0⟩ := k0.read; have zl := k0.lt)); (try (have zk := k1.lt; (first | ((with_reducible refine Blk.keepG hb k1 (fun h => ?_) ?_); (focus ((repeat' (first | (with_reducible assumption) | ((with_reducible refine Blk.new ?_); first | rfl | (simp; done)) | (with_reducible refine Blk.later (by assumption) ?_) | (with_reducible refine Blk.alloc ?_) | (with_reducible refine Blk.drewN ?_) | (with_reducible refine Blk.drew ?_) | (with_reducible refine Blk.other ?_ (by first | omega | (simp; done) | (simp; omega))))); done)); clear k1; intro k1) | (with_reducible replace k1 := Blk.later hb (Blk.set (Blk.set k1))) | (with_reducible replace k1 := Blk.later hb (Blk.set k1))); clear a1 b1; obtain ⟨a1, b1⟩ := k1.read; have zl := k1.lt)))))
  go_ret2
  exact retL_nil (by (repeat' (first | (with_reducible exact Below.refl _ _) | (with_reducible assumption) | (with_reducible refine belowThru ?_ (by assumption)) | (with_reducible refine belowAlloc ?_) | (with_reducible refine Below.setCell ?_ (by first | omega | (simp; done) | (simp; omega)) _) | (with_reducible refine Below.drew ?_) | (with_reducible refine below_drewN ?_ _))))
set_option maxHeartbeats 1000000 in
theorem integ_no (W H : Int) (a : Option Addr) (n c : Nat) (zs : List Int) (hI : ¬ okI W H zs) (hn : n ≤ maxLen) (w : World) (hR : Row w a n (iv zs)) :
    Calls Try.prog 33 #[.agg #[.int .i64 W, .int .i64 H, .slice a n c]] w (RetL [] 20 w) := by
  have HV : Hid (∀ w, Row w a n (iv zs) → Calls Try.prog 55 #[.agg #[.int .i64 W, .int .i64 H, .slice a n c]] w fun e w' => e = .returned (.int .i64 20) ∧ Below w.heap.size w w') := fun w h => by have := icheck_any W H a n c zs hn w h; rwa [ckI_no hI] at this
  have HR := Lib.hid hR
  clear hI hR
  go_enter Try.func33, Try.ntmps33
  go_wp2_with (go_at_call 55; (with_reducible refine (HV.out _ (HR.out.later (by (repeat' (first | (with_reducible exact Below.refl _ _) | (with_reducible assumption) | (with_reducible refine belowThru ?_ (by assumption)) | (with_reducible refine belowAlloc ?_) | (with_reducible refine Below.setCell ?_ (by first | omega | (simp; done) | (simp; omega)) _) | (with_reducible refine Below.drew ?_) | (with_reducible refine below_drewN ?_ _)))))).mono ?_); rintro e w1 ⟨rfl, hb⟩; (first | ((with_reducible have k0 := Blk.later hb (Blk.new rfl)); skip; obtain ⟨a0, b0⟩ := k0.read; have zl := k0.lt) | ((try (have zk := k0.lt; (first | ((with_reducible refine Blk.keepG hb k0 (fun h => ?_) ?_); (focus ((repeat' (first | (with_reducible assumption) | ((with_reducible refine Blk.new ?_); first | rfl | (simp; done)) | (with_reducible refine Blk.later (by assumption) ?_) | (with_reducible refine Blk.alloc ?_) | (with_reducible refine Blk.drewN ?_) | (with_reducible refine Blk.drew ?_) | (with_reducible refine Blk.other ?_ (by first | omega | (simp; done) | (simp; omega))))); done)); clear k0; intro k0) | (with_reducible replace k0 := Blk.later hb (Blk.set (Blk.set k0))) | (with_reducible replace k0 := Blk.later hb (Blk.set k0))); clear a0 b0; obtain ⟨a0, b0⟩ := k0.read; have zl := k0.lt)))))
  go_ret2
  exact retL_nil (by (repeat' (first | (with_reducible exact Below.refl _ _) | (with_reducible assumption) | (with_reducible refine belowThru ?_ (by assumption)) | (with_reducible refine belowAlloc ?_) | (with_reducible refine Below.setCell ?_ (by first | omega | (simp; done) | (simp; omega)) _) | (with_reducible refine Below.drew ?_) | (with_reducible refine below_drewN ?_ _))))
theorem row_vals {W H : Int} {zs : List Int} (hI : okI W H zs) {a : Option Addr} {n : Nat} {w : World} (hR : Row w a n (iv zs)) :
    ∃ bb off, a = some ⟨bb, off, none⟩ ∧ bb < w.heap.size ∧ zs.length = n ∧ ∀ j, j < n → ∃ z, ValR zs j z ∧ w.cell? ⟨bb, off + j, none⟩ = some (.int .i64 z) := by
  have hlen : zs.length = n := by have := hR.1; rwa [iv_length] at this
  have hm := okS_mul hI.1.1 hI.1.2
  have hL := hI.2.1
  obtain ⟨bb, off, rfl, hb, hc⟩ := hR.2 (by omega)
  refine ⟨bb, off, rfl, hb, hlen, fun j hj => ?_⟩
  have hz : zs[j]? = some zs[j] := List.getElem?_eq_getElem (by omega)
  exact ⟨zs[j], ⟨hz, hI.2.2 _ (List.getElem_mem _)⟩, by rw [hc j hj, iv_get, hz]; rfl⟩
theorem ck_ok {W H : Int} {zs : List Int} (hI : okI W H zs) {a : Option Addr} {n c : Nat} (hn : n ≤ maxLen) {w : World} (hR : Row w a n (iv zs)) : Hid (∀ w1, Below w.heap.size w w1 → Calls Try.prog 55 #[.agg #[.int .i64 W, .int .i64 H, .slice a n c]] w1 fun e w' => e = .returned (.int .i64 0) ∧ Below w1.heap.size w1 w') :=
  fun w1 hb => by have := icheck_any W H a n c zs hn w1 (hR.later hb); rwa [ckI_ok hI] at this
theorem sides_nat {W H : Int} {zs : List Int} (hI : okI W H zs) : ∃ Wn Hn : Nat, W = (Wn : Int) ∧ H = (Hn : Int) ∧ Wn ≤ 16 ∧ Hn ≤ 16 ∧ 0 < Wn ∧ 0 < Hn ∧ zs.length = Wn * Hn := by
  have hs := hI.1
  unfold okS at hs
  have hL := hI.2.1
  refine ⟨W.toNat, H.toNat, by omega, by omega, by omega, by omega, by omega, by omega, ?_⟩
  have e : ((W.toNat * H.toNat : Nat) : Int) = W * H := by rw [Int.natCast_mul, Int.toNat_of_nonneg (by omega), Int.toNat_of_nonneg (by omega)]
  omega
set_option maxHeartbeats 1000000 in
theorem rowsF_any (px py : Int) (w : World) : Calls Try.prog 80 #[.agg #[.int .i64 px, .int .i64 py]] w fun e w' => e = .returned (.int .i64 py) ∧ Below w.heap.size w w' := by
  go_enter Try.func80, Try.ntmps80
  go_wp2
  go_ret
  exact ⟨rfl, by (repeat' (first | (with_reducible exact Below.refl _ _) | (with_reducible assumption) | (with_reducible refine belowThru ?_ (by assumption)) | (with_reducible refine belowAlloc ?_) | (with_reducible refine Below.setCell ?_ (by first | omega | (simp; done) | (simp; omega)) _) | (with_reducible refine Below.drew ?_) | (with_reducible refine below_drewN ?_ _)))⟩
set_option maxHeartbeats 1000000 in
theorem colsF_any (px py : Int) (w : World) : Calls Try.prog 82 #[.agg #[.int .i64 px, .int .i64 py]] w fun e w' => e = .returned (.int .i64 px) ∧ Below w.heap.size w w' := by
  go_enter Try.func82, Try.ntmps82
  go_wp2
  go_ret
  exact ⟨rfl, by (repeat' (first | (with_reducible exact Below.refl _ _) | (with_reducible assumption) | (with_reducible refine belowThru ?_ (by assumption)) | (with_reducible refine belowAlloc ?_) | (with_reducible refine Below.setCell ?_ (by first | omega | (simp; done) | (simp; omega)) _) | (with_reducible refine Below.drew ?_) | (with_reducible refine below_drewN ?_ _)))⟩

set_option maxHeartbeats 1000000 in
theorem irows_walk (W H : Int) (a : Option Addr) (n c : Nat) (ls : List Int) (er : Int) (w : World) (HS : Hid (∀ w1, Below w.heap.size w w1 → Calls Try.prog 79 #[.agg #[.int .i64 W, .int .i64 H, .slice a n c], .int .i64 H, .func (.func 80) #[] #[]] w1 (RetL ls er w1))) :
    Calls Try.prog 29 #[.agg #[.int .i64 W, .int .i64 H, .slice a n c]] w (RetL ls er w) := by
  have HS1 : Hid (∃ l, ls.length = l ∧ ∀ w1, Below w.heap.size w w1 → Calls Try.prog 79 #[.agg #[.int .i64 W, .int .i64 H, .slice a n c], .int .i64 H, .func (.func 80) #[] #[]] w1 fun e w' => ∃ (v : Option Addr) (c : Nat), e = .returned (.tuple #[.slice v l c, .int .i64 er]) ∧ Row w' v l (iv ls) ∧ Below w1.heap.size w1 w') := ⟨_, rfl, fun w1 h => HS.out w1 h⟩
  obtain ⟨l, hl, HS2⟩ := HS1.out
  have HS3 := Lib.hid HS2
  have HL := Lib.hid hl
  clear HS HS1 HS2 hl
  go_enter Try.func29, Try.ntmps29
  go_wp2_with (go_at_call 79; (with_reducible refine (HS3.out _ (by (repeat' (first | (with_reducible exact Below.refl _ _) | (with_reducible assumption) | (with_reducible refine belowThru ?_ (by assumption)) | (with_reducible refine belowAlloc ?_) | (with_reducible refine Below.setCell ?_ (by first | omega | (simp; done) | (simp; omega)) _) | (with_reducible refine Below.drew ?_) | (with_reducible refine below_drewN ?_ _))))).mono ?_); rintro e w1 ⟨v, c', rfl, hr, hb⟩; have HQ := Lib.hid hr; clear hr)
  go_ret2
  exact ⟨v, c', by rw [HL.out]; rfl, by rw [HL.out]; exact HQ.out, by (repeat' (first | (with_reducible exact Below.refl _ _) | (with_reducible assumption) | (with_reducible refine belowThru ?_ (by assumption)) | (with_reducible refine belowAlloc ?_) | (with_reducible refine Below.setCell ?_ (by first | omega | (simp; done) | (simp; omega)) _) | (with_reducible refine Below.drew ?_) | (with_reducible refine below_drewN ?_ _)))⟩

set_option maxHeartbeats 1000000 in
theorem icols_walk (W H : Int) (a : Option Addr) (n c : Nat) (ls : List Int) (er : Int) (w : World) (HS : Hid (∀ w1, Below w.heap.size w w1 → Calls Try.prog 79 #[.agg #[.int .i64 W, .int .i64 H, .slice a n c], .int .i64 W, .func (.func 82) #[] #[]] w1 (RetL ls er w1))) :
    Calls Try.prog 31 #[.agg #[.int .i64 W, .int .i64 H, .slice a n c]] w (RetL ls er w) := by
  have HS1 : Hid (∃ l, ls.length = l ∧ ∀ w1, Below w.heap.size w w1 → Calls Try.prog 79 #[.agg #[.int .i64 W, .int .i64 H, .slice a n c], .int .i64 W, .func (.func 82) #[] #[]] w1 fun e w' => ∃ (v : Option Addr) (c : Nat), e = .returned (.tuple #[.slice v l c, .int .i64 er]) ∧ Row w' v l (iv ls) ∧ Below w1.heap.size w1 w') := ⟨_, rfl, fun w1 h => HS.out w1 h⟩
  obtain ⟨l, hl, HS2⟩ := HS1.out
  have HS3 := Lib.hid HS2
  have HL := Lib.hid hl
  clear HS HS1 HS2 hl
  go_enter Try.func31, Try.ntmps31
  go_wp2_with (go_at_call 79; (with_reducible refine (HS3.out _ (by (repeat' (first | (with_reducible exact Below.refl _ _) | (with_reducible assumption) | (with_reducible refine belowThru ?_ (by assumption)) | (with_reducible refine belowAlloc ?_) | (with_reducible refine Below.setCell ?_ (by first | omega | (simp; done) | (simp; omega)) _) | (with_reducible refine Below.drew ?_) | (with_reducible refine below_drewN ?_ _))))).mono ?_); rintro e w1 ⟨v, c', rfl, hr, hb⟩; have HQ := Lib.hid hr; clear hr)
  go_ret2
  exact ⟨v, c', by rw [HL.out]; rfl, by rw [HL.out]; exact HQ.out, by (repeat' (first | (with_reducible exact Below.refl _ _) | (with_reducible assumption) | (with_reducible refine belowThru ?_ (by assumption)) | (with_reducible refine belowAlloc ?_) | (with_reducible refine Below.setCell ?_ (by first | omega | (simp; done) | (simp; omega)) _) | (with_reducible refine Below.drew ?_) | (with_reducible refine below_drewN ?_ _)))⟩

theorem irows_ok (W H : Int) (Wn Hn : Nat) (hWn : W = (Wn : Int)) (hHn : H = (Hn : Int)) (a : Option Addr) (n c : Nat) (zs : List Int) (hI : okI W H zs) (hn : n ≤ maxLen) (w : World) (hR : Row w a n (iv zs)) :
    Calls Try.prog 29 #[.agg #[.int .i64 W, .int .i64 H, .slice a n c]] w (RetL ((List.range Hn).map fun k => boxN Wn zs 0 k Wn (k + 1)) 0 w) := by
  have hs := hI.1
  unfold okS at hs
  refine irows_walk W H a n c _ 0 w (Lib.hid fun w1 hb => ?_)
  obtain ⟨bb, off, rfl, hb1, hlen, hc⟩ := row_vals hI (hR.later hb)
  have hmn : n = Wn * Hn := by have := hI.2.1; rw [hWn, hHn, ← Int.natCast_mul] at this; omega
  have h := (callsIn_wide (n := 9)).1 (sums_in 9 (by omega) W H 80 Hn (fun k => k / Wn) bb off n c zs hI hlen (fun k hk => Nat.div_lt_of_lt_mul (by omega)) (by omega) (fun _ _ => by kernel_rfl) w1 hb1 hc
    (Lib.hid fun k hk w => by have := rowsF_any ((k : Int) % W) ((k : Int) / W) w; rw [hWn] at this ⊢; exact this) (ck_ok hI hn (hR.later hb)))
  rw [hHn] at h ⊢
  refine h.mono ?_
  rintro e w' ⟨g, rfl, -, hk, hB⟩
  have e : ((List.range Hn).map fun j => sumN (fun i => if i / Wn = j then zs[i]?.getD 0 else 0) n) = (List.range Hn).map fun k => boxN Wn zs 0 k Wn (k + 1) := List.map_congr_left fun j hj => by
    rw [hmn]; exact row_all Wn Hn zs j (List.mem_range.1 hj)
  rw [e] at hk
  exact retL_blk (by simp) hk hB
theorem icols_ok (W H : Int) (Wn Hn : Nat) (hWn : W = (Wn : Int)) (hHn : H = (Hn : Int)) (a : Option Addr) (n c : Nat) (zs : List Int) (hI : okI W H zs) (hn : n ≤ maxLen) (w : World) (hR : Row w a n (iv zs)) :
    Calls Try.prog 31 #[.agg #[.int .i64 W, .int .i64 H, .slice a n c]] w (RetL ((List.range Wn).map fun k => boxN Wn zs k 0 (k + 1) Hn) 0 w) := by
  have hs := hI.1
  unfold okS at hs
  refine icols_walk W H a n c _ 0 w (Lib.hid fun w1 hb => ?_)
  obtain ⟨bb, off, rfl, hb1, hlen, hc⟩ := row_vals hI (hR.later hb)
  have hmn : n = Wn * Hn := by have := hI.2.1; rw [hWn, hHn, ← Int.natCast_mul] at this; omega
  have h := (callsIn_wide (n := 9)).1 (sums_in 9 (by omega) W H 82 Wn (fun k => k % Wn) bb off n c zs hI hlen (fun k hk => Nat.mod_lt _ (by omega)) (by omega) (fun _ _ => by kernel_rfl) w1 hb1 hc
    (Lib.hid fun k hk w => by have := colsF_any ((k : Int) % W) ((k : Int) / W) w; rw [hWn] at this ⊢; exact this) (ck_ok hI hn (hR.later hb)))
  rw [hWn] at h ⊢
  refine h.mono ?_
  rintro e w' ⟨g, rfl, -, hk, hB⟩
  have e : ((List.range Wn).map fun j => sumN (fun i => if i % Wn = j then zs[i]?.getD 0 else 0) n) = (List.range Wn).map fun k => boxN Wn zs k 0 (k + 1) Hn := List.map_congr_left fun j hj => by
    rw [hmn]; exact col_all Wn Hn zs j (List.mem_range.1 hj)
  rw [e] at hk
  exact retL_blk (by simp) hk hB
theorem iinteg_ok (W H : Int) (Wn Hn : Nat) (hWn : W = (Wn : Int)) (hHn : H = (Hn : Int)) (a : Option Addr) (n c : Nat) (zs : List Int) (hI : okI W H zs) (hn : n ≤ maxLen) (w : World) (hR : Row w a n (iv zs)) :
    Calls Try.prog 33 #[.agg #[.int .i64 W, .int .i64 H, .slice a n c]] w (RetL ((List.range ((Wn + 1) * (Hn + 1))).map fun q => boxN Wn zs 0 0 (q % (Wn + 1)) (q / (Wn + 1))) 0 w) := by
  obtain ⟨bb, off, rfl, hb1, hlen, hc⟩ := row_vals hI hR
  refine ((callsIn_wide (n := 9)).1 (integ_in 9 (by omega) W H Wn Hn _ hWn hHn rfl bb off n c zs hI hlen w hb1 hc (ck_ok hI hn hR))).mono ?_
  rintro e w' ⟨g, rfl, -, hk, hB⟩
  exact retL_blk (by simp) hk hB
/-- A rectangle of an image. -/
def okB (W H x0 y0 x1 y1 : Int) : Prop := (0 ≤ x0 ∧ x0 ≤ x1 ∧ x1 ≤ W) ∧ 0 ≤ y0 ∧ y0 ≤ y1 ∧ y1 ≤ H
theorem ibox_ok (W H : Int) (Wn Hn x0 y0 x1 y1 : Nat) (hWn : W = (Wn : Int)) (hHn : H = (Hn : Int)) (a : Option Addr) (n c : Nat) (zs : List Int) (hI : okI W H zs) (hB : okB W H x0 y0 x1 y1) (hn : n ≤ maxLen) (w : World) (hR : Row w a n (iv zs)) :
    Calls Try.prog 35 #[.agg #[.int .i64 W, .int .i64 H, .slice a n c], .int .i64 x0, .int .i64 y0, .int .i64 x1, .int .i64 y1] w fun e w' => e = .returned (.tuple #[.int .i64 (boxN Wn zs x0 y0 x1 y1), .int .i64 0]) ∧ Below w.heap.size w w' := by
  obtain ⟨bb, off, rfl, hb1, hlen, hc⟩ := row_vals hI hR
  have hmn : n = Wn * Hn := by have := hI.2.1; rw [hWn, hHn, ← Int.natCast_mul] at this; omega
  have h := (callsIn_wide (n := 9)).1 (box_in 9 (by omega) W H x0 y0 x1 y1 bb off n c zs hI hlen hB.1 hB.2 w hb1 hc (ck_ok hI hn hR))
  have hx : x1 ≤ Wn := by have := hB.1.2.2; omega
  have hy : y1 ≤ Hn := by have := hB.2.2.2; omega
  have e : sumN (fun i => if inB W x0 y0 x1 y1 i then zs[i]?.getD 0 else 0) n = boxN Wn zs x0 y0 x1 y1 := by
    rw [← box_all Wn Hn zs x0 y0 x1 y1 hx hy, hmn]
    refine sumN_congr fun i _ => ?_
    have e1 : (i : Int) % (Wn : Int) = ((i % Wn : Nat) : Int) := rfl
    have e2 : (i : Int) / (Wn : Int) = ((i / Wn : Nat) : Int) := rfl
    unfold inB
    rw [hWn, e1, e2]
    by_cases k : (x0 ≤ i % Wn ∧ i % Wn < x1) ∧ y0 ≤ i / Wn ∧ i / Wn < y1
    · rw [if_pos k, if_pos (decide_eq_true (by omega))]
    · rw [if_neg k, if_neg (by rw [decide_eq_true_eq]; omega)]
  rwa [e] at h
set_option maxRecDepth 100000 in
set_option maxHeartbeats 1000000 in
theorem ibox_no (W H x0 y0 x1 y1 : Int) (a : Option Addr) (n c : Nat) (zs : List Int) (hI : ¬ okI W H zs) (hn : n ≤ maxLen) (w : World) (hR : Row w a n (iv zs)) :
    Calls Try.prog 35 #[.agg #[.int .i64 W, .int .i64 H, .slice a n c], .int .i64 x0, .int .i64 y0, .int .i64 x1, .int .i64 y1] w fun e w' => e = .returned (.tuple #[.int .i64 0, .int .i64 20]) ∧ Below w.heap.size w w' := by
  have HV : Hid (∀ w, Row w a n (iv zs) → Calls Try.prog 55 #[.agg #[.int .i64 W, .int .i64 H, .slice a n c]] w fun e w' => e = .returned (.int .i64 20) ∧ Below w.heap.size w w') := fun w h => by have := icheck_any W H a n c zs hn w h; rwa [ckI_no hI] at this
  have HR := Lib.hid hR
  clear hI hR
  go_enter Try.func35, Try.ntmps35
  go_wp2_with (go_at_call 55; (with_reducible refine (HV.out _ (HR.out.later (by (repeat' (first | (with_reducible exact Below.refl _ _) | (with_reducible assumption) | (with_reducible refine belowThru ?_ (by assumption)) | (with_reducible refine belowAlloc ?_) | (with_reducible refine Below.setCell ?_ (by first | omega | (simp; done) | (simp; omega)) _) | (with_reducible refine Below.drew ?_) | (with_reducible refine below_drewN ?_ _)))))).mono ?_); rintro e w1 ⟨rfl, hb⟩)
  go_ret2
  exact ⟨rfl, by (repeat' (first | (with_reducible exact Below.refl _ _) | (with_reducible assumption) | (with_reducible refine belowThru ?_ (by assumption)) | (with_reducible refine belowAlloc ?_) | (with_reducible refine Below.setCell ?_ (by first | omega | (simp; done) | (simp; omega)) _) | (with_reducible refine Below.drew ?_) | (with_reducible refine below_drewN ?_ _)))⟩
set_option maxRecDepth 100000 in
set_option maxHeartbeats 2000000 in
theorem ibox_arg (W H x0 y0 x1 y1 : Int) (a : Option Addr) (n c : Nat) (zs : List Int) (hI : okI W H zs) (hB : ¬ okB W H x0 y0 x1 y1) (hn : n ≤ maxLen) (w : World) (hR : Row w a n (iv zs)) :
    Calls Try.prog 35 #[.agg #[.int .i64 W, .int .i64 H, .slice a n c], .int .i64 x0, .int .i64 y0, .int .i64 x1, .int .i64 y1] w fun e w' => e = .returned (.tuple #[.int .i64 0, .int .i64 2]) ∧ Below w.heap.size w w' := by
  have HV : Hid (∀ w, Row w a n (iv zs) → Calls Try.prog 55 #[.agg #[.int .i64 W, .int .i64 H, .slice a n c]] w fun e w' => e = .returned (.int .i64 0) ∧ Below w.heap.size w w') := fun w h => by have := icheck_any W H a n c zs hn w h; rwa [ckI_ok hI] at this
  have HR := Lib.hid hR
  clear hI hR
  by_cases h1 : 0 ≤ x0 ∧ x0 ≤ x1 ∧ x1 ≤ W
  · have h2 : ¬ (0 ≤ y0 ∧ y0 ≤ y1 ∧ y1 ≤ H) := fun h => hB ⟨h1, h⟩
    have HO1 : Hid (∀ w, Calls Try.prog 83 #[.int .i64 0, .int .i64 x0, .int .i64 x1, .int .i64 W] w fun e w' => e = .returned (.bool true) ∧ w = w') := fun w => by have := ordered_any 0 x0 x1 W w; rwa [decide_eq_true h1] at this
    have HO2 : Hid (∀ w, Calls Try.prog 83 #[.int .i64 0, .int .i64 y0, .int .i64 y1, .int .i64 H] w fun e w' => e = .returned (.bool false) ∧ w = w') := fun w => by have := ordered_any 0 y0 y1 H w; rwa [decide_eq_false h2] at this
    clear h1 h2 hB
    go_enter Try.func35, Try.ntmps35
    go_wp2_with (first
      | (go_at_call 55; (with_reducible refine (HV.out _ (HR.out.later (by (repeat' (first | (with_reducible exact Below.refl _ _) | (with_reducible assumption) | (with_reducible refine belowThru ?_ (by assumption)) | (with_reducible refine belowAlloc ?_) | (with_reducible refine Below.setCell ?_ (by first | omega | (simp; done) | (simp; omega)) _) | (with_reducible refine Below.drew ?_) | (with_reducible refine below_drewN ?_ _)))))).mono ?_); rintro e w1 ⟨rfl, hb⟩; (first | ((with_reducible have k0 := Blk.later hb (Blk.alloc (Blk.alloc (Blk.alloc (Blk.alloc (Blk.new rfl)))))); (with_reducible have k1 := Blk.later hb (Blk.alloc (Blk.alloc (Blk.alloc (Blk.new rfl))))); (with_reducible have k2 := Blk.later hb (Blk.alloc (Blk.alloc (Blk.new rfl)))); (with_reducible have k3 := Blk.later hb (Blk.alloc (Blk.new rfl))); (with_reducible have k4 := Blk.later hb (Blk.new rfl)); simp only [World.size_alloc] at k1 k2 k3 k4; obtain ⟨a0, b0⟩ := k0.read; have zl := k0.lt; obtain ⟨a1, b1⟩ := k1.read; have zl := k1.lt; obtain ⟨a2, b2⟩ := k2.read; have zl := k2.lt; obtain ⟨a3, b3⟩ := k3.read; have zl := k3.lt; obtain ⟨a4, b4⟩ := k4.read; have zl := k4.lt) | ((try (have zk := k0.lt; (first | ((with_reducible refine Blk.keepG hb k0 (fun h => ?_) ?_); (focus ((repeat' (first | (with_reducible assumption) | ((with_reducible refine Blk.new ?_); first | rfl | (simp; done)) | (with_reducible refine Blk.later (by assumption) ?_) | (with_reducible refine Blk.alloc ?_) | (with_reducible refine Blk.drewN ?_) | (with_reducible refine Blk.drew ?_) | (with_reducible refine Blk.other ?_ (by first | omega | (simp; done) | (simp; omega))))); done)); clear k0; intro k0) | (with_reducible replace k0 := Blk.later hb (Blk.set (Blk.set k0))) | (with_reducible replace k0 := Blk.later hb (Blk.set k0))); clear a0 b0; obtain ⟨a0, b0⟩ := k0.read; have zl := k0.lt)); (try (have zk := k1.lt; (first | ((with_reducible refine Blk.keepG hb k1 (fun h => ?_) ?_); (focus ((repeat' (first | (with_reducible assumption) | ((with_reducible refine Blk.new ?_); first | rfl | (simp; done)) | (with_reducible refine Blk.later (by assumption) ?_) | (with_reducible refine Blk.alloc ?_) | (with_reducible refine Blk.drewN ?_) | (with_reducible refine Blk.drew ?_) | (with_reducible refine Blk.other ?_ (by first | omega | (simp; done) | (simp; omega))))); done)); clear k1; intro k1) | (with_reducible replace k1 := Blk.later hb (Blk.set (Blk.set k1))) | (with_reducible replace k1 := Blk.later hb (Blk.set k1))); clear a1 b1; obtain ⟨a1, b1⟩ := k1.read; have zl := k1.lt)); (try (have zk := k2.lt; (first | ((with_reducible refine Blk.keepG hb k2 (fun h => ?_) ?_); (focus ((repeat' (first | (with_reducible assumption) | ((with_reducible refine Blk.new ?_); first | rfl | (simp; done)) | (with_reducible refine Blk.later (by assumption) ?_) | (with_reducible refine Blk.alloc ?_) | (with_reducible refine Blk.drewN ?_) | (with_reducible refine Blk.drew ?_) | (with_reducible refine Blk.other ?_ (by first | omega | (simp; done) | (simp; omega))))); done)); clear k2; intro k2) | (with_reducible replace k2 := Blk.later hb (Blk.set (Blk.set k2))) | (with_reducible replace k2 := Blk.later hb (Blk.set k2))); clear a2 b2; obtain ⟨a2, b2⟩ := k2.read; have zl := k2.lt)); (try (have zk := k3.lt; (first | ((with_reducible refine Blk.keepG hb k3 (fun h => ?_) ?_); (focus ((repeat' (first | (with_reducible assumption) | ((with_reducible refine Blk.new ?_); first | rfl | (simp; done)) | (with_reducible refine Blk.later (by assumption) ?_) | (with_reducible refine Blk.alloc ?_) | (with_reducible refine Blk.drewN ?_) | (with_reducible refine Blk.drew ?_) | (with_reducible refine Blk.other ?_ (by first | omega | (simp; done) | (simp; omega))))); done)); clear k3; intro k3) | (with_reducible replace k3 := Blk.later hb (Blk.set (Blk.set k3))) | (with_reducible replace k3 := Blk.later hb (Blk.set k3))); clear a3 b3; obtain ⟨a3, b3⟩ := k3.read; have zl := k3.lt)); (try (have zk := k4.lt; (first | ((with_reducible refine Blk.keepG hb k4 (fun h => ?_) ?_); (focus ((repeat' (first | (with_reducible assumption) | ((with_reducible refine Blk.new ?_); first | rfl | (simp; done)) | (with_reducible refine Blk.later (by assumption) ?_) | (with_reducible refine Blk.alloc ?_) | (with_reducible refine Blk.drewN ?_) | (with_reducible refine Blk.drew ?_) | (with_reducible refine Blk.other ?_ (by first | omega | (simp; done) | (simp; omega))))); done)); clear k4; intro k4) | (with_reducible replace k4 := Blk.later hb (Blk.set (Blk.set k4))) | (with_reducible replace k4 := Blk.later hb (Blk.set k4))); clear a4 b4; obtain ⟨a4, b4⟩ := k4.read; have zl := k4.lt)))))
      | (go_at_call 83; (with_reducible refine (HO1.out _).mono ?_); rintro e w1 ⟨rfl, rfl⟩)
      | (go_at_call 83; (with_reducible refine (HO2.out _).mono ?_); rintro e w1 ⟨rfl, rfl⟩))
    go_ret2
    exact ⟨rfl, by (repeat' (first | (with_reducible exact Below.refl _ _) | (with_reducible assumption) | (with_reducible refine belowThru ?_ (by assumption)) | (with_reducible refine belowAlloc ?_) | (with_reducible refine Below.setCell ?_ (by first | omega | (simp; done) | (simp; omega)) _) | (with_reducible refine Below.drew ?_) | (with_reducible refine below_drewN ?_ _)))⟩
  · have HO1 : Hid (∀ w, Calls Try.prog 83 #[.int .i64 0, .int .i64 x0, .int .i64 x1, .int .i64 W] w fun e w' => e = .returned (.bool false) ∧ w = w') := fun w => by have := ordered_any 0 x0 x1 W w; rwa [decide_eq_false h1] at this
    clear h1 hB
    go_enter Try.func35, Try.ntmps35
    go_wp2_with (first
      | (go_at_call 55; (with_reducible refine (HV.out _ (HR.out.later (by (repeat' (first | (with_reducible exact Below.refl _ _) | (with_reducible assumption) | (with_reducible refine belowThru ?_ (by assumption)) | (with_reducible refine belowAlloc ?_) | (with_reducible refine Below.setCell ?_ (by first | omega | (simp; done) | (simp; omega)) _) | (with_reducible refine Below.drew ?_) | (with_reducible refine below_drewN ?_ _)))))).mono ?_); rintro e w1 ⟨rfl, hb⟩; (first | ((with_reducible have k0 := Blk.later hb (Blk.alloc (Blk.alloc (Blk.alloc (Blk.alloc (Blk.new rfl)))))); (with_reducible have k1 := Blk.later hb (Blk.alloc (Blk.alloc (Blk.alloc (Blk.new rfl))))); (with_reducible have k2 := Blk.later hb (Blk.alloc (Blk.alloc (Blk.new rfl)))); (with_reducible have k3 := Blk.later hb (Blk.alloc (Blk.new rfl))); (with_reducible have k4 := Blk.later hb (Blk.new rfl)); simp only [World.size_alloc] at k1 k2 k3 k4; obtain ⟨a0, b0⟩ := k0.read; have zl := k0.lt; obtain ⟨a1, b1⟩ := k1.read; have zl := k1.lt; obtain ⟨a2, b2⟩ := k2.read; have zl := k2.lt; obtain ⟨a3, b3⟩ := k3.read; have zl := k3.lt; obtain ⟨a4, b4⟩ := k4.read; have zl := k4.lt) | ((try (have zk := k0.lt; (first | ((with_reducible refine Blk.keepG hb k0 (fun h => ?_) ?_); (focus ((repeat' (first | (with_reducible assumption) | ((with_reducible refine Blk.new ?_); first | rfl | (simp; done)) | (with_reducible refine Blk.later (by assumption) ?_) | (with_reducible refine Blk.alloc ?_) | (with_reducible refine Blk.drewN ?_) | (with_reducible refine Blk.drew ?_) | (with_reducible refine Blk.other ?_ (by first | omega | (simp; done) | (simp; omega))))); done)); clear k0; intro k0) | (with_reducible replace k0 := Blk.later hb (Blk.set (Blk.set k0))) | (with_reducible replace k0 := Blk.later hb (Blk.set k0))); clear a0 b0; obtain ⟨a0, b0⟩ := k0.read; have zl := k0.lt)); (try (have zk := k1.lt; (first | ((with_reducible refine Blk.keepG hb k1 (fun h => ?_) ?_); (focus ((repeat' (first | (with_reducible assumption) | ((with_reducible refine Blk.new ?_); first | rfl | (simp; done)) | (with_reducible refine Blk.later (by assumption) ?_) | (with_reducible refine Blk.alloc ?_) | (with_reducible refine Blk.drewN ?_) | (with_reducible refine Blk.drew ?_) | (with_reducible refine Blk.other ?_ (by first | omega | (simp; done) | (simp; omega))))); done)); clear k1; intro k1) | (with_reducible replace k1 := Blk.later hb (Blk.set (Blk.set k1))) | (with_reducible replace k1 := Blk.later hb (Blk.set k1))); clear a1 b1; obtain ⟨a1, b1⟩ := k1.read; have zl := k1.lt)); (try (have zk := k2.lt; (first | ((with_reducible refine Blk.keepG hb k2 (fun h => ?_) ?_); (focus ((repeat' (first | (with_reducible assumption) | ((with_reducible refine Blk.new ?_); first | rfl | (simp; done)) | (with_reducible refine Blk.later (by assumption) ?_) | (with_reducible refine Blk.alloc ?_) | (with_reducible refine Blk.drewN ?_) | (with_reducible refine Blk.drew ?_) | (with_reducible refine Blk.other ?_ (by first | omega | (simp; done) | (simp; omega))))); done)); clear k2; intro k2) | (with_reducible replace k2 := Blk.later hb (Blk.set (Blk.set k2))) | (with_reducible replace k2 := Blk.later hb (Blk.set k2))); clear a2 b2; obtain ⟨a2, b2⟩ := k2.read; have zl := k2.lt)); (try (have zk := k3.lt; (first | ((with_reducible refine Blk.keepG hb k3 (fun h => ?_) ?_); (focus ((repeat' (first | (with_reducible assumption) | ((with_reducible refine Blk.new ?_); first | rfl | (simp; done)) | (with_reducible refine Blk.later (by assumption) ?_) | (with_reducible refine Blk.alloc ?_) | (with_reducible refine Blk.drewN ?_) | (with_reducible refine Blk.drew ?_) | (with_reducible refine Blk.other ?_ (by first | omega | (simp; done) | (simp; omega))))); done)); clear k3; intro k3) | (with_reducible replace k3 := Blk.later hb (Blk.set (Blk.set k3))) | (with_reducible replace k3 := Blk.later hb (Blk.set k3))); clear a3 b3; obtain ⟨a3, b3⟩ := k3.read; have zl := k3.lt)); (try (have zk := k4.lt; (first | ((with_reducible refine Blk.keepG hb k4 (fun h => ?_) ?_); (focus ((repeat' (first | (with_reducible assumption) | ((with_reducible refine Blk.new ?_); first | rfl | (simp; done)) | (with_reducible refine Blk.later (by assumption) ?_) | (with_reducible refine Blk.alloc ?_) | (with_reducible refine Blk.drewN ?_) | (with_reducible refine Blk.drew ?_) | (with_reducible refine Blk.other ?_ (by first | omega | (simp; done) | (simp; omega))))); done)); clear k4; intro k4) | (with_reducible replace k4 := Blk.later hb (Blk.set (Blk.set k4))) | (with_reducible replace k4 := Blk.later hb (Blk.set k4))); clear a4 b4; obtain ⟨a4, b4⟩ := k4.read; have zl := k4.lt)))))
      | (go_at_call 83; (with_reducible refine (HO1.out _).mono ?_); rintro e w1 ⟨rfl, rfl⟩))
    go_ret2
    exact ⟨rfl, by (repeat' (first | (with_reducible exact Below.refl _ _) | (with_reducible assumption) | (with_reducible refine belowThru ?_ (by assumption)) | (with_reducible refine belowAlloc ?_) | (with_reducible refine Below.setCell ?_ (by first | omega | (simp; done) | (simp; omega)) _) | (with_reducible refine Below.drew ?_) | (with_reducible refine below_drewN ?_ _)))⟩

set_option maxHeartbeats 1000000 in
theorem rbox_no (W H x0 y0 x1 y1 : Int) (a : Option Addr) (n c : Nat) (zs : List Int) (hI : ¬ okI W H zs) (hn : n ≤ maxLen) (w : World) (hR : Row w a n (iv zs)) :
    Calls Try.prog 36 #[.agg #[.int .i64 W, .int .i64 H, .slice a n c], .int .i64 x0, .int .i64 y0, .int .i64 x1, .int .i64 y1] w fun e w' => e = .returned (.tuple #[.int .i64 0, .int .i64 20]) ∧ Below w.heap.size w w' := by
  have HV := Lib.hid (rvalid_no hI a n c hn)
  have HR := Lib.hid hR
  clear hI hR
  go_enter Try.func36, Try.ntmps36
  go_wp2_with (go_at_call 43; (with_reducible refine (HV.out _ (HR.out.later (by (repeat' (first | (with_reducible exact Below.refl _ _) | (with_reducible assumption) | (with_reducible refine belowThru ?_ (by assumption)) | (with_reducible refine belowAlloc ?_) | (with_reducible refine Below.setCell ?_ (by first | omega | (simp; done) | (simp; omega)) _) | (with_reducible refine Below.drew ?_) | (with_reducible refine below_drewN ?_ _)))))).mono ?_); rintro e w1 ⟨rfl, hb⟩; (first | ((with_reducible have k0 := Blk.later hb (Blk.new rfl)); skip; obtain ⟨a0, b0⟩ := k0.read; have zl := k0.lt) | ((try (have zk := k0.lt; (first | ((with_reducible refine Blk.keepG hb k0 (fun h => ?_) ?_); (focus ((repeat' (first | (with_reducible assumption) | ((with_reducible refine Blk.new ?_); first | rfl | (simp; done)) | (with_reducible refine Blk.later (by assumption) ?_) | (with_reducible refine Blk.alloc ?_) | (with_reducible refine Blk.drewN ?_) | (with_reducible refine Blk.drew ?_) | (with_reducible refine Blk.other ?_ (by first | omega | (simp; done) | (simp; omega))))); done)); clear k0; intro k0) | (with_reducible replace k0 := Blk.later hb (Blk.set (Blk.set k0))) | (with_reducible replace k0 := Blk.later hb (Blk.set k0))); clear a0 b0; obtain ⟨a0, b0⟩ := k0.read; have zl := k0.lt)))))
  go_ret2
  exact ⟨rfl, by (repeat' (first | (with_reducible exact Below.refl _ _) | (with_reducible assumption) | (with_reducible refine belowThru ?_ (by assumption)) | (with_reducible refine belowAlloc ?_) | (with_reducible refine Below.setCell ?_ (by first | omega | (simp; done) | (simp; omega)) _) | (with_reducible refine Below.drew ?_) | (with_reducible refine below_drewN ?_ _)))⟩
set_option maxRecDepth 100000 in
set_option maxHeartbeats 2000000 in
theorem rbox_ok (W H : Int) (Wn Hn x0 y0 x1 y1 : Nat) (hWn : W = (Wn : Int)) (hHn : H = (Hn : Int)) (a : Option Addr) (n c : Nat) (zs : List Int) (hI : okI W H zs) (hB : okB W H x0 y0 x1 y1) (hn : n ≤ maxLen) (w : World) (hR : Row w a n (iv zs)) :
    Calls Try.prog 36 #[.agg #[.int .i64 W, .int .i64 H, .slice a n c], .int .i64 x0, .int .i64 y0, .int .i64 x1, .int .i64 y1] w fun e w' => e = .returned (.tuple #[.int .i64 (boxN Wn zs x0 y0 x1 y1), .int .i64 0]) ∧ Below w.heap.size w w' := by
  have HV := Lib.hid (rvalid_ok hI a n c hn)
  obtain ⟨⟨b1, b2, b3⟩, b4, b5, b6⟩ := hB
  have hs := hI.1
  unfold okS at hs
  have HS := Lib.hid (rsum_any W H Wn Hn x0 y0 x1 y1 hWn hHn (by omega) (by omega) (by omega) (by omega) a n c zs hI)
  have HR := Lib.hid hR
  have d1 : decide ((x0 : Int) < 0) = false := decide_eq_false (by omega)
  have d2 : decide ((x1 : Int) < (x0 : Int)) = false := decide_eq_false (by omega)
  have d3 : decide (W < (x1 : Int)) = false := decide_eq_false (by omega)
  have d4 : decide ((y0 : Int) < 0) = false := decide_eq_false (by omega)
  have d5 : decide ((y1 : Int) < (y0 : Int)) = false := decide_eq_false (by omega)
  have d6 : decide (H < (y1 : Int)) = false := decide_eq_false (by omega)
  have e2 : decide (x1 < x0) = false := decide_eq_false (by omega)
  have e5 : decide (y1 < y0) = false := decide_eq_false (by omega)
  clear hI hR hs hWn hHn b2 b3 b5 b6
  go_enter Try.func36, Try.ntmps36
  go_wp2_with (first
    | (go_at_call 43; (with_reducible refine (HV.out _ (HR.out.later (by (repeat' (first | (with_reducible exact Below.refl _ _) | (with_reducible assumption) | (with_reducible refine belowThru ?_ (by assumption)) | (with_reducible refine belowAlloc ?_) | (with_reducible refine Below.setCell ?_ (by first | omega | (simp; done) | (simp; omega)) _) | (with_reducible refine Below.drew ?_) | (with_reducible refine below_drewN ?_ _)))))).mono ?_); rintro e w1 ⟨rfl, hb⟩; (first | ((with_reducible have k0 := Blk.later hb (Blk.new rfl)); skip; obtain ⟨a0, b0⟩ := k0.read; have zl := k0.lt) | ((try (have zk := k0.lt; (first | ((with_reducible refine Blk.keepG hb k0 (fun h => ?_) ?_); (focus ((repeat' (first | (with_reducible assumption) | ((with_reducible refine Blk.new ?_); first | rfl | (simp; done)) | (with_reducible refine Blk.later (by assumption) ?_) | (with_reducible refine Blk.alloc ?_) | (with_reducible refine Blk.drewN ?_) | (with_reducible refine Blk.drew ?_) | (with_reducible refine Blk.other ?_ (by first | omega | (simp; done) | (simp; omega))))); done)); clear k0; intro k0) | (with_reducible replace k0 := Blk.later hb (Blk.set (Blk.set k0))) | (with_reducible replace k0 := Blk.later hb (Blk.set k0))); clear a0 b0; obtain ⟨a0, b0⟩ := k0.read; have zl := k0.lt)))))
    | (go_at_call 81; (with_reducible refine (HS.out _ (HR.out.later (by (repeat' (first | (with_reducible exact Below.refl _ _) | (with_reducible assumption) | (with_reducible refine belowThru ?_ (by assumption)) | (with_reducible refine belowAlloc ?_) | (with_reducible refine Below.setCell ?_ (by first | omega | (simp; done) | (simp; omega)) _) | (with_reducible refine Below.drew ?_) | (with_reducible refine below_drewN ?_ _)))))).mono ?_); rintro e w2 ⟨rfl, hb⟩))
  go_ret2
  exact ⟨rfl, by (repeat' (first | (with_reducible exact Below.refl _ _) | (with_reducible assumption) | (with_reducible refine belowThru ?_ (by assumption)) | (with_reducible refine belowAlloc ?_) | (with_reducible refine Below.setCell ?_ (by first | omega | (simp; done) | (simp; omega)) _) | (with_reducible refine Below.drew ?_) | (with_reducible refine below_drewN ?_ _)))⟩
set_option maxRecDepth 100000 in
set_option maxHeartbeats 4000000 in
theorem rbox_arg (W H x0 y0 x1 y1 : Int) (a : Option Addr) (n c : Nat) (zs : List Int) (hI : okI W H zs) (hB : ¬ okB W H x0 y0 x1 y1) (hn : n ≤ maxLen) (w : World) (hR : Row w a n (iv zs)) :
    Calls Try.prog 36 #[.agg #[.int .i64 W, .int .i64 H, .slice a n c], .int .i64 x0, .int .i64 y0, .int .i64 x1, .int .i64 y1] w fun e w' => e = .returned (.tuple #[.int .i64 0, .int .i64 2]) ∧ Below w.heap.size w w' := by
  have HV := Lib.hid (rvalid_ok hI a n c hn)
  have HR := Lib.hid hR
  have HB : Hid (¬ okB W H x0 y0 x1 y1) := hB
  clear hI hR hB
  by_cases h0 : x0 < 0
  · have d0 : decide (x0 < 0) = true := decide_eq_true h0
    clear h0
    go_enter Try.func36, Try.ntmps36
    go_wp2_with (go_at_call 43; (with_reducible refine (HV.out _ (HR.out.later (by (repeat' (first | (with_reducible exact Below.refl _ _) | (with_reducible assumption) | (with_reducible refine belowThru ?_ (by assumption)) | (with_reducible refine belowAlloc ?_) | (with_reducible refine Below.setCell ?_ (by first | omega | (simp; done) | (simp; omega)) _) | (with_reducible refine Below.drew ?_) | (with_reducible refine below_drewN ?_ _)))))).mono ?_); rintro e w1 ⟨rfl, hb⟩; (first | ((with_reducible have k0 := Blk.later hb (Blk.new rfl)); skip; obtain ⟨a0, b0⟩ := k0.read; have zl := k0.lt) | ((try (have zk := k0.lt; (first | ((with_reducible refine Blk.keepG hb k0 (fun h => ?_) ?_); (focus ((repeat' (first | (with_reducible assumption) | ((with_reducible refine Blk.new ?_); first | rfl | (simp; done)) | (with_reducible refine Blk.later (by assumption) ?_) | (with_reducible refine Blk.alloc ?_) | (with_reducible refine Blk.drewN ?_) | (with_reducible refine Blk.drew ?_) | (with_reducible refine Blk.other ?_ (by first | omega | (simp; done) | (simp; omega))))); done)); clear k0; intro k0) | (with_reducible replace k0 := Blk.later hb (Blk.set (Blk.set k0))) | (with_reducible replace k0 := Blk.later hb (Blk.set k0))); clear a0 b0; obtain ⟨a0, b0⟩ := k0.read; have zl := k0.lt)))))
    go_ret2
    exact ⟨rfl, by (repeat' (first | (with_reducible exact Below.refl _ _) | (with_reducible assumption) | (with_reducible refine belowThru ?_ (by assumption)) | (with_reducible refine belowAlloc ?_) | (with_reducible refine Below.setCell ?_ (by first | omega | (simp; done) | (simp; omega)) _) | (with_reducible refine Below.drew ?_) | (with_reducible refine below_drewN ?_ _)))⟩
  · have d0 : decide (x0 < 0) = false := decide_eq_false h0
    by_cases h1 : x1 < x0
    · have d1 : decide (x1 < x0) = true := decide_eq_true h1
      clear h0 h1
      go_enter Try.func36, Try.ntmps36
      go_wp2_with (go_at_call 43; (with_reducible refine (HV.out _ (HR.out.later (by (repeat' (first | (with_reducible exact Below.refl _ _) | (with_reducible assumption) | (with_reducible refine belowThru ?_ (by assumption)) | (with_reducible refine belowAlloc ?_) | (with_reducible refine Below.setCell ?_ (by first | omega | (simp; done) | (simp; omega)) _) | (with_reducible refine Below.drew ?_) | (with_reducible refine below_drewN ?_ _)))))).mono ?_); rintro e w1 ⟨rfl, hb⟩; (first | ((with_reducible have k0 := Blk.later hb (Blk.new rfl)); skip; obtain ⟨a0, b0⟩ := k0.read; have zl := k0.lt) | ((try (have zk := k0.lt; (first | ((with_reducible refine Blk.keepG hb k0 (fun h => ?_) ?_); (focus ((repeat' (first | (with_reducible assumption) | ((with_reducible refine Blk.new ?_); first | rfl | (simp; done)) | (with_reducible refine Blk.later (by assumption) ?_) | (with_reducible refine Blk.alloc ?_) | (with_reducible refine Blk.drewN ?_) | (with_reducible refine Blk.drew ?_) | (with_reducible refine Blk.other ?_ (by first | omega | (simp; done) | (simp; omega))))); done)); clear k0; intro k0) | (with_reducible replace k0 := Blk.later hb (Blk.set (Blk.set k0))) | (with_reducible replace k0 := Blk.later hb (Blk.set k0))); clear a0 b0; obtain ⟨a0, b0⟩ := k0.read; have zl := k0.lt)))))
      go_ret2
      exact ⟨rfl, by (repeat' (first | (with_reducible exact Below.refl _ _) | (with_reducible assumption) | (with_reducible refine belowThru ?_ (by assumption)) | (with_reducible refine belowAlloc ?_) | (with_reducible refine Below.setCell ?_ (by first | omega | (simp; done) | (simp; omega)) _) | (with_reducible refine Below.drew ?_) | (with_reducible refine below_drewN ?_ _)))⟩
    · have d1 : decide (x1 < x0) = false := decide_eq_false h1
      by_cases h2 : W < x1
      · have d2 : decide (W < x1) = true := decide_eq_true h2
        clear h0 h1 h2
        go_enter Try.func36, Try.ntmps36
        go_wp2_with (go_at_call 43; (with_reducible refine (HV.out _ (HR.out.later (by (repeat' (first | (with_reducible exact Below.refl _ _) | (with_reducible assumption) | (with_reducible refine belowThru ?_ (by assumption)) | (with_reducible refine belowAlloc ?_) | (with_reducible refine Below.setCell ?_ (by first | omega | (simp; done) | (simp; omega)) _) | (with_reducible refine Below.drew ?_) | (with_reducible refine below_drewN ?_ _)))))).mono ?_); rintro e w1 ⟨rfl, hb⟩; (first | ((with_reducible have k0 := Blk.later hb (Blk.new rfl)); skip; obtain ⟨a0, b0⟩ := k0.read; have zl := k0.lt) | ((try (have zk := k0.lt; (first | ((with_reducible refine Blk.keepG hb k0 (fun h => ?_) ?_); (focus ((repeat' (first | (with_reducible assumption) | ((with_reducible refine Blk.new ?_); first | rfl | (simp; done)) | (with_reducible refine Blk.later (by assumption) ?_) | (with_reducible refine Blk.alloc ?_) | (with_reducible refine Blk.drewN ?_) | (with_reducible refine Blk.drew ?_) | (with_reducible refine Blk.other ?_ (by first | omega | (simp; done) | (simp; omega))))); done)); clear k0; intro k0) | (with_reducible replace k0 := Blk.later hb (Blk.set (Blk.set k0))) | (with_reducible replace k0 := Blk.later hb (Blk.set k0))); clear a0 b0; obtain ⟨a0, b0⟩ := k0.read; have zl := k0.lt)))))
        go_ret2
        exact ⟨rfl, by (repeat' (first | (with_reducible exact Below.refl _ _) | (with_reducible assumption) | (with_reducible refine belowThru ?_ (by assumption)) | (with_reducible refine belowAlloc ?_) | (with_reducible refine Below.setCell ?_ (by first | omega | (simp; done) | (simp; omega)) _) | (with_reducible refine Below.drew ?_) | (with_reducible refine below_drewN ?_ _)))⟩
      · have d2 : decide (W < x1) = false := decide_eq_false h2
        by_cases h3 : y0 < 0
        · have d3 : decide (y0 < 0) = true := decide_eq_true h3
          clear h0 h1 h2 h3
          go_enter Try.func36, Try.ntmps36
          go_wp2_with (go_at_call 43; (with_reducible refine (HV.out _ (HR.out.later (by (repeat' (first | (with_reducible exact Below.refl _ _) | (with_reducible assumption) | (with_reducible refine belowThru ?_ (by assumption)) | (with_reducible refine belowAlloc ?_) | (with_reducible refine Below.setCell ?_ (by first | omega | (simp; done) | (simp; omega)) _) | (with_reducible refine Below.drew ?_) | (with_reducible refine below_drewN ?_ _)))))).mono ?_); rintro e w1 ⟨rfl, hb⟩; (first | ((with_reducible have k0 := Blk.later hb (Blk.new rfl)); skip; obtain ⟨a0, b0⟩ := k0.read; have zl := k0.lt) | ((try (have zk := k0.lt; (first | ((with_reducible refine Blk.keepG hb k0 (fun h => ?_) ?_); (focus ((repeat' (first | (with_reducible assumption) | ((with_reducible refine Blk.new ?_); first | rfl | (simp; done)) | (with_reducible refine Blk.later (by assumption) ?_) | (with_reducible refine Blk.alloc ?_) | (with_reducible refine Blk.drewN ?_) | (with_reducible refine Blk.drew ?_) | (with_reducible refine Blk.other ?_ (by first | omega | (simp; done) | (simp; omega))))); done)); clear k0; intro k0) | (with_reducible replace k0 := Blk.later hb (Blk.set (Blk.set k0))) | (with_reducible replace k0 := Blk.later hb (Blk.set k0))); clear a0 b0; obtain ⟨a0, b0⟩ := k0.read; have zl := k0.lt)))))
          go_ret2
          exact ⟨rfl, by (repeat' (first | (with_reducible exact Below.refl _ _) | (with_reducible assumption) | (with_reducible refine belowThru ?_ (by assumption)) | (with_reducible refine belowAlloc ?_) | (with_reducible refine Below.setCell ?_ (by first | omega | (simp; done) | (simp; omega)) _) | (with_reducible refine Below.drew ?_) | (with_reducible refine below_drewN ?_ _)))⟩
        · have d3 : decide (y0 < 0) = false := decide_eq_false h3
          by_cases h4 : y1 < y0
          · have d4 : decide (y1 < y0) = true := decide_eq_true h4
            clear h0 h1 h2 h3 h4
            go_enter Try.func36, Try.ntmps36
            go_wp2_with (go_at_call 43; (with_reducible refine (HV.out _ (HR.out.later (by (repeat' (first | (with_reducible exact Below.refl _ _) | (with_reducible assumption) | (with_reducible refine belowThru ?_ (by assumption)) | (with_reducible refine belowAlloc ?_) | (with_reducible refine Below.setCell ?_ (by first | omega | (simp; done) | (simp; omega)) _) | (with_reducible refine Below.drew ?_) | (with_reducible refine below_drewN ?_ _)))))).mono ?_); rintro e w1 ⟨rfl, hb⟩; (first | ((with_reducible have k0 := Blk.later hb (Blk.new rfl)); skip; obtain ⟨a0, b0⟩ := k0.read; have zl := k0.lt) | ((try (have zk := k0.lt; (first | ((with_reducible refine Blk.keepG hb k0 (fun h => ?_) ?_); (focus ((repeat' (first | (with_reducible assumption) | ((with_reducible refine Blk.new ?_); first | rfl | (simp; done)) | (with_reducible refine Blk.later (by assumption) ?_) | (with_reducible refine Blk.alloc ?_) | (with_reducible refine Blk.drewN ?_) | (with_reducible refine Blk.drew ?_) | (with_reducible refine Blk.other ?_ (by first | omega | (simp; done) | (simp; omega))))); done)); clear k0; intro k0) | (with_reducible replace k0 := Blk.later hb (Blk.set (Blk.set k0))) | (with_reducible replace k0 := Blk.later hb (Blk.set k0))); clear a0 b0; obtain ⟨a0, b0⟩ := k0.read; have zl := k0.lt)))))
            go_ret2
            exact ⟨rfl, by (repeat' (first | (with_reducible exact Below.refl _ _) | (with_reducible assumption) | (with_reducible refine belowThru ?_ (by assumption)) | (with_reducible refine belowAlloc ?_) | (with_reducible refine Below.setCell ?_ (by first | omega | (simp; done) | (simp; omega)) _) | (with_reducible refine Below.drew ?_) | (with_reducible refine below_drewN ?_ _)))⟩
          · have d4 : decide (y1 < y0) = false := decide_eq_false h4
            by_cases h5 : H < y1
            · have d5 : decide (H < y1) = true := decide_eq_true h5
              clear h0 h1 h2 h3 h4 h5
              go_enter Try.func36, Try.ntmps36
              go_wp2_with (go_at_call 43; (with_reducible refine (HV.out _ (HR.out.later (by (repeat' (first | (with_reducible exact Below.refl _ _) | (with_reducible assumption) | (with_reducible refine belowThru ?_ (by assumption)) | (with_reducible refine belowAlloc ?_) | (with_reducible refine Below.setCell ?_ (by first | omega | (simp; done) | (simp; omega)) _) | (with_reducible refine Below.drew ?_) | (with_reducible refine below_drewN ?_ _)))))).mono ?_); rintro e w1 ⟨rfl, hb⟩; (first | ((with_reducible have k0 := Blk.later hb (Blk.new rfl)); skip; obtain ⟨a0, b0⟩ := k0.read; have zl := k0.lt) | ((try (have zk := k0.lt; (first | ((with_reducible refine Blk.keepG hb k0 (fun h => ?_) ?_); (focus ((repeat' (first | (with_reducible assumption) | ((with_reducible refine Blk.new ?_); first | rfl | (simp; done)) | (with_reducible refine Blk.later (by assumption) ?_) | (with_reducible refine Blk.alloc ?_) | (with_reducible refine Blk.drewN ?_) | (with_reducible refine Blk.drew ?_) | (with_reducible refine Blk.other ?_ (by first | omega | (simp; done) | (simp; omega))))); done)); clear k0; intro k0) | (with_reducible replace k0 := Blk.later hb (Blk.set (Blk.set k0))) | (with_reducible replace k0 := Blk.later hb (Blk.set k0))); clear a0 b0; obtain ⟨a0, b0⟩ := k0.read; have zl := k0.lt)))))
              go_ret2
              exact ⟨rfl, by (repeat' (first | (with_reducible exact Below.refl _ _) | (with_reducible assumption) | (with_reducible refine belowThru ?_ (by assumption)) | (with_reducible refine belowAlloc ?_) | (with_reducible refine Below.setCell ?_ (by first | omega | (simp; done) | (simp; omega)) _) | (with_reducible refine Below.drew ?_) | (with_reducible refine below_drewN ?_ _)))⟩
            · have d5 : decide (H < y1) = false := decide_eq_false h5
              exact absurd (show okB W H x0 y0 x1 y1 from ⟨⟨by omega, by omega, by omega⟩, by omega, by omega, by omega⟩) HB.out

theorem both_rows (W H : Int) (a : Option Addr) (n c : Nat) (zs : List Int) (hn : n ≤ maxLen) : ∃ ls er, ls.length ≤ 1000 ∧ (∀ w, Row w a n (iv zs) → Calls Try.prog 29 #[.agg #[.int .i64 W, .int .i64 H, .slice a n c]] w (RetL ls er w)) ∧ (∀ w, Row w a n (iv zs) → Calls Try.prog 30 #[.agg #[.int .i64 W, .int .i64 H, .slice a n c]] w (RetL ls er w)) := by
  by_cases hI : okI W H zs
  · obtain ⟨Wn, Hn, h1, h2, h3, h4, -⟩ := sides_nat hI
    exact ⟨_, 0, by simp; omega, fun w h => irows_ok W H Wn Hn h1 h2 a n c zs hI hn w h, fun w h => rrows_ok W H Wn Hn h1 h2 a n c zs hI hn w h⟩
  · exact ⟨[], 20, Nat.zero_le _, fun w h => irows_walk W H a n c [] 20 w (Lib.hid fun w1 hb => sums_no W H _ H a n c zs hI hn w1 (h.later hb)), fun w h => rrows_no W H a n c zs hI hn w h⟩
theorem both_cols (W H : Int) (a : Option Addr) (n c : Nat) (zs : List Int) (hn : n ≤ maxLen) : ∃ ls er, ls.length ≤ 1000 ∧ (∀ w, Row w a n (iv zs) → Calls Try.prog 31 #[.agg #[.int .i64 W, .int .i64 H, .slice a n c]] w (RetL ls er w)) ∧ (∀ w, Row w a n (iv zs) → Calls Try.prog 32 #[.agg #[.int .i64 W, .int .i64 H, .slice a n c]] w (RetL ls er w)) := by
  by_cases hI : okI W H zs
  · obtain ⟨Wn, Hn, h1, h2, h3, h4, -⟩ := sides_nat hI
    exact ⟨_, 0, by simp; omega, fun w h => icols_ok W H Wn Hn h1 h2 a n c zs hI hn w h, fun w h => rcols_ok W H Wn Hn h1 h2 a n c zs hI hn w h⟩
  · exact ⟨[], 20, Nat.zero_le _, fun w h => icols_walk W H a n c [] 20 w (Lib.hid fun w1 hb => sums_no W H _ W a n c zs hI hn w1 (h.later hb)), fun w h => rcols_no W H a n c zs hI hn w h⟩
theorem both_integ (W H : Int) (a : Option Addr) (n c : Nat) (zs : List Int) (hn : n ≤ maxLen) : ∃ ls er, ls.length ≤ 1000 ∧ (∀ w, Row w a n (iv zs) → Calls Try.prog 33 #[.agg #[.int .i64 W, .int .i64 H, .slice a n c]] w (RetL ls er w)) ∧ (∀ w, Row w a n (iv zs) → Calls Try.prog 34 #[.agg #[.int .i64 W, .int .i64 H, .slice a n c]] w (RetL ls er w)) := by
  by_cases hI : okI W H zs
  · obtain ⟨Wn, Hn, h1, h2, h3, h4, -⟩ := sides_nat hI
    exact ⟨_, 0, by rw [List.length_map, List.length_range]; exact Nat.le_trans (Nat.mul_le_mul (show Wn + 1 ≤ 17 by omega) (show Hn + 1 ≤ 17 by omega)) (by decide), fun w h => iinteg_ok W H Wn Hn h1 h2 a n c zs hI hn w h, fun w h => rinteg_ok W H Wn Hn h1 h2 a n c zs hI hn w h⟩
  · exact ⟨[], 20, Nat.zero_le _, fun w h => integ_no W H a n c zs hI hn w h, fun w h => rinteg_no W H a n c zs hI hn w h⟩
theorem both_box (W H x0 y0 x1 y1 : Int) (a : Option Addr) (n c : Nat) (zs : List Int) (hn : n ≤ maxLen) : ∃ S E : Int, (∀ w, Row w a n (iv zs) → Calls Try.prog 35 #[.agg #[.int .i64 W, .int .i64 H, .slice a n c], .int .i64 x0, .int .i64 y0, .int .i64 x1, .int .i64 y1] w fun e w' => e = .returned (.tuple #[.int .i64 S, .int .i64 E]) ∧ Below w.heap.size w w') ∧
    (∀ w, Row w a n (iv zs) → Calls Try.prog 36 #[.agg #[.int .i64 W, .int .i64 H, .slice a n c], .int .i64 x0, .int .i64 y0, .int .i64 x1, .int .i64 y1] w fun e w' => e = .returned (.tuple #[.int .i64 S, .int .i64 E]) ∧ Below w.heap.size w w') := by
  by_cases hI : okI W H zs
  · by_cases hB : okB W H x0 y0 x1 y1
    · obtain ⟨Wn, Hn, h1, h2, -⟩ := sides_nat hI
      obtain ⟨p, rfl⟩ := Int.eq_ofNat_of_zero_le hB.1.1
      obtain ⟨q, rfl⟩ := Int.eq_ofNat_of_zero_le hB.2.1
      obtain ⟨r, rfl⟩ := Int.eq_ofNat_of_zero_le (show 0 ≤ x1 by have := hB.1; omega)
      obtain ⟨s, rfl⟩ := Int.eq_ofNat_of_zero_le (show 0 ≤ y1 by have := hB.2; omega)
      exact ⟨_, 0, fun w h => ibox_ok W H Wn Hn p q r s h1 h2 a n c zs hI hB hn w h, fun w h => rbox_ok W H Wn Hn p q r s h1 h2 a n c zs hI hB hn w h⟩
    · exact ⟨0, 2, fun w h => ibox_arg W H x0 y0 x1 y1 a n c zs hI hB hn w h, fun w h => rbox_arg W H x0 y0 x1 y1 a n c zs hI hB hn w h⟩
  · exact ⟨0, 20, fun w h => ibox_no W H x0 y0 x1 y1 a n c zs hI hn w h, fun w h => rbox_no W H x0 y0 x1 y1 a n c zs hI hn w h⟩
end Go.Proofs.Ytgalmepljonhpaa
