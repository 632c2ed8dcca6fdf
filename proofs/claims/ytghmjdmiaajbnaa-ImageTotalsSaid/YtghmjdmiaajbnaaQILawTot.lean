/-
  The law ImageTotals: the walk.
-/
import Derived.Test.YtghmjdmiaajbnaaM1
import Derived.Test.YtghmjdmiaajbnaaM6
import Derived.Test.YtghmjdmiaajbnaaM21
import Derived.Test.YtghmjdmiaajbnaaM5
namespace Go.Proofs.Ytghmjdmiaajbnaa
open Go.RowKit
set_option linter.unusedVariables false
set_option linter.unusedSimpArgs false

set_option maxRecDepth 100000 in
set_option maxHeartbeats 2000000 in
theorem totals_no (W H x0 y0 x1 y1 : Int) (a : Option Addr) (n c : Nat) (zs : List Int) (hn : n ≤ maxLen) (w : World) (hR : Row w a n (iv zs)) (hI : ¬ okI W H zs) :
    Calls Try.prog 11 #[.agg #[.int .i64 W, .int .i64 H, .slice a n c], .int .i64 x0, .int .i64 y0, .int .i64 x1, .int .i64 y1] w fun e w' => e = .returned (.bool true) ∧ Below w.heap.size w w' := by
  have HR := Lib.hid hR
  clear hR
  go_enter Try.func11, Try.ntmps11
  go_wp2_with fail
  refine (alive_true _).mono ?_
  rintro e w1 ⟨rfl, hb⟩
  have kn0 : Blk w1 (w.heap.size) #[.int .i64 W, .int .i64 H, .slice a n c] 24 := Blk.later hb (by first | ((repeat' (first | (with_reducible assumption) | ((with_reducible refine Blk.new ?_); first | rfl | (simp; done)) | (with_reducible refine Blk.later (by assumption) ?_) | (with_reducible refine Blk.alloc ?_) | (with_reducible refine Blk.drewN ?_) | (with_reducible refine Blk.drew ?_) | (with_reducible refine Blk.other ?_ (by first | omega | (simp; done) | (simp; omega))))); done) | exact Blk.alloc (Blk.new (by simp)) | exact Blk.set (Blk.set (Blk.set (by (repeat' (first | (with_reducible assumption) | ((with_reducible refine Blk.new ?_); first | rfl | (simp; done)) | (with_reducible refine Blk.later (by assumption) ?_) | (with_reducible refine Blk.alloc ?_) | (with_reducible refine Blk.drewN ?_) | (with_reducible refine Blk.drew ?_) | (with_reducible refine Blk.other ?_ (by first | omega | (simp; done) | (simp; omega)))))))) | exact Blk.alloc (Blk.set (Blk.set (Blk.set (by (repeat' (first | (with_reducible assumption) | ((with_reducible refine Blk.new ?_); first | rfl | (simp; done)) | (with_reducible refine Blk.later (by assumption) ?_) | (with_reducible refine Blk.alloc ?_) | (with_reducible refine Blk.drewN ?_) | (with_reducible refine Blk.drew ?_) | (with_reducible refine Blk.other ?_ (by first | omega | (simp; done) | (simp; omega))))))))))
  have k0 := kn0; clear kn0; obtain ⟨a0, b0⟩ := k0.read; have yk0 := k0.lt
  have hBw : Below w.heap.size w w1 := by (repeat' (first | (with_reducible exact Below.refl _ _) | (with_reducible assumption) | (with_reducible refine belowThru ?_ (by assumption)) | (with_reducible refine belowAlloc ?_) | (with_reducible refine Below.setCell ?_ (by first | omega | (simp; done) | (simp; omega)) _) | (with_reducible refine Below.drew ?_) | (with_reducible refine below_drewN ?_ _)))
  have hzw1 := hBw.size
  clear hb
  go_wp2_with fail
  refine (ibox_no W H x0 y0 x1 y1 a n c zs hI hn _ (HR.out.later (by (repeat' (first | (with_reducible exact Below.refl _ _) | (with_reducible assumption) | (with_reducible refine belowThru ?_ (by assumption)) | (with_reducible refine belowAlloc ?_) | (with_reducible refine Below.setCell ?_ (by first | omega | (simp; done) | (simp; omega)) _) | (with_reducible refine Below.drew ?_) | (with_reducible refine below_drewN ?_ _)))))).mono ?_
  rintro e w2 ⟨rfl, hb⟩
  have kn0 : Blk w2 (w.heap.size) #[.int .i64 W, .int .i64 H, .slice a n c] 24 := Blk.later hb (by (repeat' (first | (with_reducible assumption) | ((with_reducible refine Blk.new ?_); first | rfl | (simp; done)) | (with_reducible refine Blk.later (by assumption) ?_) | (with_reducible refine Blk.alloc ?_) | (with_reducible refine Blk.drewN ?_) | (with_reducible refine Blk.drew ?_) | (with_reducible refine Blk.other ?_ (by first | omega | (simp; done) | (simp; omega))))))
  clear k0 a0 b0
  have k0 := kn0; clear kn0; obtain ⟨a0, b0⟩ := k0.read; have yk0 := k0.lt
  replace hBw : Below w.heap.size w w2 := belowThru (by (repeat' (first | (with_reducible exact Below.refl _ _) | (with_reducible assumption) | (with_reducible refine belowThru ?_ (by assumption)) | (with_reducible refine belowAlloc ?_) | (with_reducible refine Below.setCell ?_ (by first | omega | (simp; done) | (simp; omega)) _) | (with_reducible refine Below.drew ?_) | (with_reducible refine below_drewN ?_ _)))) hb
  have hzw2 := hBw.size
  clear hb
  go_wp2_with fail
  refine (rvalid_no hI a n c hn _ (HR.out.later (by (repeat' (first | (with_reducible exact Below.refl _ _) | (with_reducible assumption) | (with_reducible refine belowThru ?_ (by assumption)) | (with_reducible refine belowAlloc ?_) | (with_reducible refine Below.setCell ?_ (by first | omega | (simp; done) | (simp; omega)) _) | (with_reducible refine Below.drew ?_) | (with_reducible refine below_drewN ?_ _)))))).mono ?_
  rintro e w3 ⟨rfl, hb⟩
  have kn0 : Blk w3 (w.heap.size) #[.int .i64 W, .int .i64 H, .slice a n c] 24 := Blk.later hb (by (repeat' (first | (with_reducible assumption) | ((with_reducible refine Blk.new ?_); first | rfl | (simp; done)) | (with_reducible refine Blk.later (by assumption) ?_) | (with_reducible refine Blk.alloc ?_) | (with_reducible refine Blk.drewN ?_) | (with_reducible refine Blk.drew ?_) | (with_reducible refine Blk.other ?_ (by first | omega | (simp; done) | (simp; omega))))))
  clear k0 a0 b0
  have k0 := kn0; clear kn0; obtain ⟨a0, b0⟩ := k0.read; have yk0 := k0.lt
  replace hBw : Below w.heap.size w w3 := belowThru (by (repeat' (first | (with_reducible exact Below.refl _ _) | (with_reducible assumption) | (with_reducible refine belowThru ?_ (by assumption)) | (with_reducible refine belowAlloc ?_) | (with_reducible refine Below.setCell ?_ (by first | omega | (simp; done) | (simp; omega)) _) | (with_reducible refine Below.drew ?_) | (with_reducible refine below_drewN ?_ _)))) hb
  have hzw3 := hBw.size
  clear hb
  go_wp2_with fail
  go_ret
  exact ⟨rfl, by (repeat' (first | (with_reducible exact Below.refl _ _) | (with_reducible assumption) | (with_reducible refine belowThru ?_ (by assumption)) | (with_reducible refine belowAlloc ?_) | (with_reducible refine Below.setCell ?_ (by first | omega | (simp; done) | (simp; omega)) _) | (with_reducible refine Below.drew ?_) | (with_reducible refine below_drewN ?_ _)))⟩
set_option maxRecDepth 100000 in
set_option maxHeartbeats 2000000 in
theorem totals_yes (W H x0 y0 x1 y1 : Int) (a : Option Addr) (n c : Nat) (zs : List Int) (hn : n ≤ maxLen) (w : World) (hR : Row w a n (iv zs)) (hI : okI W H zs) (hB : okB W H x0 y0 x1 y1) :
    Calls Try.prog 11 #[.agg #[.int .i64 W, .int .i64 H, .slice a n c], .int .i64 x0, .int .i64 y0, .int .i64 x1, .int .i64 y1] w fun e w' => e = .returned (.bool true) ∧ Below w.heap.size w w' := by
  obtain ⟨Wn, Hn, rfl, rfl, W16, H16, W0, H0, hlen⟩ := sides_nat hI
  obtain ⟨⟨bx0, bx1, bx2⟩, by0, by1, by2⟩ := hB
  obtain ⟨x0n, rfl⟩ : ∃ q : Nat, x0 = (q : Int) := ⟨x0.toNat, by omega⟩
  obtain ⟨y0n, rfl⟩ : ∃ q : Nat, y0 = (q : Int) := ⟨y0.toNat, by omega⟩
  obtain ⟨x1n, rfl⟩ : ∃ q : Nat, x1 = (q : Int) := ⟨x1.toNat, by omega⟩
  obtain ⟨y1n, rfl⟩ : ∃ q : Nat, y1 = (q : Int) := ⟨y1.toNat, by omega⟩
  have cx := box_corners Wn zs (x0 := x0n) (y0 := y0n) (x1 := x1n) (y1 := y1n) (by omega) (by omega)
  obtain ⟨LR, hLR⟩ : ∃ L, ((List.range Hn).map fun k => boxN Wn zs 0 k Wn (k + 1)) = L := ⟨_, rfl⟩
  obtain ⟨LC, hLC⟩ : ∃ L, ((List.range Wn).map fun k => boxN Wn zs k 0 (k + 1) Hn) = L := ⟨_, rfl⟩
  obtain ⟨LI, hLI⟩ : ∃ L, ((List.range ((Wn + 1) * (Hn + 1))).map fun q => boxN Wn zs 0 0 (q % (Wn + 1)) (q / (Wn + 1))) = L := ⟨_, rfl⟩
  obtain ⟨M, hM⟩ : ∃ M, (Wn + 1) * (Hn + 1) = M := ⟨_, rfl⟩
  have CLR : Hid (∀ w, Row w a n (iv zs) → Calls Try.prog 28 #[.agg #[.int .i64 (Wn : Int), .int .i64 (Hn : Int), .slice a n c]] w fun e w' => ∃ (v : Option Addr) (d : Nat), e = .returned (.tuple #[.slice v Hn d, .int .i64 0]) ∧ Row w' v Hn (iv LR) ∧ Below w.heap.size w w') := fun w hR => by
    have q := irows_ok (Wn : Int) (Hn : Int) Wn Hn rfl rfl a n c zs hI hn w hR
    rw [hLR] at q
    unfold RetL at q
    rwa [show LR.length = Hn by rw [← hLR, List.length_map, List.length_range]] at q
  have CLC : Hid (∀ w, Row w a n (iv zs) → Calls Try.prog 29 #[.agg #[.int .i64 (Wn : Int), .int .i64 (Hn : Int), .slice a n c]] w fun e w' => ∃ (v : Option Addr) (d : Nat), e = .returned (.tuple #[.slice v Wn d, .int .i64 0]) ∧ Row w' v Wn (iv LC) ∧ Below w.heap.size w w') := fun w hR => by
    have q := icols_ok (Wn : Int) (Hn : Int) Wn Hn rfl rfl a n c zs hI hn w hR
    rw [hLC] at q
    unfold RetL at q
    rwa [show LC.length = Wn by rw [← hLC, List.length_map, List.length_range]] at q
  have CLI : Hid (∀ w, Row w a n (iv zs) → Calls Try.prog 30 #[.agg #[.int .i64 (Wn : Int), .int .i64 (Hn : Int), .slice a n c]] w fun e w' => ∃ (v : Option Addr) (d : Nat), e = .returned (.tuple #[.slice v M d, .int .i64 0]) ∧ Row w' v M (iv LI) ∧ Below w.heap.size w w') := fun w hR => by
    have q := iinteg_ok (Wn : Int) (Hn : Int) Wn Hn rfl rfl a n c zs hI hn w hR
    rw [hLI] at q
    unfold RetL at q
    rwa [show LI.length = M by rw [← hLI, List.length_map, List.length_range]; exact hM] at q
  have bv := hI.2.2
  have bb : Hid (∀ p q r s : Nat, r ≤ 16 → s ≤ 16 → -549755813888 ≤ boxN Wn zs p q r s ∧ boxN Wn zs p q r s ≤ 549755813888) := fun p q r s h1 h2 => box_bd31 bv p q r s h1 h2
  have gR : Hid (∀ k, k < Hn → ∃ v, LR[k]? = some v ∧ (-549755813888 ≤ v ∧ v ≤ 549755813888) ∧ sumN (fun k => boxN Wn zs 0 k Wn (k + 1)) (k + 1) = sumN (fun k => boxN Wn zs 0 k Wn (k + 1)) k + v) := fun k hk => ⟨boxN Wn zs 0 k Wn (k + 1), by rw [← hLR, List.getElem?_map, List.getElem?_range hk]; rfl, bb.out _ _ _ _ W16 (by omega), rfl⟩
  have gC : Hid (∀ k, k < Wn → ∃ v, LC[k]? = some v ∧ (-549755813888 ≤ v ∧ v ≤ 549755813888) ∧ sumN (fun k => boxN Wn zs k 0 (k + 1) Hn) (k + 1) = sumN (fun k => boxN Wn zs k 0 (k + 1) Hn) k + v) := fun k hk => ⟨boxN Wn zs k 0 (k + 1) Hn, by rw [← hLC, List.getElem?_map, List.getElem?_range hk]; rfl, bb.out _ _ _ _ (by omega) H16, rfl⟩
  have sR : Hid (∀ k, k ≤ Hn → -8796093022208 ≤ sumN (fun k => boxN Wn zs 0 k Wn (k + 1)) k ∧ sumN (fun k => boxN Wn zs 0 k Wn (k + 1)) k ≤ 8796093022208) := fun k hk => by have := sumN_bd (f := fun k => boxN Wn zs 0 k Wn (k + 1)) (n := k) (B := 549755813888) (fun i hi => bb.out _ _ _ _ W16 (by omega)); omega
  have sC : Hid (∀ k, k ≤ Wn → -8796093022208 ≤ sumN (fun k => boxN Wn zs k 0 (k + 1) Hn) k ∧ sumN (fun k => boxN Wn zs k 0 (k + 1) Hn) k ≤ 8796093022208) := fun k hk => by have := sumN_bd (f := fun k => boxN Wn zs k 0 (k + 1) Hn) (n := k) (B := 549755813888) (fun i hi => bb.out _ _ _ _ (by omega) H16); omega
  have gI : Hid (∀ i j : Nat, i ≤ Wn → j ≤ Hn → j * (Wn + 1) + i < M ∧ LI[j * (Wn + 1) + i]? = some (boxN Wn zs 0 0 i j)) := fun i j hi hj => by
    have hlt : j * (Wn + 1) + i < (Wn + 1) * (Hn + 1) := by have := Nat.mul_le_mul_left (Wn + 1) hj; rw [Nat.mul_comm j, Nat.mul_add (Wn + 1) Hn 1]; omega
    obtain ⟨d1, d2⟩ := boxes_nat (W := Wn) (y1 := j) hi
    refine ⟨by omega, ?_⟩
    rw [← hLI, List.getElem?_map, List.getElem?_range hlt, Option.map_some, d1, d2]
  have tR := rows_total Wn Hn zs; have tC := cols_total Wn Hn zs
  obtain ⟨fR, hfR⟩ : ∃ f, (fun k => boxN Wn zs 0 k Wn (k + 1)) = f := ⟨_, rfl⟩
  obtain ⟨fC, hfC⟩ : ∃ f, (fun k => boxN Wn zs k 0 (k + 1) Hn) = f := ⟨_, rfl⟩
  rw [hfR] at gR sR tR; rw [hfC] at gC sC tC
  have HTR := Lib.hid tR; have HTC := Lib.hid tC; have HMM := Lib.hid hM
  have HI := Lib.hid hI; have HN := Lib.hid hn
  have HCX := Lib.hid cx
  have c1 : ((Wn : Int) + 1) * ((Hn : Int) + 1) = (M : Int) := by rw [← hM, Int.natCast_mul]; rfl
  have m0 : M ≤ 289 := by have := Nat.mul_le_mul (show Wn + 1 ≤ 17 by omega) (show Hn + 1 ≤ 17 by omega); omega
  have HC1 := Lib.hid c1
  clear hLR hLC hLI hM hfR hfC tR tC hI hn bv hlen c1 cx
  have HR := Lib.hid hR
  clear hR
  go_enter Try.func11, Try.ntmps11
  go_wp2_with fail
  refine (alive_true _).mono ?_
  rintro e w1 ⟨rfl, hb⟩
  have kn0 : Blk w1 (w.heap.size) #[.int .i64 (Wn : Int), .int .i64 (Hn : Int), .slice a n c] 24 := Blk.later hb (by first | ((repeat' (first | (with_reducible assumption) | ((with_reducible refine Blk.new ?_); first | rfl | (simp; done)) | (with_reducible refine Blk.later (by assumption) ?_) | (with_reducible refine Blk.alloc ?_) | (with_reducible refine Blk.drewN ?_) | (with_reducible refine Blk.drew ?_) | (with_reducible refine Blk.other ?_ (by first | omega | (simp; done) | (simp; omega))))); done) | exact Blk.alloc (Blk.new (by simp)) | exact Blk.set (Blk.set (Blk.set (by (repeat' (first | (with_reducible assumption) | ((with_reducible refine Blk.new ?_); first | rfl | (simp; done)) | (with_reducible refine Blk.later (by assumption) ?_) | (with_reducible refine Blk.alloc ?_) | (with_reducible refine Blk.drewN ?_) | (with_reducible refine Blk.drew ?_) | (with_reducible refine Blk.other ?_ (by first | omega | (simp; done) | (simp; omega)))))))) | exact Blk.alloc (Blk.set (Blk.set (Blk.set (by (repeat' (first | (with_reducible assumption) | ((with_reducible refine Blk.new ?_); first | rfl | (simp; done)) | (with_reducible refine Blk.later (by assumption) ?_) | (with_reducible refine Blk.alloc ?_) | (with_reducible refine Blk.drewN ?_) | (with_reducible refine Blk.drew ?_) | (with_reducible refine Blk.other ?_ (by first | omega | (simp; done) | (simp; omega))))))))))
  have k0 := kn0; clear kn0; obtain ⟨a0, b0⟩ := k0.read; have yk0 := k0.lt
  have hBw : Below w.heap.size w w1 := by (repeat' (first | (with_reducible exact Below.refl _ _) | (with_reducible assumption) | (with_reducible refine belowThru ?_ (by assumption)) | (with_reducible refine belowAlloc ?_) | (with_reducible refine Below.setCell ?_ (by first | omega | (simp; done) | (simp; omega)) _) | (with_reducible refine Below.drew ?_) | (with_reducible refine below_drewN ?_ _)))
  have hzw1 := hBw.size
  clear hb
  go_wp2_with fail
  refine (ibox_ok (Wn : Int) (Hn : Int) Wn Hn x0n y0n x1n y1n rfl rfl a n c zs HI.out ⟨⟨by omega, by omega, by omega⟩, by omega, by omega, by omega⟩ HN.out _ (HR.out.later (by (repeat' (first | (with_reducible exact Below.refl _ _) | (with_reducible assumption) | (with_reducible refine belowThru ?_ (by assumption)) | (with_reducible refine belowAlloc ?_) | (with_reducible refine Below.setCell ?_ (by first | omega | (simp; done) | (simp; omega)) _) | (with_reducible refine Below.drew ?_) | (with_reducible refine below_drewN ?_ _)))))).mono ?_
  rintro e w2 ⟨rfl, hb⟩
  have kn0 : Blk w2 (w.heap.size) #[.int .i64 (Wn : Int), .int .i64 (Hn : Int), .slice a n c] 24 := Blk.later hb (by (repeat' (first | (with_reducible assumption) | ((with_reducible refine Blk.new ?_); first | rfl | (simp; done)) | (with_reducible refine Blk.later (by assumption) ?_) | (with_reducible refine Blk.alloc ?_) | (with_reducible refine Blk.drewN ?_) | (with_reducible refine Blk.drew ?_) | (with_reducible refine Blk.other ?_ (by first | omega | (simp; done) | (simp; omega))))))
  clear k0 a0 b0
  have k0 := kn0; clear kn0; obtain ⟨a0, b0⟩ := k0.read; have yk0 := k0.lt
  replace hBw : Below w.heap.size w w2 := belowThru (by (repeat' (first | (with_reducible exact Below.refl _ _) | (with_reducible assumption) | (with_reducible refine belowThru ?_ (by assumption)) | (with_reducible refine belowAlloc ?_) | (with_reducible refine Below.setCell ?_ (by first | omega | (simp; done) | (simp; omega)) _) | (with_reducible refine Below.drew ?_) | (with_reducible refine below_drewN ?_ _)))) hb
  have hzw2 := hBw.size
  clear hb
  go_wp2_with fail
  refine (rvalid_ok HI.out a n c HN.out _ (HR.out.later (by (repeat' (first | (with_reducible exact Below.refl _ _) | (with_reducible assumption) | (with_reducible refine belowThru ?_ (by assumption)) | (with_reducible refine belowAlloc ?_) | (with_reducible refine Below.setCell ?_ (by first | omega | (simp; done) | (simp; omega)) _) | (with_reducible refine Below.drew ?_) | (with_reducible refine below_drewN ?_ _)))))).mono ?_
  rintro e w3 ⟨rfl, hb⟩
  have kn0 : Blk w3 (w.heap.size) #[.int .i64 (Wn : Int), .int .i64 (Hn : Int), .slice a n c] 24 := Blk.later hb (by (repeat' (first | (with_reducible assumption) | ((with_reducible refine Blk.new ?_); first | rfl | (simp; done)) | (with_reducible refine Blk.later (by assumption) ?_) | (with_reducible refine Blk.alloc ?_) | (with_reducible refine Blk.drewN ?_) | (with_reducible refine Blk.drew ?_) | (with_reducible refine Blk.other ?_ (by first | omega | (simp; done) | (simp; omega))))))
  clear k0 a0 b0
  have k0 := kn0; clear kn0; obtain ⟨a0, b0⟩ := k0.read; have yk0 := k0.lt
  replace hBw : Below w.heap.size w w3 := belowThru (by (repeat' (first | (with_reducible exact Below.refl _ _) | (with_reducible assumption) | (with_reducible refine belowThru ?_ (by assumption)) | (with_reducible refine belowAlloc ?_) | (with_reducible refine Below.setCell ?_ (by first | omega | (simp; done) | (simp; omega)) _) | (with_reducible refine Below.drew ?_) | (with_reducible refine below_drewN ?_ _)))) hb
  have hzw3 := hBw.size
  clear hb
  go_wp2_with fail
  refine (CLR.out _ (HR.out.later (by (repeat' (first | (with_reducible exact Below.refl _ _) | (with_reducible assumption) | (with_reducible refine belowThru ?_ (by assumption)) | (with_reducible refine belowAlloc ?_) | (with_reducible refine Below.setCell ?_ (by first | omega | (simp; done) | (simp; omega)) _) | (with_reducible refine Below.drew ?_) | (with_reducible refine below_drewN ?_ _)))))).mono ?_
  rintro e w4 ⟨vr, dr, rfl, hN, hb⟩
  have kn0 : Blk w4 (w.heap.size) #[.int .i64 (Wn : Int), .int .i64 (Hn : Int), .slice a n c] 24 := Blk.later hb (by (repeat' (first | (with_reducible assumption) | ((with_reducible refine Blk.new ?_); first | rfl | (simp; done)) | (with_reducible refine Blk.later (by assumption) ?_) | (with_reducible refine Blk.alloc ?_) | (with_reducible refine Blk.drewN ?_) | (with_reducible refine Blk.drew ?_) | (with_reducible refine Blk.other ?_ (by first | omega | (simp; done) | (simp; omega))))))
  clear k0 a0 b0
  have k0 := kn0; clear kn0; obtain ⟨a0, b0⟩ := k0.read; have yk0 := k0.lt
  replace hBw : Below w.heap.size w w4 := belowThru (by (repeat' (first | (with_reducible exact Below.refl _ _) | (with_reducible assumption) | (with_reducible refine belowThru ?_ (by assumption)) | (with_reducible refine belowAlloc ?_) | (with_reducible refine Below.setCell ?_ (by first | omega | (simp; done) | (simp; omega)) _) | (with_reducible refine Below.drew ?_) | (with_reducible refine below_drewN ?_ _)))) hb
  have hzw4 := hBw.size
  clear hb
  have Rr := Lib.hid hN
  clear hN
  go_wp2_with fail
  refine (CLC.out _ (HR.out.later (by (repeat' (first | (with_reducible exact Below.refl _ _) | (with_reducible assumption) | (with_reducible refine belowThru ?_ (by assumption)) | (with_reducible refine belowAlloc ?_) | (with_reducible refine Below.setCell ?_ (by first | omega | (simp; done) | (simp; omega)) _) | (with_reducible refine Below.drew ?_) | (with_reducible refine below_drewN ?_ _)))))).mono ?_
  rintro e w5 ⟨vc, dc, rfl, hN, hb⟩
  have kn0 : Blk w5 (w.heap.size) #[.int .i64 (Wn : Int), .int .i64 (Hn : Int), .slice a n c] 24 := Blk.later hb (by (repeat' (first | (with_reducible assumption) | ((with_reducible refine Blk.new ?_); first | rfl | (simp; done)) | (with_reducible refine Blk.later (by assumption) ?_) | (with_reducible refine Blk.alloc ?_) | (with_reducible refine Blk.drewN ?_) | (with_reducible refine Blk.drew ?_) | (with_reducible refine Blk.other ?_ (by first | omega | (simp; done) | (simp; omega))))))
  clear k0 a0 b0
  have k0 := kn0; clear kn0; obtain ⟨a0, b0⟩ := k0.read; have yk0 := k0.lt
  have Rrn := Lib.hid (Rr.out.later (w' := w5) (by (repeat' (first | (with_reducible exact Below.refl _ _) | (with_reducible assumption) | (with_reducible refine belowThru ?_ (by assumption)) | (with_reducible refine belowAlloc ?_) | (with_reducible refine Below.setCell ?_ (by first | omega | (simp; done) | (simp; omega)) _) | (with_reducible refine Below.drew ?_) | (with_reducible refine below_drewN ?_ _))))); clear Rr; have Rr := Rrn; clear Rrn
  replace hBw : Below w.heap.size w w5 := belowThru (by (repeat' (first | (with_reducible exact Below.refl _ _) | (with_reducible assumption) | (with_reducible refine belowThru ?_ (by assumption)) | (with_reducible refine belowAlloc ?_) | (with_reducible refine Below.setCell ?_ (by first | omega | (simp; done) | (simp; omega)) _) | (with_reducible refine Below.drew ?_) | (with_reducible refine below_drewN ?_ _)))) hb
  have hzw5 := hBw.size
  clear hb
  have Rc := Lib.hid hN
  clear hN
  go_wp2_with fail
  refine (CLI.out _ (HR.out.later (by (repeat' (first | (with_reducible exact Below.refl _ _) | (with_reducible assumption) | (with_reducible refine belowThru ?_ (by assumption)) | (with_reducible refine belowAlloc ?_) | (with_reducible refine Below.setCell ?_ (by first | omega | (simp; done) | (simp; omega)) _) | (with_reducible refine Below.drew ?_) | (with_reducible refine below_drewN ?_ _)))))).mono ?_
  rintro e w6 ⟨vi, di, rfl, hN, hb⟩
  have kn0 : Blk w6 (w.heap.size) #[.int .i64 (Wn : Int), .int .i64 (Hn : Int), .slice a n c] 24 := Blk.later hb (by (repeat' (first | (with_reducible assumption) | ((with_reducible refine Blk.new ?_); first | rfl | (simp; done)) | (with_reducible refine Blk.later (by assumption) ?_) | (with_reducible refine Blk.alloc ?_) | (with_reducible refine Blk.drewN ?_) | (with_reducible refine Blk.drew ?_) | (with_reducible refine Blk.other ?_ (by first | omega | (simp; done) | (simp; omega))))))
  clear k0 a0 b0
  have k0 := kn0; clear kn0; obtain ⟨a0, b0⟩ := k0.read; have yk0 := k0.lt
  have Rrn := Lib.hid (Rr.out.later (w' := w6) (by (repeat' (first | (with_reducible exact Below.refl _ _) | (with_reducible assumption) | (with_reducible refine belowThru ?_ (by assumption)) | (with_reducible refine belowAlloc ?_) | (with_reducible refine Below.setCell ?_ (by first | omega | (simp; done) | (simp; omega)) _) | (with_reducible refine Below.drew ?_) | (with_reducible refine below_drewN ?_ _))))); clear Rr; have Rr := Rrn; clear Rrn
  have Rcn := Lib.hid (Rc.out.later (w' := w6) (by (repeat' (first | (with_reducible exact Below.refl _ _) | (with_reducible assumption) | (with_reducible refine belowThru ?_ (by assumption)) | (with_reducible refine belowAlloc ?_) | (with_reducible refine Below.setCell ?_ (by first | omega | (simp; done) | (simp; omega)) _) | (with_reducible refine Below.drew ?_) | (with_reducible refine below_drewN ?_ _))))); clear Rc; have Rc := Rcn; clear Rcn
  replace hBw : Below w.heap.size w w6 := belowThru (by (repeat' (first | (with_reducible exact Below.refl _ _) | (with_reducible assumption) | (with_reducible refine belowThru ?_ (by assumption)) | (with_reducible refine belowAlloc ?_) | (with_reducible refine Below.setCell ?_ (by first | omega | (simp; done) | (simp; omega)) _) | (with_reducible refine Below.drew ?_) | (with_reducible refine below_drewN ?_ _)))) hb
  have hzw6 := hBw.size
  clear hb
  have Ri := Lib.hid hN
  clear hN
  have c1 := HC1.out
  go_wp2_with fail
  obtain ⟨Wp, rfl⟩ : ∃ Wp, Wp = w6 := ⟨_, rfl⟩
  clear c1
  have i3 : (0 : Int) ≤ (Hn : Int) := by omega
  go_loop [20, 22] (fun s20 s22 => ∃ k : Nat, k ≤ Hn ∧ s22 = .int .i64 k ∧ s20 = .int .i64 (sumN fR k)) (fun _ s22 => Hn - (intOf s22).toNat)
  case atStart => exact ⟨0, Nat.zero_le _, rfl, rfl⟩
  case round =>
    obtain ⟨k, hk, rfl, rfl⟩ := hrel
    have sb := sR.out k hk
    by_cases hlt : k < Hn
    · obtain ⟨ba, oa, z, rfl, hbl, hz, hc⟩ := Rr.out.int hlt
      obtain ⟨v, hv, hvb, hs⟩ := gR.out k hlt
      obtain rfl : v = z := by rw [hv] at hz; exact Option.some.inj hz
      have HS := Lib.hid hs
      have p0 : (0 : Int) ≤ (k : Int) := by omega
      have p1 : (k : Int) < (Hn : Int) := by omega
      obtain ⟨vb1, vb2⟩ := hvb; obtain ⟨sb1, sb2⟩ := sb
      obtain ⟨S, hS⟩ : ∃ S, sumN fR k = S := ⟨_, rfl⟩
      rw [hS] at sb1 sb2 HS ⊢
      clear hv hz hs hS
      go_wp2
      go_round
      case rel => exact ⟨k + 1, hlt, by go_num, by rw [HS.out]⟩
      case measure => simp [intOf]; omega
    · have he : k = Hn := by omega
      subst he
      rw [HTR.out] at sb ⊢
      obtain ⟨TT, hTT⟩ : ∃ TT, boxN Wn zs 0 0 Wn k = TT := ⟨_, rfl⟩
      rw [hTT] at sb HTC ⊢
      have HTT := Lib.hid hTT
      clear hTT hk hlt
      go_wp2_with fail
      go_loop [21, 23] (fun s21 s23 => ∃ j : Nat, j ≤ Wn ∧ s23 = .int .i64 j ∧ s21 = .int .i64 (sumN fC j)) (fun _ s23 => Wn - (intOf s23).toNat)
      case atStart => exact ⟨0, Nat.zero_le _, rfl, rfl⟩
      case round =>
        obtain ⟨j, hj, rfl, rfl⟩ := hrel
        have sj := sC.out j hj
        by_cases hlt : j < Wn
        · obtain ⟨ba, oa, z, rfl, hbl, hz, hc⟩ := Rc.out.int hlt
          obtain ⟨v, hv, hvb, hs⟩ := gC.out j hlt
          obtain rfl : v = z := by rw [hv] at hz; exact Option.some.inj hz
          have HS := Lib.hid hs
          have p0 : (0 : Int) ≤ (j : Int) := by omega
          have p1 : (j : Int) < (Wn : Int) := by omega
          obtain ⟨vb1, vb2⟩ := hvb; obtain ⟨sj1, sj2⟩ := sj
          obtain ⟨S, hS⟩ : ∃ S, sumN fC j = S := ⟨_, rfl⟩
          rw [hS] at sj1 sj2 HS ⊢
          clear hv hz hs hS
          go_wp2
          go_round
          case rel => exact ⟨j + 1, hlt, by go_num, by rw [HS.out]⟩
          case measure => simp [intOf]; omega
        · have he : j = Wn := by omega
          subst he
          rw [HTC.out]
          obtain ⟨gl, gv⟩ := gI.out j k (Nat.le_refl _) (Nat.le_refl _)
          rw [HTT.out] at gv
          obtain ⟨bl, ol, zl, rfl, hbl, hzl, hcl⟩ := Ri.out.int gl
          obtain rfl : TT = zl := by rw [gv] at hzl; exact Option.some.inj hzl
          have e2 : (j + 1) * (k + 1) = k * (j + 1) + j + 1 := by rw [Nat.mul_add, Nat.mul_one, Nat.mul_comm (j + 1) k]; omega
          have h1 := HMM.out
          rw [e2] at h1
          have el : (M : Int) - 1 = ((k * (j + 1) + j : Nat) : Int) := by omega
          clear h1 e2
          obtain ⟨q, hq⟩ : ∃ q, k * (j + 1) + j = q := ⟨_, rfl⟩
          rw [hq] at el hcl gl
          have ql : (q : Int) < (M : Int) := by omega
          have q0 : (0 : Int) ≤ (q : Int) := by omega
          have M0 : (1 : Int) ≤ (M : Int) := by omega
          clear hzl gv hq hj hlt
          have y0k := k0
          obtain ⟨gA, vA⟩ := gI.out x1n y1n (by omega) (by omega)
          obtain ⟨bA, oA, zA, eA, -, hA, cA⟩ := Ri.out.int gA
          cases eA
          have wA : zA = boxN j zs 0 0 x1n y1n := by rw [vA] at hA; exact (Option.some.inj hA).symm
          have uA := bb.out 0 0 x1n y1n (by omega) (by omega)
          rw [← wA] at uA
          obtain ⟨uA1, uA2⟩ := uA
          obtain ⟨gB, vB⟩ := gI.out x0n y0n (by omega) (by omega)
          obtain ⟨bB, oB, zB, eB, -, hB, cB⟩ := Ri.out.int gB
          cases eB
          have wB : zB = boxN j zs 0 0 x0n y0n := by rw [vB] at hB; exact (Option.some.inj hB).symm
          have uB := bb.out 0 0 x0n y0n (by omega) (by omega)
          rw [← wB] at uB
          obtain ⟨uB1, uB2⟩ := uB
          obtain ⟨gC, vC⟩ := gI.out x1n y0n (by omega) (by omega)
          obtain ⟨bC, oC, zC, eC, -, hC, cC⟩ := Ri.out.int gC
          cases eC
          have wC : zC = boxN j zs 0 0 x1n y0n := by rw [vC] at hC; exact (Option.some.inj hC).symm
          have uC := bb.out 0 0 x1n y0n (by omega) (by omega)
          rw [← wC] at uC
          obtain ⟨uC1, uC2⟩ := uC
          obtain ⟨gD, vD⟩ := gI.out x0n y1n (by omega) (by omega)
          obtain ⟨bD, oD, zD, eD, -, hD, cD⟩ := Ri.out.int gD
          cases eD
          have wD : zD = boxN j zs 0 0 x0n y1n := by rw [vD] at hD; exact (Option.some.inj hD).symm
          have uD := bb.out 0 0 x0n y1n (by omega) (by omega)
          rw [← wD] at uD
          obtain ⟨uD1, uD2⟩ := uD
          have hcx := HCX.out
          rw [← wA, ← wB, ← wC, ← wD] at hcx
          obtain ⟨S, hS⟩ : ∃ S, boxN j zs x0n y0n x1n y1n = S := ⟨_, rfl⟩
          rw [hS] at hcx ⊢
          subst hcx
          clear wA wB wC wD hA hB hC hD vA vB vC vD hS HCX
          obtain ⟨m1, hm1⟩ : ∃ q, y1n * (j + 1) = q := ⟨_, rfl⟩
          have km1 : (y1n : Int) * ((j : Int) + 1) = (m1 : Int) := by rw [← hm1, Int.natCast_mul]; rfl
          obtain ⟨m0, hm0⟩ : ∃ q, y0n * (j + 1) = q := ⟨_, rfl⟩
          have km0 : (y0n : Int) * ((j : Int) + 1) = (m0 : Int) := by rw [← hm0, Int.natCast_mul]; rfl
          rw [hm1] at gA cA gD cD; rw [hm0] at gB cB gC cC
          have HM1 := Lib.hid hm1; have HM0 := Lib.hid hm0; clear hm1 hm0
          obtain ⟨iA, hiA⟩ : ∃ q, m1 + x1n = q := ⟨_, rfl⟩
          rw [hiA] at gA cA
          have jA : (m1 : Int) + (x1n : Int) = (iA : Int) := by omega
          have lA : (iA : Int) < (M : Int) := by omega
          have rA : (0 : Int) ≤ (iA : Int) := by omega
          obtain ⟨iB, hiB⟩ : ∃ q, m0 + x0n = q := ⟨_, rfl⟩
          rw [hiB] at gB cB
          have jB : (m0 : Int) + (x0n : Int) = (iB : Int) := by omega
          have lB : (iB : Int) < (M : Int) := by omega
          have rB : (0 : Int) ≤ (iB : Int) := by omega
          obtain ⟨iC, hiC⟩ : ∃ q, m0 + x1n = q := ⟨_, rfl⟩
          rw [hiC] at gC cC
          have jC : (m0 : Int) + (x1n : Int) = (iC : Int) := by omega
          have lC : (iC : Int) < (M : Int) := by omega
          have rC : (0 : Int) ≤ (iC : Int) := by omega
          obtain ⟨iD, hiD⟩ : ∃ q, m1 + x0n = q := ⟨_, rfl⟩
          rw [hiD] at gD cD
          have jD : (m1 : Int) + (x0n : Int) = (iD : Int) := by omega
          have lD : (iD : Int) < (M : Int) := by omega
          have rD : (0 : Int) ≤ (iD : Int) := by omega
          clear hiA hiB hiC hiD
          go_wp2_with fail
          go_quiet (fail)
          go_wp2
          go_ret
          exact ⟨rfl, by (repeat' (first | (with_reducible exact Below.refl _ _) | (with_reducible assumption) | (with_reducible refine belowThru ?_ (by assumption)) | (with_reducible refine belowAlloc ?_) | (with_reducible refine Below.setCell ?_ (by first | omega | (simp; done) | (simp; omega)) _) | (with_reducible refine Below.drew ?_) | (with_reducible refine below_drewN ?_ _)))⟩
set_option maxRecDepth 100000 in
set_option maxHeartbeats 2000000 in
theorem totals_arg (W H x0 y0 x1 y1 : Int) (a : Option Addr) (n c : Nat) (zs : List Int) (hn : n ≤ maxLen) (w : World) (hR : Row w a n (iv zs)) (hI : okI W H zs) (hB : ¬ okB W H x0 y0 x1 y1) :
    Calls Try.prog 11 #[.agg #[.int .i64 W, .int .i64 H, .slice a n c], .int .i64 x0, .int .i64 y0, .int .i64 x1, .int .i64 y1] w fun e w' => e = .returned (.bool true) ∧ Below w.heap.size w w' := by
  have hc : x0 < 0 ∨ (¬ x0 < 0 ∧ x1 < x0) ∨ (¬ x0 < 0 ∧ ¬ x1 < x0 ∧ W < x1) ∨ (¬ x0 < 0 ∧ ¬ x1 < x0 ∧ ¬ W < x1 ∧ y0 < 0) ∨ (¬ x0 < 0 ∧ ¬ x1 < x0 ∧ ¬ W < x1 ∧ ¬ y0 < 0 ∧ y1 < y0) ∨ (¬ x0 < 0 ∧ ¬ x1 < x0 ∧ ¬ W < x1 ∧ ¬ y0 < 0 ∧ ¬ y1 < y0 ∧ H < y1) := by unfold okB at hB; omega
  have HBB := Lib.hid hB
  clear hB
  obtain ⟨Wn, Hn, rfl, rfl, W16, H16, W0, H0, hlen⟩ := sides_nat hI
  obtain ⟨LR, hLR⟩ : ∃ L, ((List.range Hn).map fun k => boxN Wn zs 0 k Wn (k + 1)) = L := ⟨_, rfl⟩
  obtain ⟨LC, hLC⟩ : ∃ L, ((List.range Wn).map fun k => boxN Wn zs k 0 (k + 1) Hn) = L := ⟨_, rfl⟩
  obtain ⟨LI, hLI⟩ : ∃ L, ((List.range ((Wn + 1) * (Hn + 1))).map fun q => boxN Wn zs 0 0 (q % (Wn + 1)) (q / (Wn + 1))) = L := ⟨_, rfl⟩
  obtain ⟨M, hM⟩ : ∃ M, (Wn + 1) * (Hn + 1) = M := ⟨_, rfl⟩
  have CLR : Hid (∀ w, Row w a n (iv zs) → Calls Try.prog 28 #[.agg #[.int .i64 (Wn : Int), .int .i64 (Hn : Int), .slice a n c]] w fun e w' => ∃ (v : Option Addr) (d : Nat), e = .returned (.tuple #[.slice v Hn d, .int .i64 0]) ∧ Row w' v Hn (iv LR) ∧ Below w.heap.size w w') := fun w hR => by
    have q := irows_ok (Wn : Int) (Hn : Int) Wn Hn rfl rfl a n c zs hI hn w hR
    rw [hLR] at q
    unfold RetL at q
    rwa [show LR.length = Hn by rw [← hLR, List.length_map, List.length_range]] at q
  have CLC : Hid (∀ w, Row w a n (iv zs) → Calls Try.prog 29 #[.agg #[.int .i64 (Wn : Int), .int .i64 (Hn : Int), .slice a n c]] w fun e w' => ∃ (v : Option Addr) (d : Nat), e = .returned (.tuple #[.slice v Wn d, .int .i64 0]) ∧ Row w' v Wn (iv LC) ∧ Below w.heap.size w w') := fun w hR => by
    have q := icols_ok (Wn : Int) (Hn : Int) Wn Hn rfl rfl a n c zs hI hn w hR
    rw [hLC] at q
    unfold RetL at q
    rwa [show LC.length = Wn by rw [← hLC, List.length_map, List.length_range]] at q
  have CLI : Hid (∀ w, Row w a n (iv zs) → Calls Try.prog 30 #[.agg #[.int .i64 (Wn : Int), .int .i64 (Hn : Int), .slice a n c]] w fun e w' => ∃ (v : Option Addr) (d : Nat), e = .returned (.tuple #[.slice v M d, .int .i64 0]) ∧ Row w' v M (iv LI) ∧ Below w.heap.size w w') := fun w hR => by
    have q := iinteg_ok (Wn : Int) (Hn : Int) Wn Hn rfl rfl a n c zs hI hn w hR
    rw [hLI] at q
    unfold RetL at q
    rwa [show LI.length = M by rw [← hLI, List.length_map, List.length_range]; exact hM] at q
  have bv := hI.2.2
  have bb : Hid (∀ p q r s : Nat, r ≤ 16 → s ≤ 16 → -549755813888 ≤ boxN Wn zs p q r s ∧ boxN Wn zs p q r s ≤ 549755813888) := fun p q r s h1 h2 => box_bd31 bv p q r s h1 h2
  have gR : Hid (∀ k, k < Hn → ∃ v, LR[k]? = some v ∧ (-549755813888 ≤ v ∧ v ≤ 549755813888) ∧ sumN (fun k => boxN Wn zs 0 k Wn (k + 1)) (k + 1) = sumN (fun k => boxN Wn zs 0 k Wn (k + 1)) k + v) := fun k hk => ⟨boxN Wn zs 0 k Wn (k + 1), by rw [← hLR, List.getElem?_map, List.getElem?_range hk]; rfl, bb.out _ _ _ _ W16 (by omega), rfl⟩
  have gC : Hid (∀ k, k < Wn → ∃ v, LC[k]? = some v ∧ (-549755813888 ≤ v ∧ v ≤ 549755813888) ∧ sumN (fun k => boxN Wn zs k 0 (k + 1) Hn) (k + 1) = sumN (fun k => boxN Wn zs k 0 (k + 1) Hn) k + v) := fun k hk => ⟨boxN Wn zs k 0 (k + 1) Hn, by rw [← hLC, List.getElem?_map, List.getElem?_range hk]; rfl, bb.out _ _ _ _ (by omega) H16, rfl⟩
  have sR : Hid (∀ k, k ≤ Hn → -8796093022208 ≤ sumN (fun k => boxN Wn zs 0 k Wn (k + 1)) k ∧ sumN (fun k => boxN Wn zs 0 k Wn (k + 1)) k ≤ 8796093022208) := fun k hk => by have := sumN_bd (f := fun k => boxN Wn zs 0 k Wn (k + 1)) (n := k) (B := 549755813888) (fun i hi => bb.out _ _ _ _ W16 (by omega)); omega
  have sC : Hid (∀ k, k ≤ Wn → -8796093022208 ≤ sumN (fun k => boxN Wn zs k 0 (k + 1) Hn) k ∧ sumN (fun k => boxN Wn zs k 0 (k + 1) Hn) k ≤ 8796093022208) := fun k hk => by have := sumN_bd (f := fun k => boxN Wn zs k 0 (k + 1) Hn) (n := k) (B := 549755813888) (fun i hi => bb.out _ _ _ _ (by omega) H16); omega
  have gI : Hid (∀ i j : Nat, i ≤ Wn → j ≤ Hn → j * (Wn + 1) + i < M ∧ LI[j * (Wn + 1) + i]? = some (boxN Wn zs 0 0 i j)) := fun i j hi hj => by
    have hlt : j * (Wn + 1) + i < (Wn + 1) * (Hn + 1) := by have := Nat.mul_le_mul_left (Wn + 1) hj; rw [Nat.mul_comm j, Nat.mul_add (Wn + 1) Hn 1]; omega
    obtain ⟨d1, d2⟩ := boxes_nat (W := Wn) (y1 := j) hi
    refine ⟨by omega, ?_⟩
    rw [← hLI, List.getElem?_map, List.getElem?_range hlt, Option.map_some, d1, d2]
  have tR := rows_total Wn Hn zs; have tC := cols_total Wn Hn zs
  obtain ⟨fR, hfR⟩ : ∃ f, (fun k => boxN Wn zs 0 k Wn (k + 1)) = f := ⟨_, rfl⟩
  obtain ⟨fC, hfC⟩ : ∃ f, (fun k => boxN Wn zs k 0 (k + 1) Hn) = f := ⟨_, rfl⟩
  rw [hfR] at gR sR tR; rw [hfC] at gC sC tC
  have HTR := Lib.hid tR; have HTC := Lib.hid tC; have HMM := Lib.hid hM
  have HI := Lib.hid hI; have HN := Lib.hid hn
  have c1 : ((Wn : Int) + 1) * ((Hn : Int) + 1) = (M : Int) := by rw [← hM, Int.natCast_mul]; rfl
  have m0 : M ≤ 289 := by have := Nat.mul_le_mul (show Wn + 1 ≤ 17 by omega) (show Hn + 1 ≤ 17 by omega); omega
  have HC1 := Lib.hid c1
  clear hLR hLC hLI hM hfR hfC tR tC hI hn bv hlen c1
  have HR := Lib.hid hR
  clear hR
  rcases hc with h1 | ⟨h1, h2⟩ | ⟨h1, h2, h3⟩ | ⟨h1, h2, h3, h4⟩ | ⟨h1, h2, h3, h4, h5⟩ | ⟨h1, h2, h3, h4, h5, h6⟩
  all_goals
    go_enter Try.func11, Try.ntmps11
    go_wp2_with fail
    refine (alive_true _).mono ?_
    rintro e w1 ⟨rfl, hb⟩
    have kn0 : Blk w1 (w.heap.size) #[.int .i64 (Wn : Int), .int .i64 (Hn : Int), .slice a n c] 24 := Blk.later hb (by first | ((repeat' (first | (with_reducible assumption) | ((with_reducible refine Blk.new ?_); first | rfl | (simp; done)) | (with_reducible refine Blk.later (by assumption) ?_) | (with_reducible refine Blk.alloc ?_) | (with_reducible refine Blk.drewN ?_) | (with_reducible refine Blk.drew ?_) | (with_reducible refine Blk.other ?_ (by first | omega | (simp; done) | (simp; omega))))); done) | exact Blk.alloc (Blk.new (by simp)) | exact Blk.set (Blk.set (Blk.set (by (repeat' (first | (with_reducible assumption) | ((with_reducible refine Blk.new ?_); first | rfl | (simp; done)) | (with_reducible refine Blk.later (by assumption) ?_) | (with_reducible refine Blk.alloc ?_) | (with_reducible refine Blk.drewN ?_) | (with_reducible refine Blk.drew ?_) | (with_reducible refine Blk.other ?_ (by first | omega | (simp; done) | (simp; omega)))))))) | exact Blk.alloc (Blk.set (Blk.set (Blk.set (by (repeat' (first | (with_reducible assumption) | ((with_reducible refine Blk.new ?_); first | rfl | (simp; done)) | (with_reducible refine Blk.later (by assumption) ?_) | (with_reducible refine Blk.alloc ?_) | (with_reducible refine Blk.drewN ?_) | (with_reducible refine Blk.drew ?_) | (with_reducible refine Blk.other ?_ (by first | omega | (simp; done) | (simp; omega))))))))))
    have k0 := kn0; clear kn0; obtain ⟨a0, b0⟩ := k0.read; have yk0 := k0.lt
    have hBw : Below w.heap.size w w1 := by (repeat' (first | (with_reducible exact Below.refl _ _) | (with_reducible assumption) | (with_reducible refine belowThru ?_ (by assumption)) | (with_reducible refine belowAlloc ?_) | (with_reducible refine Below.setCell ?_ (by first | omega | (simp; done) | (simp; omega)) _) | (with_reducible refine Below.drew ?_) | (with_reducible refine below_drewN ?_ _)))
    have hzw1 := hBw.size
    clear hb
    go_wp2_with fail
    refine (ibox_arg (Wn : Int) (Hn : Int) x0 y0 x1 y1 a n c zs HI.out HBB.out HN.out _ (HR.out.later (by (repeat' (first | (with_reducible exact Below.refl _ _) | (with_reducible assumption) | (with_reducible refine belowThru ?_ (by assumption)) | (with_reducible refine belowAlloc ?_) | (with_reducible refine Below.setCell ?_ (by first | omega | (simp; done) | (simp; omega)) _) | (with_reducible refine Below.drew ?_) | (with_reducible refine below_drewN ?_ _)))))).mono ?_
    rintro e w2 ⟨rfl, hb⟩
    have kn0 : Blk w2 (w.heap.size) #[.int .i64 (Wn : Int), .int .i64 (Hn : Int), .slice a n c] 24 := Blk.later hb (by (repeat' (first | (with_reducible assumption) | ((with_reducible refine Blk.new ?_); first | rfl | (simp; done)) | (with_reducible refine Blk.later (by assumption) ?_) | (with_reducible refine Blk.alloc ?_) | (with_reducible refine Blk.drewN ?_) | (with_reducible refine Blk.drew ?_) | (with_reducible refine Blk.other ?_ (by first | omega | (simp; done) | (simp; omega))))))
    clear k0 a0 b0
    have k0 := kn0; clear kn0; obtain ⟨a0, b0⟩ := k0.read; have yk0 := k0.lt
    replace hBw : Below w.heap.size w w2 := belowThru (by (repeat' (first | (with_reducible exact Below.refl _ _) | (with_reducible assumption) | (with_reducible refine belowThru ?_ (by assumption)) | (with_reducible refine belowAlloc ?_) | (with_reducible refine Below.setCell ?_ (by first | omega | (simp; done) | (simp; omega)) _) | (with_reducible refine Below.drew ?_) | (with_reducible refine below_drewN ?_ _)))) hb
    have hzw2 := hBw.size
    clear hb
    go_wp2_with fail
    refine (rvalid_ok HI.out a n c HN.out _ (HR.out.later (by (repeat' (first | (with_reducible exact Below.refl _ _) | (with_reducible assumption) | (with_reducible refine belowThru ?_ (by assumption)) | (with_reducible refine belowAlloc ?_) | (with_reducible refine Below.setCell ?_ (by first | omega | (simp; done) | (simp; omega)) _) | (with_reducible refine Below.drew ?_) | (with_reducible refine below_drewN ?_ _)))))).mono ?_
    rintro e w3 ⟨rfl, hb⟩
    have kn0 : Blk w3 (w.heap.size) #[.int .i64 (Wn : Int), .int .i64 (Hn : Int), .slice a n c] 24 := Blk.later hb (by (repeat' (first | (with_reducible assumption) | ((with_reducible refine Blk.new ?_); first | rfl | (simp; done)) | (with_reducible refine Blk.later (by assumption) ?_) | (with_reducible refine Blk.alloc ?_) | (with_reducible refine Blk.drewN ?_) | (with_reducible refine Blk.drew ?_) | (with_reducible refine Blk.other ?_ (by first | omega | (simp; done) | (simp; omega))))))
    clear k0 a0 b0
    have k0 := kn0; clear kn0; obtain ⟨a0, b0⟩ := k0.read; have yk0 := k0.lt
    replace hBw : Below w.heap.size w w3 := belowThru (by (repeat' (first | (with_reducible exact Below.refl _ _) | (with_reducible assumption) | (with_reducible refine belowThru ?_ (by assumption)) | (with_reducible refine belowAlloc ?_) | (with_reducible refine Below.setCell ?_ (by first | omega | (simp; done) | (simp; omega)) _) | (with_reducible refine Below.drew ?_) | (with_reducible refine below_drewN ?_ _)))) hb
    have hzw3 := hBw.size
    clear hb
    go_wp2_with fail
    refine (CLR.out _ (HR.out.later (by (repeat' (first | (with_reducible exact Below.refl _ _) | (with_reducible assumption) | (with_reducible refine belowThru ?_ (by assumption)) | (with_reducible refine belowAlloc ?_) | (with_reducible refine Below.setCell ?_ (by first | omega | (simp; done) | (simp; omega)) _) | (with_reducible refine Below.drew ?_) | (with_reducible refine below_drewN ?_ _)))))).mono ?_
    rintro e w4 ⟨vr, dr, rfl, hN, hb⟩
    have kn0 : Blk w4 (w.heap.size) #[.int .i64 (Wn : Int), .int .i64 (Hn : Int), .slice a n c] 24 := Blk.later hb (by (repeat' (first | (with_reducible assumption) | ((with_reducible refine Blk.new ?_); first | rfl | (simp; done)) | (with_reducible refine Blk.later (by assumption) ?_) | (with_reducible refine Blk.alloc ?_) | (with_reducible refine Blk.drewN ?_) | (with_reducible refine Blk.drew ?_) | (with_reducible refine Blk.other ?_ (by first | omega | (simp; done) | (simp; omega))))))
    clear k0 a0 b0
    have k0 := kn0; clear kn0; obtain ⟨a0, b0⟩ := k0.read; have yk0 := k0.lt
    replace hBw : Below w.heap.size w w4 := belowThru (by (repeat' (first | (with_reducible exact Below.refl _ _) | (with_reducible assumption) | (with_reducible refine belowThru ?_ (by assumption)) | (with_reducible refine belowAlloc ?_) | (with_reducible refine Below.setCell ?_ (by first | omega | (simp; done) | (simp; omega)) _) | (with_reducible refine Below.drew ?_) | (with_reducible refine below_drewN ?_ _)))) hb
    have hzw4 := hBw.size
    clear hb
    have Rr := Lib.hid hN
    clear hN
    go_wp2_with fail
    refine (CLC.out _ (HR.out.later (by (repeat' (first | (with_reducible exact Below.refl _ _) | (with_reducible assumption) | (with_reducible refine belowThru ?_ (by assumption)) | (with_reducible refine belowAlloc ?_) | (with_reducible refine Below.setCell ?_ (by first | omega | (simp; done) | (simp; omega)) _) | (with_reducible refine Below.drew ?_) | (with_reducible refine below_drewN ?_ _)))))).mono ?_
    rintro e w5 ⟨vc, dc, rfl, hN, hb⟩
    have kn0 : Blk w5 (w.heap.size) #[.int .i64 (Wn : Int), .int .i64 (Hn : Int), .slice a n c] 24 := Blk.later hb (by (repeat' (first | (with_reducible assumption) | ((with_reducible refine Blk.new ?_); first | rfl | (simp; done)) | (with_reducible refine Blk.later (by assumption) ?_) | (with_reducible refine Blk.alloc ?_) | (with_reducible refine Blk.drewN ?_) | (with_reducible refine Blk.drew ?_) | (with_reducible refine Blk.other ?_ (by first | omega | (simp; done) | (simp; omega))))))
    clear k0 a0 b0
    have k0 := kn0; clear kn0; obtain ⟨a0, b0⟩ := k0.read; have yk0 := k0.lt
    have Rrn := Lib.hid (Rr.out.later (w' := w5) (by (repeat' (first | (with_reducible exact Below.refl _ _) | (with_reducible assumption) | (with_reducible refine belowThru ?_ (by assumption)) | (with_reducible refine belowAlloc ?_) | (with_reducible refine Below.setCell ?_ (by first | omega | (simp; done) | (simp; omega)) _) | (with_reducible refine Below.drew ?_) | (with_reducible refine below_drewN ?_ _))))); clear Rr; have Rr := Rrn; clear Rrn
    replace hBw : Below w.heap.size w w5 := belowThru (by (repeat' (first | (with_reducible exact Below.refl _ _) | (with_reducible assumption) | (with_reducible refine belowThru ?_ (by assumption)) | (with_reducible refine belowAlloc ?_) | (with_reducible refine Below.setCell ?_ (by first | omega | (simp; done) | (simp; omega)) _) | (with_reducible refine Below.drew ?_) | (with_reducible refine below_drewN ?_ _)))) hb
    have hzw5 := hBw.size
    clear hb
    have Rc := Lib.hid hN
    clear hN
    go_wp2_with fail
    refine (CLI.out _ (HR.out.later (by (repeat' (first | (with_reducible exact Below.refl _ _) | (with_reducible assumption) | (with_reducible refine belowThru ?_ (by assumption)) | (with_reducible refine belowAlloc ?_) | (with_reducible refine Below.setCell ?_ (by first | omega | (simp; done) | (simp; omega)) _) | (with_reducible refine Below.drew ?_) | (with_reducible refine below_drewN ?_ _)))))).mono ?_
    rintro e w6 ⟨vi, di, rfl, hN, hb⟩
    have kn0 : Blk w6 (w.heap.size) #[.int .i64 (Wn : Int), .int .i64 (Hn : Int), .slice a n c] 24 := Blk.later hb (by (repeat' (first | (with_reducible assumption) | ((with_reducible refine Blk.new ?_); first | rfl | (simp; done)) | (with_reducible refine Blk.later (by assumption) ?_) | (with_reducible refine Blk.alloc ?_) | (with_reducible refine Blk.drewN ?_) | (with_reducible refine Blk.drew ?_) | (with_reducible refine Blk.other ?_ (by first | omega | (simp; done) | (simp; omega))))))
    clear k0 a0 b0
    have k0 := kn0; clear kn0; obtain ⟨a0, b0⟩ := k0.read; have yk0 := k0.lt
    have Rrn := Lib.hid (Rr.out.later (w' := w6) (by (repeat' (first | (with_reducible exact Below.refl _ _) | (with_reducible assumption) | (with_reducible refine belowThru ?_ (by assumption)) | (with_reducible refine belowAlloc ?_) | (with_reducible refine Below.setCell ?_ (by first | omega | (simp; done) | (simp; omega)) _) | (with_reducible refine Below.drew ?_) | (with_reducible refine below_drewN ?_ _))))); clear Rr; have Rr := Rrn; clear Rrn
    have Rcn := Lib.hid (Rc.out.later (w' := w6) (by (repeat' (first | (with_reducible exact Below.refl _ _) | (with_reducible assumption) | (with_reducible refine belowThru ?_ (by assumption)) | (with_reducible refine belowAlloc ?_) | (with_reducible refine Below.setCell ?_ (by first | omega | (simp; done) | (simp; omega)) _) | (with_reducible refine Below.drew ?_) | (with_reducible refine below_drewN ?_ _))))); clear Rc; have Rc := Rcn; clear Rcn
    replace hBw : Below w.heap.size w w6 := belowThru (by (repeat' (first | (with_reducible exact Below.refl _ _) | (with_reducible assumption) | (with_reducible refine belowThru ?_ (by assumption)) | (with_reducible refine belowAlloc ?_) | (with_reducible refine Below.setCell ?_ (by first | omega | (simp; done) | (simp; omega)) _) | (with_reducible refine Below.drew ?_) | (with_reducible refine below_drewN ?_ _)))) hb
    have hzw6 := hBw.size
    clear hb
    have Ri := Lib.hid hN
    clear hN
    have c1 := HC1.out
    go_wp2_with fail
    obtain ⟨Wp, rfl⟩ : ∃ Wp, Wp = w6 := ⟨_, rfl⟩
    clear c1
    have i3 : (0 : Int) ≤ (Hn : Int) := by omega
    go_loop [20, 22] (fun s20 s22 => ∃ k : Nat, k ≤ Hn ∧ s22 = .int .i64 k ∧ s20 = .int .i64 (sumN fR k)) (fun _ s22 => Hn - (intOf s22).toNat)
    case atStart => exact ⟨0, Nat.zero_le _, rfl, rfl⟩
    case round =>
      obtain ⟨k, hk, rfl, rfl⟩ := hrel
      have sb := sR.out k hk
      by_cases hlt : k < Hn
      · obtain ⟨ba, oa, z, rfl, hbl, hz, hc⟩ := Rr.out.int hlt
        obtain ⟨v, hv, hvb, hs⟩ := gR.out k hlt
        obtain rfl : v = z := by rw [hv] at hz; exact Option.some.inj hz
        have HS := Lib.hid hs
        have p0 : (0 : Int) ≤ (k : Int) := by omega
        have p1 : (k : Int) < (Hn : Int) := by omega
        obtain ⟨vb1, vb2⟩ := hvb; obtain ⟨sb1, sb2⟩ := sb
        obtain ⟨S, hS⟩ : ∃ S, sumN fR k = S := ⟨_, rfl⟩
        rw [hS] at sb1 sb2 HS ⊢
        clear hv hz hs hS
        go_wp2
        go_round
        case rel => exact ⟨k + 1, hlt, by go_num, by rw [HS.out]⟩
        case measure => simp [intOf]; omega
      · have he : k = Hn := by omega
        subst he
        rw [HTR.out] at sb ⊢
        obtain ⟨TT, hTT⟩ : ∃ TT, boxN Wn zs 0 0 Wn k = TT := ⟨_, rfl⟩
        rw [hTT] at sb HTC ⊢
        have HTT := Lib.hid hTT
        clear hTT hk hlt
        go_wp2_with fail
        go_loop [21, 23] (fun s21 s23 => ∃ j : Nat, j ≤ Wn ∧ s23 = .int .i64 j ∧ s21 = .int .i64 (sumN fC j)) (fun _ s23 => Wn - (intOf s23).toNat)
        case atStart => exact ⟨0, Nat.zero_le _, rfl, rfl⟩
        case round =>
          obtain ⟨j, hj, rfl, rfl⟩ := hrel
          have sj := sC.out j hj
          by_cases hlt : j < Wn
          · obtain ⟨ba, oa, z, rfl, hbl, hz, hc⟩ := Rc.out.int hlt
            obtain ⟨v, hv, hvb, hs⟩ := gC.out j hlt
            obtain rfl : v = z := by rw [hv] at hz; exact Option.some.inj hz
            have HS := Lib.hid hs
            have p0 : (0 : Int) ≤ (j : Int) := by omega
            have p1 : (j : Int) < (Wn : Int) := by omega
            obtain ⟨vb1, vb2⟩ := hvb; obtain ⟨sj1, sj2⟩ := sj
            obtain ⟨S, hS⟩ : ∃ S, sumN fC j = S := ⟨_, rfl⟩
            rw [hS] at sj1 sj2 HS ⊢
            clear hv hz hs hS
            go_wp2
            go_round
            case rel => exact ⟨j + 1, hlt, by go_num, by rw [HS.out]⟩
            case measure => simp [intOf]; omega
          · have he : j = Wn := by omega
            subst he
            rw [HTC.out]
            obtain ⟨gl, gv⟩ := gI.out j k (Nat.le_refl _) (Nat.le_refl _)
            rw [HTT.out] at gv
            obtain ⟨bl, ol, zl, rfl, hbl, hzl, hcl⟩ := Ri.out.int gl
            obtain rfl : TT = zl := by rw [gv] at hzl; exact Option.some.inj hzl
            have e2 : (j + 1) * (k + 1) = k * (j + 1) + j + 1 := by rw [Nat.mul_add, Nat.mul_one, Nat.mul_comm (j + 1) k]; omega
            have h1 := HMM.out
            rw [e2] at h1
            have el : (M : Int) - 1 = ((k * (j + 1) + j : Nat) : Int) := by omega
            clear h1 e2
            obtain ⟨q, hq⟩ : ∃ q, k * (j + 1) + j = q := ⟨_, rfl⟩
            rw [hq] at el hcl gl
            have ql : (q : Int) < (M : Int) := by omega
            have q0 : (0 : Int) ≤ (q : Int) := by omega
            have M0 : (1 : Int) ≤ (M : Int) := by omega
            clear hzl gv hq hj hlt
            have y0k := k0
            go_wp2
            go_ret
            exact ⟨rfl, by (repeat' (first | (with_reducible exact Below.refl _ _) | (with_reducible assumption) | (with_reducible refine belowThru ?_ (by assumption)) | (with_reducible refine belowAlloc ?_) | (with_reducible refine Below.setCell ?_ (by first | omega | (simp; done) | (simp; omega)) _) | (with_reducible refine Below.drew ?_) | (with_reducible refine below_drewN ?_ _)))⟩
theorem totals_true (W H x0 y0 x1 y1 : Int) (a : Option Addr) (n c : Nat) (zs : List Int) (hn : n ≤ maxLen) (w : World) (hR : Row w a n (iv zs)) :
    Calls Try.prog 11 #[.agg #[.int .i64 W, .int .i64 H, .slice a n c], .int .i64 x0, .int .i64 y0, .int .i64 x1, .int .i64 y1] w fun e w' => e = .returned (.bool true) ∧ Below w.heap.size w w' := by
  by_cases hI : okI W H zs
  · by_cases hB : okB W H x0 y0 x1 y1
    · exact totals_yes W H x0 y0 x1 y1 a n c zs hn w hR hI hB
    · exact totals_arg W H x0 y0 x1 y1 a n c zs hn w hR hI hB
  · exact totals_no W H x0 y0 x1 y1 a n c zs hn w hR hI
end Go.Proofs.Ytghmjdmiaajbnaa
