/-
  Layer 2: the document's own dilated and eroded images.
-/
import Derived.Test.YtefphhhmibnjiaaIShape
import Derived.Test.YtefphhhmibnjiaaIRefF
namespace Go.Proofs.Ytefphhhmibnjiaa
open Go.RowKit
set_option linter.unusedVariables false
set_option linter.unusedSimpArgs false

/-- What the first cells of a shape make of a pixel. -/
def exD (W H : Int) (zs : List Int) (SW SH : Int) (bs : List Bool) (x y : Int) : Nat → Int
  | 0 => -2147483648
  | k + 1 => if bs[k]?.getD false = true ∧ inP W H (x - ((k : Int) % SW - SW / 2)) (y - ((k : Int) / SW - SH / 2)) then (if (exD W H zs SW SH bs x y k) < pixAt W zs (x - ((k : Int) % SW - SW / 2)) (y - ((k : Int) / SW - SH / 2)) then pixAt W zs (x - ((k : Int) % SW - SW / 2)) (y - ((k : Int) / SW - SH / 2)) else (exD W H zs SW SH bs x y k)) else exD W H zs SW SH bs x y k

set_option maxRecDepth 100000 in
set_option maxHeartbeats 4000000 in
theorem rdilated_any (W H SW SH x y : Int) (a a' : Option Addr) (n c m c' : Nat) (zs : List Int) (bs : List Bool) (hI : okI W H zs) (hS : okSh SW SH bs) (x0 : 0 ≤ x) (x1 : x ≤ 64) (y0 : 0 ≤ y) (y1 : y ≤ 64) (w : World) (hR : Row w a n (iv zs)) (hT : Row w a' m (bv bs)) :
    Calls Try.prog 104 #[.agg #[.int .i64 W, .int .i64 H, .slice a n c], .agg #[.int .i64 SW, .int .i64 SH, .slice a' m c'], .int .i64 x, .int .i64 y] w fun e w' => e = .returned (.int .i64 (exD W H zs SW SH bs x y m)) ∧ Below w.heap.size w w' := by
  have hm : bs.length = m := by have := hT.1; rwa [bv_length] at this
  have hm2 : m ≤ 25 := by have := okK_mul hS.1.1 hS.1.2; have := hS.2.1; omega
  obtain ⟨V, hV⟩ : ∃ V : Nat → Int, V = exD W H zs SW SH bs x y := ⟨_, rfl⟩
  have hV0 : V 0 = -2147483648 := by rw [hV]; rfl
  have HY : Hid (∀ k : Nat, bs[k]? = some true → inP W H (x - ((k : Int) % SW - SW / 2)) (y - ((k : Int) / SW - SH / 2)) → (if V k < pixAt W zs (x - ((k : Int) % SW - SW / 2)) (y - ((k : Int) / SW - SH / 2)) then pixAt W zs (x - ((k : Int) % SW - SW / 2)) (y - ((k : Int) / SW - SH / 2)) else V k) = V (k + 1)) := fun k h1 h2 => by
    rw [hV]; exact (if_pos ⟨by rw [h1]; rfl, h2⟩).symm
  have HN : Hid (∀ k : Nat, (bs[k]? = some false ∨ ¬ inP W H (x - ((k : Int) % SW - SW / 2)) (y - ((k : Int) / SW - SH / 2))) → V k = V (k + 1)) := fun k h => by
    rw [hV]; exact (if_neg (fun ⟨h1, h2⟩ => h.elim (fun e => by rw [e] at h1; cases h1) (fun e => e h2))).symm
  rw [← hV]
  have HV0 := Lib.hid hV0
  have HI := Lib.hid hI
  have HR := Lib.hid hR
  have HT := Lib.hid hT
  have HW := Lib.hid hI.1
  have hSW : 1 ≤ SW ∧ SW ≤ 5 := by have := hS.1.1; unfold okK at this; omega
  have hSH : 1 ≤ SH ∧ SH ≤ 5 := by have := hS.1.2; unfold okK at this; omega
  obtain ⟨sw0, sw1⟩ := hSW
  obtain ⟨sh0, sh1⟩ := hSH
  have hne : ¬ SW = 0 := by omega
  clear hR hT hI hS hm hV hV0
  go_enter Try.func104, Try.ntmps104
  go_wp2_with fail
  go_loopw [9, 10] (fun o i wr => ∃ k : Nat, k ≤ m ∧ i = .int .i64 k ∧ o = .int .i64 (V k) ∧ (Blk wr w.heap.size #[.int .i64 W, .int .i64 H, .slice a n c] 24 ∧ Blk wr (w.heap.size + 1) #[.int .i64 SW, .int .i64 SH, .slice a' m c'] 43) ∧ Below w.heap.size w wr) (fun _ i _ => m - (intOf i).toNat)
  case atStart => exact ⟨0, Nat.zero_le _, rfl, by rw [HV0.out], ⟨by (repeat' (first | (with_reducible assumption) | ((with_reducible refine Blk.new ?_); first | rfl | (simp; done)) | (with_reducible refine Blk.later (by assumption) ?_) | (with_reducible refine Blk.alloc ?_) | (with_reducible refine Blk.drewN ?_) | (with_reducible refine Blk.drew ?_) | (with_reducible refine Blk.other ?_ (by first | omega | (simp; done) | (simp; omega))))), by (repeat' (first | (with_reducible assumption) | ((with_reducible refine Blk.new ?_); first | rfl | (simp; done)) | (with_reducible refine Blk.later (by assumption) ?_) | (with_reducible refine Blk.alloc ?_) | (with_reducible refine Blk.drewN ?_) | (with_reducible refine Blk.drew ?_) | (with_reducible refine Blk.other ?_ (by first | omega | (simp; done) | (simp; omega)))))⟩, by (repeat' (first | (with_reducible exact Below.refl _ _) | (with_reducible assumption) | (with_reducible refine belowThru ?_ (by assumption)) | (with_reducible refine belowAlloc ?_) | (with_reducible refine Below.setCell ?_ (by first | omega | (simp; done) | (simp; omega)) _) | (with_reducible refine Below.drew ?_) | (with_reducible refine below_drewN ?_ _)))⟩
  case round =>
    obtain ⟨k, hk, rfl, rfl, ⟨k0, k1⟩, hB⟩ := hrel
    obtain ⟨a0, b0⟩ := k0.read; obtain ⟨a1, b1⟩ := k1.read
    have z0 := k0.lt; have z1 := k1.lt
    by_cases hlt : k < m
    · obtain ⟨v1, v2, v3, v4, v5, v6⟩ := small_div k SW sw0 (by omega)
      have v7 : IntKind.i64.wrap (SW / 2) = SW / 2 := IntWalk.i64_in _ (by omega)
      have v8 : IntKind.i64.wrap (SH / 2) = SH / 2 := IntWalk.i64_in _ (by omega)
      have v9 : IntKind.i64.wrap ((k : Int) % SW - SW / 2) = (k : Int) % SW - SW / 2 := IntWalk.i64_in _ (by omega)
      have va : IntKind.i64.wrap ((k : Int) / SW - SH / 2) = (k : Int) / SW - SH / 2 := IntWalk.i64_in _ (by omega)
      have vb : IntKind.i64.wrap (x - ((k : Int) % SW - SW / 2)) = (x - ((k : Int) % SW - SW / 2)) := IntWalk.i64_in _ (by omega)
      have vc : IntKind.i64.wrap (y - ((k : Int) / SW - SH / 2)) = (y - ((k : Int) / SW - SH / 2)) := IntWalk.i64_in _ (by omega)
      have p0 : (0 : Int) ≤ (k : Int) := by omega
      have p1 : (k : Int) < (m : Int) := by omega
      obtain ⟨b2, off, z, rfl, -, hz, hc⟩ := (HT.out.later hB).bool hlt
      go_upto_region 5 with fail
      go_quiet (fail)
      cases z
      · have HE := Lib.hid (HN.out k (.inl hz))
        clear hz
        go_wp2_with fail
        go_roundw
        case rel => exact ⟨k + 1, hlt, by go_num, by rw [HE.out], ⟨by (repeat' (first | (with_reducible assumption) | ((with_reducible refine Blk.new ?_); first | rfl | (simp; done)) | (with_reducible refine Blk.later (by assumption) ?_) | (with_reducible refine Blk.alloc ?_) | (with_reducible refine Blk.drewN ?_) | (with_reducible refine Blk.drew ?_) | (with_reducible refine Blk.other ?_ (by first | omega | (simp; done) | (simp; omega))))), by (repeat' (first | (with_reducible assumption) | ((with_reducible refine Blk.new ?_); first | rfl | (simp; done)) | (with_reducible refine Blk.later (by assumption) ?_) | (with_reducible refine Blk.alloc ?_) | (with_reducible refine Blk.drewN ?_) | (with_reducible refine Blk.drew ?_) | (with_reducible refine Blk.other ?_ (by first | omega | (simp; done) | (simp; omega)))))⟩, by (repeat' (first | (with_reducible exact Below.refl _ _) | (with_reducible assumption) | (with_reducible refine belowThru ?_ (by assumption)) | (with_reducible refine belowAlloc ?_) | (with_reducible refine Below.setCell ?_ (by first | omega | (simp; done) | (simp; omega)) _) | (with_reducible refine Below.drew ?_) | (with_reducible refine below_drewN ?_ _)))⟩
        case measure => simp [intOf]; omega
      · by_cases hp : inP W H (x - ((k : Int) % SW - SW / 2)) (y - ((k : Int) / SW - SH / 2))
        · have dp : decide (inP W H (x - ((k : Int) % SW - SW / 2)) (y - ((k : Int) / SW - SH / 2))) = true := decide_eq_true hp
          have HE := Lib.hid (HY.out k hz hp)
          have HP := Lib.hid hp
          clear hz hp
          go_wp2_with (first
            | (go_at_call 117; (with_reducible refine (inside_any _ _ _ _ HW.out.1 HW.out.2 _ _ _ _).mono ?_); rintro e w1 ⟨rfl, hb⟩; (try (have zk := k0.lt; (first | ((with_reducible refine Blk.keepG hb k0 (fun h => ?_) ?_); (focus ((repeat' (first | (with_reducible assumption) | ((with_reducible refine Blk.new ?_); first | rfl | (simp; done)) | (with_reducible refine Blk.later (by assumption) ?_) | (with_reducible refine Blk.alloc ?_) | (with_reducible refine Blk.drewN ?_) | (with_reducible refine Blk.drew ?_) | (with_reducible refine Blk.other ?_ (by first | omega | (simp; done) | (simp; omega))))); done)); clear k0; intro k0) | (with_reducible replace k0 := Blk.later hb (Blk.set (Blk.set k0))) | (with_reducible replace k0 := Blk.later hb (Blk.set k0))); clear a0 b0; obtain ⟨a0, b0⟩ := k0.read; have zl := k0.lt)); (try (have zk := k1.lt; (first | ((with_reducible refine Blk.keepG hb k1 (fun h => ?_) ?_); (focus ((repeat' (first | (with_reducible assumption) | ((with_reducible refine Blk.new ?_); first | rfl | (simp; done)) | (with_reducible refine Blk.later (by assumption) ?_) | (with_reducible refine Blk.alloc ?_) | (with_reducible refine Blk.drewN ?_) | (with_reducible refine Blk.drew ?_) | (with_reducible refine Blk.other ?_ (by first | omega | (simp; done) | (simp; omega))))); done)); clear k1; intro k1) | (with_reducible replace k1 := Blk.later hb (Blk.set (Blk.set k1))) | (with_reducible replace k1 := Blk.later hb (Blk.set k1))); clear a1 b1; obtain ⟨a1, b1⟩ := k1.read; have zl := k1.lt)); replace hB : Below w.heap.size w w1 := belowThru (by (repeat' (first | (with_reducible exact Below.refl _ _) | (with_reducible assumption) | (with_reducible refine belowThru ?_ (by assumption)) | (with_reducible refine belowAlloc ?_) | (with_reducible refine Below.setCell ?_ (by first | omega | (simp; done) | (simp; omega)) _) | (with_reducible refine Below.drew ?_) | (with_reducible refine below_drewN ?_ _)))) hb)
            | (go_at_call 118; (with_reducible refine (rat_z _ _ _ _ _ _ _ zs HI.out HP.out _ (HR.out.later (by (repeat' (first | (with_reducible exact Below.refl _ _) | (with_reducible assumption) | (with_reducible refine belowThru ?_ (by assumption)) | (with_reducible refine belowAlloc ?_) | (with_reducible refine Below.setCell ?_ (by first | omega | (simp; done) | (simp; omega)) _) | (with_reducible refine Below.drew ?_) | (with_reducible refine below_drewN ?_ _)))))).mono ?_); rintro e w1 ⟨rfl, hb⟩; (try (have zk := k0.lt; (first | ((with_reducible refine Blk.keepG hb k0 (fun h => ?_) ?_); (focus ((repeat' (first | (with_reducible assumption) | ((with_reducible refine Blk.new ?_); first | rfl | (simp; done)) | (with_reducible refine Blk.later (by assumption) ?_) | (with_reducible refine Blk.alloc ?_) | (with_reducible refine Blk.drewN ?_) | (with_reducible refine Blk.drew ?_) | (with_reducible refine Blk.other ?_ (by first | omega | (simp; done) | (simp; omega))))); done)); clear k0; intro k0) | (with_reducible replace k0 := Blk.later hb (Blk.set (Blk.set k0))) | (with_reducible replace k0 := Blk.later hb (Blk.set k0))); clear a0 b0; obtain ⟨a0, b0⟩ := k0.read; have zl := k0.lt)); (try (have zk := k1.lt; (first | ((with_reducible refine Blk.keepG hb k1 (fun h => ?_) ?_); (focus ((repeat' (first | (with_reducible assumption) | ((with_reducible refine Blk.new ?_); first | rfl | (simp; done)) | (with_reducible refine Blk.later (by assumption) ?_) | (with_reducible refine Blk.alloc ?_) | (with_reducible refine Blk.drewN ?_) | (with_reducible refine Blk.drew ?_) | (with_reducible refine Blk.other ?_ (by first | omega | (simp; done) | (simp; omega))))); done)); clear k1; intro k1) | (with_reducible replace k1 := Blk.later hb (Blk.set (Blk.set k1))) | (with_reducible replace k1 := Blk.later hb (Blk.set k1))); clear a1 b1; obtain ⟨a1, b1⟩ := k1.read; have zl := k1.lt))))
          go_roundw
          case rel => exact ⟨k + 1, hlt, by go_num, by rw [← HE.out], ⟨by (repeat' (first | (with_reducible assumption) | ((with_reducible refine Blk.new ?_); first | rfl | (simp; done)) | (with_reducible refine Blk.later (by assumption) ?_) | (with_reducible refine Blk.alloc ?_) | (with_reducible refine Blk.drewN ?_) | (with_reducible refine Blk.drew ?_) | (with_reducible refine Blk.other ?_ (by first | omega | (simp; done) | (simp; omega))))), by (repeat' (first | (with_reducible assumption) | ((with_reducible refine Blk.new ?_); first | rfl | (simp; done)) | (with_reducible refine Blk.later (by assumption) ?_) | (with_reducible refine Blk.alloc ?_) | (with_reducible refine Blk.drewN ?_) | (with_reducible refine Blk.drew ?_) | (with_reducible refine Blk.other ?_ (by first | omega | (simp; done) | (simp; omega)))))⟩, by (repeat' (first | (with_reducible exact Below.refl _ _) | (with_reducible assumption) | (with_reducible refine belowThru ?_ (by assumption)) | (with_reducible refine belowAlloc ?_) | (with_reducible refine Below.setCell ?_ (by first | omega | (simp; done) | (simp; omega)) _) | (with_reducible refine Below.drew ?_) | (with_reducible refine below_drewN ?_ _)))⟩
          case measure => simp [intOf]; omega
        · have dp : decide (inP W H (x - ((k : Int) % SW - SW / 2)) (y - ((k : Int) / SW - SH / 2))) = false := decide_eq_false hp
          have HE := Lib.hid (HN.out k (.inr hp))
          clear hz hp
          go_wp2_with (go_at_call 117; (with_reducible refine (inside_any _ _ _ _ HW.out.1 HW.out.2 _ _ _ _).mono ?_); rintro e w1 ⟨rfl, hb⟩; (try (have zk := k0.lt; (first | ((with_reducible refine Blk.keepG hb k0 (fun h => ?_) ?_); (focus ((repeat' (first | (with_reducible assumption) | ((with_reducible refine Blk.new ?_); first | rfl | (simp; done)) | (with_reducible refine Blk.later (by assumption) ?_) | (with_reducible refine Blk.alloc ?_) | (with_reducible refine Blk.drewN ?_) | (with_reducible refine Blk.drew ?_) | (with_reducible refine Blk.other ?_ (by first | omega | (simp; done) | (simp; omega))))); done)); clear k0; intro k0) | (with_reducible replace k0 := Blk.later hb (Blk.set (Blk.set k0))) | (with_reducible replace k0 := Blk.later hb (Blk.set k0))); clear a0 b0; obtain ⟨a0, b0⟩ := k0.read; have zl := k0.lt)); (try (have zk := k1.lt; (first | ((with_reducible refine Blk.keepG hb k1 (fun h => ?_) ?_); (focus ((repeat' (first | (with_reducible assumption) | ((with_reducible refine Blk.new ?_); first | rfl | (simp; done)) | (with_reducible refine Blk.later (by assumption) ?_) | (with_reducible refine Blk.alloc ?_) | (with_reducible refine Blk.drewN ?_) | (with_reducible refine Blk.drew ?_) | (with_reducible refine Blk.other ?_ (by first | omega | (simp; done) | (simp; omega))))); done)); clear k1; intro k1) | (with_reducible replace k1 := Blk.later hb (Blk.set (Blk.set k1))) | (with_reducible replace k1 := Blk.later hb (Blk.set k1))); clear a1 b1; obtain ⟨a1, b1⟩ := k1.read; have zl := k1.lt)))
          go_roundw
          case rel => exact ⟨k + 1, hlt, by go_num, by rw [HE.out], ⟨by (repeat' (first | (with_reducible assumption) | ((with_reducible refine Blk.new ?_); first | rfl | (simp; done)) | (with_reducible refine Blk.later (by assumption) ?_) | (with_reducible refine Blk.alloc ?_) | (with_reducible refine Blk.drewN ?_) | (with_reducible refine Blk.drew ?_) | (with_reducible refine Blk.other ?_ (by first | omega | (simp; done) | (simp; omega))))), by (repeat' (first | (with_reducible assumption) | ((with_reducible refine Blk.new ?_); first | rfl | (simp; done)) | (with_reducible refine Blk.later (by assumption) ?_) | (with_reducible refine Blk.alloc ?_) | (with_reducible refine Blk.drewN ?_) | (with_reducible refine Blk.drew ?_) | (with_reducible refine Blk.other ?_ (by first | omega | (simp; done) | (simp; omega)))))⟩, by (repeat' (first | (with_reducible exact Below.refl _ _) | (with_reducible assumption) | (with_reducible refine belowThru ?_ (by assumption)) | (with_reducible refine belowAlloc ?_) | (with_reducible refine Below.setCell ?_ (by first | omega | (simp; done) | (simp; omega)) _) | (with_reducible refine Below.drew ?_) | (with_reducible refine below_drewN ?_ _)))⟩
          case measure => simp [intOf]; omega
    · obtain rfl : k = m := by omega
      go_wp2
      go_ret
      exact ⟨rfl, by (repeat' (first | (with_reducible exact Below.refl _ _) | (with_reducible assumption) | (with_reducible refine belowThru ?_ (by assumption)) | (with_reducible refine belowAlloc ?_) | (with_reducible refine Below.setCell ?_ (by first | omega | (simp; done) | (simp; omega)) _) | (with_reducible refine Below.drew ?_) | (with_reducible refine below_drewN ?_ _)))⟩

/-- What the first cells of a shape make of a pixel. -/
def exE (W H : Int) (zs : List Int) (SW SH : Int) (bs : List Bool) (x y : Int) : Nat → Int
  | 0 => 2147483648
  | k + 1 => if bs[k]?.getD false = true ∧ inP W H (x + ((k : Int) % SW - SW / 2)) (y + ((k : Int) / SW - SH / 2)) then (if pixAt W zs (x + ((k : Int) % SW - SW / 2)) (y + ((k : Int) / SW - SH / 2)) < (exE W H zs SW SH bs x y k) then pixAt W zs (x + ((k : Int) % SW - SW / 2)) (y + ((k : Int) / SW - SH / 2)) else (exE W H zs SW SH bs x y k)) else exE W H zs SW SH bs x y k

set_option maxRecDepth 100000 in
set_option maxHeartbeats 4000000 in
theorem reroded_any (W H SW SH x y : Int) (a a' : Option Addr) (n c m c' : Nat) (zs : List Int) (bs : List Bool) (hI : okI W H zs) (hS : okSh SW SH bs) (x0 : 0 ≤ x) (x1 : x ≤ 64) (y0 : 0 ≤ y) (y1 : y ≤ 64) (w : World) (hR : Row w a n (iv zs)) (hT : Row w a' m (bv bs)) :
    Calls Try.prog 105 #[.agg #[.int .i64 W, .int .i64 H, .slice a n c], .agg #[.int .i64 SW, .int .i64 SH, .slice a' m c'], .int .i64 x, .int .i64 y] w fun e w' => e = .returned (.int .i64 (exE W H zs SW SH bs x y m)) ∧ Below w.heap.size w w' := by
  have hm : bs.length = m := by have := hT.1; rwa [bv_length] at this
  have hm2 : m ≤ 25 := by have := okK_mul hS.1.1 hS.1.2; have := hS.2.1; omega
  obtain ⟨V, hV⟩ : ∃ V : Nat → Int, V = exE W H zs SW SH bs x y := ⟨_, rfl⟩
  have hV0 : V 0 = 2147483648 := by rw [hV]; rfl
  have HY : Hid (∀ k : Nat, bs[k]? = some true → inP W H (x + ((k : Int) % SW - SW / 2)) (y + ((k : Int) / SW - SH / 2)) → (if pixAt W zs (x + ((k : Int) % SW - SW / 2)) (y + ((k : Int) / SW - SH / 2)) < V k then pixAt W zs (x + ((k : Int) % SW - SW / 2)) (y + ((k : Int) / SW - SH / 2)) else V k) = V (k + 1)) := fun k h1 h2 => by
    rw [hV]; exact (if_pos ⟨by rw [h1]; rfl, h2⟩).symm
  have HN : Hid (∀ k : Nat, (bs[k]? = some false ∨ ¬ inP W H (x + ((k : Int) % SW - SW / 2)) (y + ((k : Int) / SW - SH / 2))) → V k = V (k + 1)) := fun k h => by
    rw [hV]; exact (if_neg (fun ⟨h1, h2⟩ => h.elim (fun e => by rw [e] at h1; cases h1) (fun e => e h2))).symm
  rw [← hV]
  have HV0 := Lib.hid hV0
  have HI := Lib.hid hI
  have HR := Lib.hid hR
  have HT := Lib.hid hT
  have HW := Lib.hid hI.1
  have hSW : 1 ≤ SW ∧ SW ≤ 5 := by have := hS.1.1; unfold okK at this; omega
  have hSH : 1 ≤ SH ∧ SH ≤ 5 := by have := hS.1.2; unfold okK at this; omega
  obtain ⟨sw0, sw1⟩ := hSW
  obtain ⟨sh0, sh1⟩ := hSH
  have hne : ¬ SW = 0 := by omega
  clear hR hT hI hS hm hV hV0
  go_enter Try.func105, Try.ntmps105
  go_wp2_with fail
  go_loopw [9, 10] (fun o i wr => ∃ k : Nat, k ≤ m ∧ i = .int .i64 k ∧ o = .int .i64 (V k) ∧ (Blk wr w.heap.size #[.int .i64 W, .int .i64 H, .slice a n c] 24 ∧ Blk wr (w.heap.size + 1) #[.int .i64 SW, .int .i64 SH, .slice a' m c'] 43) ∧ Below w.heap.size w wr) (fun _ i _ => m - (intOf i).toNat)
  case atStart => exact ⟨0, Nat.zero_le _, rfl, by rw [HV0.out], ⟨by (repeat' (first | (with_reducible assumption) | ((with_reducible refine Blk.new ?_); first | rfl | (simp; done)) | (with_reducible refine Blk.later (by assumption) ?_) | (with_reducible refine Blk.alloc ?_) | (with_reducible refine Blk.drewN ?_) | (with_reducible refine Blk.drew ?_) | (with_reducible refine Blk.other ?_ (by first | omega | (simp; done) | (simp; omega))))), by (repeat' (first | (with_reducible assumption) | ((with_reducible refine Blk.new ?_); first | rfl | (simp; done)) | (with_reducible refine Blk.later (by assumption) ?_) | (with_reducible refine Blk.alloc ?_) | (with_reducible refine Blk.drewN ?_) | (with_reducible refine Blk.drew ?_) | (with_reducible refine Blk.other ?_ (by first | omega | (simp; done) | (simp; omega)))))⟩, by (repeat' (first | (with_reducible exact Below.refl _ _) | (with_reducible assumption) | (with_reducible refine belowThru ?_ (by assumption)) | (with_reducible refine belowAlloc ?_) | (with_reducible refine Below.setCell ?_ (by first | omega | (simp; done) | (simp; omega)) _) | (with_reducible refine Below.drew ?_) | (with_reducible refine below_drewN ?_ _)))⟩
  case round =>
    obtain ⟨k, hk, rfl, rfl, ⟨k0, k1⟩, hB⟩ := hrel
    obtain ⟨a0, b0⟩ := k0.read; obtain ⟨a1, b1⟩ := k1.read
    have z0 := k0.lt; have z1 := k1.lt
    by_cases hlt : k < m
    · obtain ⟨v1, v2, v3, v4, v5, v6⟩ := small_div k SW sw0 (by omega)
      have v7 : IntKind.i64.wrap (SW / 2) = SW / 2 := IntWalk.i64_in _ (by omega)
      have v8 : IntKind.i64.wrap (SH / 2) = SH / 2 := IntWalk.i64_in _ (by omega)
      have v9 : IntKind.i64.wrap ((k : Int) % SW - SW / 2) = (k : Int) % SW - SW / 2 := IntWalk.i64_in _ (by omega)
      have va : IntKind.i64.wrap ((k : Int) / SW - SH / 2) = (k : Int) / SW - SH / 2 := IntWalk.i64_in _ (by omega)
      have vb : IntKind.i64.wrap (x + ((k : Int) % SW - SW / 2)) = (x + ((k : Int) % SW - SW / 2)) := IntWalk.i64_in _ (by omega)
      have vc : IntKind.i64.wrap (y + ((k : Int) / SW - SH / 2)) = (y + ((k : Int) / SW - SH / 2)) := IntWalk.i64_in _ (by omega)
      have p0 : (0 : Int) ≤ (k : Int) := by omega
      have p1 : (k : Int) < (m : Int) := by omega
      obtain ⟨b2, off, z, rfl, -, hz, hc⟩ := (HT.out.later hB).bool hlt
      go_upto_region 5 with fail
      go_quiet (fail)
      cases z
      · have HE := Lib.hid (HN.out k (.inl hz))
        clear hz
        go_wp2_with fail
        go_roundw
        case rel => exact ⟨k + 1, hlt, by go_num, by rw [HE.out], ⟨by (repeat' (first | (with_reducible assumption) | ((with_reducible refine Blk.new ?_); first | rfl | (simp; done)) | (with_reducible refine Blk.later (by assumption) ?_) | (with_reducible refine Blk.alloc ?_) | (with_reducible refine Blk.drewN ?_) | (with_reducible refine Blk.drew ?_) | (with_reducible refine Blk.other ?_ (by first | omega | (simp; done) | (simp; omega))))), by (repeat' (first | (with_reducible assumption) | ((with_reducible refine Blk.new ?_); first | rfl | (simp; done)) | (with_reducible refine Blk.later (by assumption) ?_) | (with_reducible refine Blk.alloc ?_) | (with_reducible refine Blk.drewN ?_) | (with_reducible refine Blk.drew ?_) | (with_reducible refine Blk.other ?_ (by first | omega | (simp; done) | (simp; omega)))))⟩, by (repeat' (first | (with_reducible exact Below.refl _ _) | (with_reducible assumption) | (with_reducible refine belowThru ?_ (by assumption)) | (with_reducible refine belowAlloc ?_) | (with_reducible refine Below.setCell ?_ (by first | omega | (simp; done) | (simp; omega)) _) | (with_reducible refine Below.drew ?_) | (with_reducible refine below_drewN ?_ _)))⟩
        case measure => simp [intOf]; omega
      · by_cases hp : inP W H (x + ((k : Int) % SW - SW / 2)) (y + ((k : Int) / SW - SH / 2))
        · have dp : decide (inP W H (x + ((k : Int) % SW - SW / 2)) (y + ((k : Int) / SW - SH / 2))) = true := decide_eq_true hp
          have HE := Lib.hid (HY.out k hz hp)
          have HP := Lib.hid hp
          clear hz hp
          go_wp2_with (first
            | (go_at_call 117; (with_reducible refine (inside_any _ _ _ _ HW.out.1 HW.out.2 _ _ _ _).mono ?_); rintro e w1 ⟨rfl, hb⟩; (try (have zk := k0.lt; (first | ((with_reducible refine Blk.keepG hb k0 (fun h => ?_) ?_); (focus ((repeat' (first | (with_reducible assumption) | ((with_reducible refine Blk.new ?_); first | rfl | (simp; done)) | (with_reducible refine Blk.later (by assumption) ?_) | (with_reducible refine Blk.alloc ?_) | (with_reducible refine Blk.drewN ?_) | (with_reducible refine Blk.drew ?_) | (with_reducible refine Blk.other ?_ (by first | omega | (simp; done) | (simp; omega))))); done)); clear k0; intro k0) | (with_reducible replace k0 := Blk.later hb (Blk.set (Blk.set k0))) | (with_reducible replace k0 := Blk.later hb (Blk.set k0))); clear a0 b0; obtain ⟨a0, b0⟩ := k0.read; have zl := k0.lt)); (try (have zk := k1.lt; (first | ((with_reducible refine Blk.keepG hb k1 (fun h => ?_) ?_); (focus ((repeat' (first | (with_reducible assumption) | ((with_reducible refine Blk.new ?_); first | rfl | (simp; done)) | (with_reducible refine Blk.later (by assumption) ?_) | (with_reducible refine Blk.alloc ?_) | (with_reducible refine Blk.drewN ?_) | (with_reducible refine Blk.drew ?_) | (with_reducible refine Blk.other ?_ (by first | omega | (simp; done) | (simp; omega))))); done)); clear k1; intro k1) | (with_reducible replace k1 := Blk.later hb (Blk.set (Blk.set k1))) | (with_reducible replace k1 := Blk.later hb (Blk.set k1))); clear a1 b1; obtain ⟨a1, b1⟩ := k1.read; have zl := k1.lt)); replace hB : Below w.heap.size w w1 := belowThru (by (repeat' (first | (with_reducible exact Below.refl _ _) | (with_reducible assumption) | (with_reducible refine belowThru ?_ (by assumption)) | (with_reducible refine belowAlloc ?_) | (with_reducible refine Below.setCell ?_ (by first | omega | (simp; done) | (simp; omega)) _) | (with_reducible refine Below.drew ?_) | (with_reducible refine below_drewN ?_ _)))) hb)
            | (go_at_call 118; (with_reducible refine (rat_z _ _ _ _ _ _ _ zs HI.out HP.out _ (HR.out.later (by (repeat' (first | (with_reducible exact Below.refl _ _) | (with_reducible assumption) | (with_reducible refine belowThru ?_ (by assumption)) | (with_reducible refine belowAlloc ?_) | (with_reducible refine Below.setCell ?_ (by first | omega | (simp; done) | (simp; omega)) _) | (with_reducible refine Below.drew ?_) | (with_reducible refine below_drewN ?_ _)))))).mono ?_); rintro e w1 ⟨rfl, hb⟩; (try (have zk := k0.lt; (first | ((with_reducible refine Blk.keepG hb k0 (fun h => ?_) ?_); (focus ((repeat' (first | (with_reducible assumption) | ((with_reducible refine Blk.new ?_); first | rfl | (simp; done)) | (with_reducible refine Blk.later (by assumption) ?_) | (with_reducible refine Blk.alloc ?_) | (with_reducible refine Blk.drewN ?_) | (with_reducible refine Blk.drew ?_) | (with_reducible refine Blk.other ?_ (by first | omega | (simp; done) | (simp; omega))))); done)); clear k0; intro k0) | (with_reducible replace k0 := Blk.later hb (Blk.set (Blk.set k0))) | (with_reducible replace k0 := Blk.later hb (Blk.set k0))); clear a0 b0; obtain ⟨a0, b0⟩ := k0.read; have zl := k0.lt)); (try (have zk := k1.lt; (first | ((with_reducible refine Blk.keepG hb k1 (fun h => ?_) ?_); (focus ((repeat' (first | (with_reducible assumption) | ((with_reducible refine Blk.new ?_); first | rfl | (simp; done)) | (with_reducible refine Blk.later (by assumption) ?_) | (with_reducible refine Blk.alloc ?_) | (with_reducible refine Blk.drewN ?_) | (with_reducible refine Blk.drew ?_) | (with_reducible refine Blk.other ?_ (by first | omega | (simp; done) | (simp; omega))))); done)); clear k1; intro k1) | (with_reducible replace k1 := Blk.later hb (Blk.set (Blk.set k1))) | (with_reducible replace k1 := Blk.later hb (Blk.set k1))); clear a1 b1; obtain ⟨a1, b1⟩ := k1.read; have zl := k1.lt))))
          go_roundw
          case rel => exact ⟨k + 1, hlt, by go_num, by rw [← HE.out], ⟨by (repeat' (first | (with_reducible assumption) | ((with_reducible refine Blk.new ?_); first | rfl | (simp; done)) | (with_reducible refine Blk.later (by assumption) ?_) | (with_reducible refine Blk.alloc ?_) | (with_reducible refine Blk.drewN ?_) | (with_reducible refine Blk.drew ?_) | (with_reducible refine Blk.other ?_ (by first | omega | (simp; done) | (simp; omega))))), by (repeat' (first | (with_reducible assumption) | ((with_reducible refine Blk.new ?_); first | rfl | (simp; done)) | (with_reducible refine Blk.later (by assumption) ?_) | (with_reducible refine Blk.alloc ?_) | (with_reducible refine Blk.drewN ?_) | (with_reducible refine Blk.drew ?_) | (with_reducible refine Blk.other ?_ (by first | omega | (simp; done) | (simp; omega)))))⟩, by (repeat' (first | (with_reducible exact Below.refl _ _) | (with_reducible assumption) | (with_reducible refine belowThru ?_ (by assumption)) | (with_reducible refine belowAlloc ?_) | (with_reducible refine Below.setCell ?_ (by first | omega | (simp; done) | (simp; omega)) _) | (with_reducible refine Below.drew ?_) | (with_reducible refine below_drewN ?_ _)))⟩
          case measure => simp [intOf]; omega
        · have dp : decide (inP W H (x + ((k : Int) % SW - SW / 2)) (y + ((k : Int) / SW - SH / 2))) = false := decide_eq_false hp
          have HE := Lib.hid (HN.out k (.inr hp))
          clear hz hp
          go_wp2_with (go_at_call 117; (with_reducible refine (inside_any _ _ _ _ HW.out.1 HW.out.2 _ _ _ _).mono ?_); rintro e w1 ⟨rfl, hb⟩; (try (have zk := k0.lt; (first | ((with_reducible refine Blk.keepG hb k0 (fun h => ?_) ?_); (focus ((repeat' (first | (with_reducible assumption) | ((with_reducible refine Blk.new ?_); first | rfl | (simp; done)) | (with_reducible refine Blk.later (by assumption) ?_) | (with_reducible refine Blk.alloc ?_) | (with_reducible refine Blk.drewN ?_) | (with_reducible refine Blk.drew ?_) | (with_reducible refine Blk.other ?_ (by first | omega | (simp; done) | (simp; omega))))); done)); clear k0; intro k0) | (with_reducible replace k0 := Blk.later hb (Blk.set (Blk.set k0))) | (with_reducible replace k0 := Blk.later hb (Blk.set k0))); clear a0 b0; obtain ⟨a0, b0⟩ := k0.read; have zl := k0.lt)); (try (have zk := k1.lt; (first | ((with_reducible refine Blk.keepG hb k1 (fun h => ?_) ?_); (focus ((repeat' (first | (with_reducible assumption) | ((with_reducible refine Blk.new ?_); first | rfl | (simp; done)) | (with_reducible refine Blk.later (by assumption) ?_) | (with_reducible refine Blk.alloc ?_) | (with_reducible refine Blk.drewN ?_) | (with_reducible refine Blk.drew ?_) | (with_reducible refine Blk.other ?_ (by first | omega | (simp; done) | (simp; omega))))); done)); clear k1; intro k1) | (with_reducible replace k1 := Blk.later hb (Blk.set (Blk.set k1))) | (with_reducible replace k1 := Blk.later hb (Blk.set k1))); clear a1 b1; obtain ⟨a1, b1⟩ := k1.read; have zl := k1.lt)))
          go_roundw
          case rel => exact ⟨k + 1, hlt, by go_num, by rw [HE.out], ⟨by (repeat' (first | (with_reducible assumption) | ((with_reducible refine Blk.new ?_); first | rfl | (simp; done)) | (with_reducible refine Blk.later (by assumption) ?_) | (with_reducible refine Blk.alloc ?_) | (with_reducible refine Blk.drewN ?_) | (with_reducible refine Blk.drew ?_) | (with_reducible refine Blk.other ?_ (by first | omega | (simp; done) | (simp; omega))))), by (repeat' (first | (with_reducible assumption) | ((with_reducible refine Blk.new ?_); first | rfl | (simp; done)) | (with_reducible refine Blk.later (by assumption) ?_) | (with_reducible refine Blk.alloc ?_) | (with_reducible refine Blk.drewN ?_) | (with_reducible refine Blk.drew ?_) | (with_reducible refine Blk.other ?_ (by first | omega | (simp; done) | (simp; omega)))))⟩, by (repeat' (first | (with_reducible exact Below.refl _ _) | (with_reducible assumption) | (with_reducible refine belowThru ?_ (by assumption)) | (with_reducible refine belowAlloc ?_) | (with_reducible refine Below.setCell ?_ (by first | omega | (simp; done) | (simp; omega)) _) | (with_reducible refine Below.drew ?_) | (with_reducible refine below_drewN ?_ _)))⟩
          case measure => simp [intOf]; omega
    · obtain rfl : k = m := by omega
      go_wp2
      go_ret
      exact ⟨rfl, by (repeat' (first | (with_reducible exact Below.refl _ _) | (with_reducible assumption) | (with_reducible refine belowThru ?_ (by assumption)) | (with_reducible refine belowAlloc ?_) | (with_reducible refine Below.setCell ?_ (by first | omega | (simp; done) | (simp; omega)) _) | (with_reducible refine Below.drew ?_) | (with_reducible refine below_drewN ?_ _)))⟩

end Go.Proofs.Ytefphhhmibnjiaa
