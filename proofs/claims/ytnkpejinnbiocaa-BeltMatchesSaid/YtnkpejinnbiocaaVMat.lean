/-
  Layer 9: what Match asks of its lists; gaps that agree.
-/
import Derived.Test.YtnkpejinnbiocaaVTel
namespace Go.Proofs.Ytnkpejinnbiocaa
open Go.RowKit Go.Shelf
set_option linter.unusedVariables false
set_option linter.unusedSimpArgs false


/-- Counts that increase, behind a number. -/
def cntF : Int → List Int → Prop
  | _, [] => True
  | b, z :: zs => ((0 ≤ z ∧ z ≤ 1099511627776) ∧ b < z) ∧ cntF z zs
def cntFDec : (b : Int) → (zs : List Int) → Decidable (cntF b zs)
  | _, [] => isTrue trivial
  | b, z :: zs => @instDecidableAnd _ _ (inferInstanceAs (Decidable (_ ∧ _))) (cntFDec z zs)
instance (b : Int) (zs : List Int) : Decidable (cntF b zs) := cntFDec b zs
theorem cntF_all {b : Int} {zs : List Int} (h : cntF b zs) : ∀ z ∈ zs, 0 ≤ z ∧ z ≤ 1099511627776 := by
  induction zs generalizing b with
  | nil => intro z hz; cases hz
  | cons x xs ih =>
    intro z hz
    rcases List.mem_cons.1 hz with rfl | hz
    · exact h.1.1
    · exact ih h.2 z hz
/-- Two gaps agree. -/
def agrB (s p x y : Int) : Bool := decide (x * (s - p) ≤ y * (s + p) ∧ y * (s - p) ≤ x * (s + p))
set_option maxRecDepth 100000 in
set_option maxHeartbeats 16000000 in
theorem areCounts_any (a : Option Addr) (n cap : Nat) (zs : List Int) (hn : n ≤ maxLen) (w : World) (hR : Row w a n (iv zs)) :
    Calls Try.prog 48 #[.slice a n cap] w fun e w' => e = .returned (.bool (decide (cntF (-1) zs))) ∧ Below w.heap.size w w' := by
  unfold maxLen at hn
  have hx : zs.length = n := by have := hR.1; rwa [iv_length] at this
  have HX := Lib.hid hx; have HR := Lib.hid hR
  obtain ⟨R, hRe⟩ : ∃ R : Bool, decide (cntF (-1) zs) = R := ⟨_, rfl⟩
  rw [hRe]
  have HQ : Hid ((cntF (-1) zs → R = true) ∧ (¬ cntF (-1) zs → R = false)) := ⟨fun h => by rw [← hRe, decide_eq_true h], fun h => by rw [← hRe, decide_eq_false h]⟩
  clear hRe hx hR
  go_enter Try.func48, Try.ntmps48
  go_wp2_with fail
  go_loopw [3, 8] (fun b j wr => ∃ (k : Nat) (I : Int), k ≤ n ∧ j = .int .i64 k ∧ b = .int .i64 I ∧ Hid (cntF (-1) zs ↔ cntF I (zs.drop k)) ∧ Below w.heap.size w wr) (fun _ j _ => n - (intOf j).toNat)
  case atStart => exact ⟨0, -1, Nat.zero_le _, rfl, rfl, (Iff.rfl : cntF (-1) zs ↔ cntF (-1) (zs.drop 0)), Below.refl _ _⟩
  case round =>
    obtain ⟨k, I, hk, rfl, rfl, ht, hB⟩ := hrel
    by_cases hlt : k < n
    · obtain ⟨bb, oo, z, rfl, hbb, hzk, d0⟩ := HR.out.int hlt
      have d0 := cell_later hB d0
      have p0 : (0 : Int) ≤ (k : Int) := by omega
      have p1 : (k : Int) < (n : Int) := by omega
      have HD := Lib.hid (drop_at hzk)
      clear hzk
      by_cases g1 : 0 ≤ z ∧ z ≤ 1099511627776
      · have HC : Hid (∀ w, Calls Try.prog 38 #[.int .i64 z] w fun e w' => e = .returned (.bool true) ∧ w = w') := fun w => by have := isCount_any z w; rwa [decide_eq_true g1] at this
        by_cases g2 : I < z
        · have ht' : Hid (cntF (-1) zs ↔ cntF z (zs.drop (k + 1))) := (ht.out).trans (by rw [HD.out]; exact ⟨fun h => h.2, fun h => ⟨⟨g1, g2⟩, h⟩⟩)
          have hd : decide (z ≤ I) = false := decide_eq_false (by omega)
          clear ht HD g1 g2
          go_wp2_with (go_at_call 38; ((with_reducible refine (HC.out _).mono ?_); rintro e w1 ⟨rfl, rfl⟩))
          go_roundw
          case rel => exact ⟨k + 1, z, hlt, by go_num, rfl, ht', hB⟩
          case measure => simp [intOf]; omega
        · have hz : R = false := HQ.out.2 (fun h => by have h2 := ht.out.1 h; rw [HD.out] at h2; exact g2 h2.1.2)
          have hd : decide (z ≤ I) = true := decide_eq_true (by omega)
          clear ht HD g1 g2
          go_wp2_with (go_at_call 38; ((with_reducible refine (HC.out _).mono ?_); rintro e w1 ⟨rfl, rfl⟩))
          go_ret
          exact ⟨by rw [hz]; rfl, hB⟩
      · have HC : Hid (∀ w, Calls Try.prog 38 #[.int .i64 z] w fun e w' => e = .returned (.bool false) ∧ w = w') := fun w => by have := isCount_any z w; rwa [decide_eq_false g1] at this
        have hz : R = false := HQ.out.2 (fun h => by have h2 := ht.out.1 h; rw [HD.out] at h2; exact g1 h2.1.1)
        clear ht HD g1
        go_wp2_with (go_at_call 38; ((with_reducible refine (HC.out _).mono ?_); rintro e w1 ⟨rfl, rfl⟩))
        go_ret
        exact ⟨by rw [hz]; rfl, hB⟩
    · have hz : R = true := HQ.out.1 (ht.out.2 (by rw [List.drop_eq_nil_of_le (by rw [HX.out]; omega)]; trivial))
      clear ht
      go_wp2
      go_ret
      exact ⟨by rw [hz]; rfl, hB⟩
set_option maxRecDepth 100000 in
set_option maxHeartbeats 16000000 in
theorem agree_any (s p g l x y : Int) (hs : 1 ≤ s ∧ s ≤ 1000) (hp : 0 ≤ p ∧ p ≤ s - 1) (hx : -1099511627776 ≤ x ∧ x ≤ 1099511627776) (hy : -1099511627776 ≤ y ∧ y ≤ 1099511627776) (w : World) :
    Calls Try.prog 51 #[.agg #[.int .i64 s, .int .i64 p, .int .i64 g, .int .i64 l], .int .i64 x, .int .i64 y] w fun e w' => e = .returned (.bool (agrB s p x y)) ∧ Below w.heap.size w w' := by
  have HM := Lib.hid (moves_any s p g l hs hp)
  unfold agrB
  obtain ⟨F, hF⟩ : ∃ F, s - p = F := ⟨_, rfl⟩
  obtain ⟨L, hL⟩ : ∃ L, s + p = L := ⟨_, rfl⟩
  rw [hF, hL] at HM ⊢
  have bd : ∀ u v : Int, -1099511627776 ≤ u → u ≤ 1099511627776 → 0 ≤ v → v ≤ 2000 → -2199023255552000 ≤ u * v ∧ u * v ≤ 2199023255552000 := fun u v h1 h2 h3 h4 => by
    have e1 : u * v ≤ 1099511627776 * v := Int.mul_le_mul_of_nonneg_right h2 h3
    have e2 : -1099511627776 * v ≤ u * v := Int.mul_le_mul_of_nonneg_right h1 h3
    omega
  obtain ⟨x1, x2⟩ := hx
  obtain ⟨y1, y2⟩ := hy
  have hF1 : 0 ≤ F ∧ F ≤ 2000 := by omega
  have hL1 : 0 ≤ L ∧ L ≤ 2000 := by omega
  have b1 := bd x F x1 x2 hF1.1 hF1.2
  have b2 := bd y L y1 y2 hL1.1 hL1.2
  have b3 := bd y F y1 y2 hF1.1 hF1.2
  have b4 := bd x L x1 x2 hL1.1 hL1.2
  have v1 : IntKind.i64.wrap (x * F) = x * F := IntWalk.i64_in _ (by omega)
  have v2 : IntKind.i64.wrap (y * L) = y * L := IntWalk.i64_in _ (by omega)
  have v3 : IntKind.i64.wrap (y * F) = y * F := IntWalk.i64_in _ (by omega)
  have v4 : IntKind.i64.wrap (x * L) = x * L := IntWalk.i64_in _ (by omega)
  clear bd b1 b2 b3 b4 hF hL hF1 hL1 x1 x2 y1 y2 hs hp
  by_cases g1 : x * F ≤ y * L
  · by_cases g2 : y * F ≤ x * L
    · rw [decide_eq_true ⟨g1, g2⟩]
      have d1 : decide (x * F ≤ y * L) = true := decide_eq_true g1
      have d2 : decide (y * F ≤ x * L) = true := decide_eq_true g2
      clear g1 g2
      go_enter Try.func51, Try.ntmps51
      go_wp2_with (go_at_call 57; ((with_reducible refine (HM.out _).mono ?_); rintro e w1 ⟨rfl, hb⟩))
      go_ret
      exact ⟨rfl, by (repeat' (first | (with_reducible exact Below.refl _ _) | (with_reducible assumption) | (with_reducible refine belowThru ?_ (by assumption)) | (with_reducible refine belowAlloc ?_) | (with_reducible refine Below.setCell ?_ (by first | omega | (simp; done) | (simp; omega)) _) | (with_reducible refine Below.drew ?_) | (with_reducible refine below_drewN ?_ _)))⟩
    · rw [decide_eq_false (fun k => g2 k.2)]
      have d1 : decide (x * F ≤ y * L) = true := decide_eq_true g1
      have d2 : decide (y * F ≤ x * L) = false := decide_eq_false g2
      clear g1 g2
      go_enter Try.func51, Try.ntmps51
      go_wp2_with (go_at_call 57; ((with_reducible refine (HM.out _).mono ?_); rintro e w1 ⟨rfl, hb⟩))
      go_ret
      exact ⟨rfl, by (repeat' (first | (with_reducible exact Below.refl _ _) | (with_reducible assumption) | (with_reducible refine belowThru ?_ (by assumption)) | (with_reducible refine belowAlloc ?_) | (with_reducible refine Below.setCell ?_ (by first | omega | (simp; done) | (simp; omega)) _) | (with_reducible refine Below.drew ?_) | (with_reducible refine below_drewN ?_ _)))⟩
  · rw [decide_eq_false (fun k => g1 k.1)]
    have d1 : decide (x * F ≤ y * L) = false := decide_eq_false g1
    clear g1
    go_enter Try.func51, Try.ntmps51
    go_wp2_with (go_at_call 57; ((with_reducible refine (HM.out _).mono ?_); rintro e w1 ⟨rfl, hb⟩))
    go_ret
    exact ⟨rfl, by (repeat' (first | (with_reducible exact Below.refl _ _) | (with_reducible assumption) | (with_reducible refine belowThru ?_ (by assumption)) | (with_reducible refine belowAlloc ?_) | (with_reducible refine Below.setCell ?_ (by first | omega | (simp; done) | (simp; omega)) _) | (with_reducible refine Below.drew ?_) | (with_reducible refine below_drewN ?_ _)))⟩
end Go.Proofs.Ytnkpejinnbiocaa
