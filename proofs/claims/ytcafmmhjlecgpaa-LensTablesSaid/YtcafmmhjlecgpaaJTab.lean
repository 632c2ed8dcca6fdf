/-
  Layer 4: tables in the memory; whether a table is valid, by the code and by the document.
-/
import Derived.StillTailTactics
import Derived.Deep.DeepCutAuto
import Derived.Deep.CutRange
import Derived.Test.YtcafmmhjlecgpaaJGray
namespace Go.Proofs.Ytcafmmhjlecgpaa
open Go.RowKit
set_option linter.unusedVariables false
set_option linter.unusedSimpArgs false

/-- A slice that reads as these pairs of numbers. -/
def KRow (w : World) (a : Option Addr) (n : Nat) (ks : List (Int × Int)) : Prop :=
  ks.length = n ∧ (0 < n → ∃ b off, a = some ⟨b, off, none⟩ ∧ b < w.heap.size ∧ ∀ j, j < n → w.cell? ⟨b, off + j * 2, none⟩ = some (.int .i64 (ks[j]?.getD (0, 0)).1) ∧ w.cell? ⟨b, off + j * 2 + 1, none⟩ = some (.int .i64 (ks[j]?.getD (0, 0)).2))
theorem KRow.later {w w' : World} (hb : Below w.heap.size w w') {a : Option Addr} {n : Nat} {ks : List (Int × Int)} (h : KRow w a n ks) : KRow w' a n ks :=
  ⟨h.1, fun hn => by
    obtain ⟨b, off, ha, hlt, hc⟩ := h.2 hn
    exact ⟨b, off, ha, Nat.lt_of_lt_of_le hlt hb.size, fun j hj => ⟨(World.cell?_of_block (w := w) (hb.block b hlt)).trans (hc j hj).1, (World.cell?_of_block (w := w) (hb.block b hlt)).trans (hc j hj).2⟩⟩⟩
theorem KRow.at {w : World} {a : Option Addr} {n : Nat} {ks : List (Int × Int)} (h : KRow w a n ks) {k : Nat} (hk : k < n) :
    ∃ b off x y, a = some ⟨b, off, none⟩ ∧ b < w.heap.size ∧ ks[k]? = some (x, y) ∧ w.cell? ⟨b, off + k * 2, none⟩ = some (.int .i64 x) ∧ w.cell? ⟨b, off + k * 2 + 1, none⟩ = some (.int .i64 y) := by
  obtain ⟨b, off, ha, hlt, hc⟩ := h.2 (by omega)
  have hl : k < ks.length := by rw [h.1]; exact hk
  have e : ks[k]? = some ks[k] := List.getElem?_eq_getElem hl
  have := hc k hk
  rw [e] at this
  exact ⟨b, off, ks[k].1, ks[k].2, ha, hlt, e, this.1, this.2⟩
/-- The first of two knots is before the second one, on both sides. -/
def Lt2 (p q : Int × Int) : Prop := p.1 < q.1 ∧ p.2 < q.2
def InT (p : Int × Int) : Prop := (-4096 ≤ p.1 ∧ p.1 ≤ 4096) ∧ (-4096 ≤ p.2 ∧ p.2 ≤ 4096)
/-- The first k knots are in their ranges, and increase. -/
def UpT (ks : List (Int × Int)) (k : Nat) : Prop := (∀ i p, i < k → ks[i]? = some p → InT p) ∧ ∀ i p q, i + 1 < k → ks[i]? = some p → ks[i + 1]? = some q → Lt2 p q
theorem UpT.zero (ks : List (Int × Int)) : UpT ks 0 := ⟨fun i p h => absurd h (by omega), fun i p q h => absurd h (by omega)⟩
theorem UpT.first {ks : List (Int × Int)} {q : Int × Int} (hq : ks[0]? = some q) (h : InT q) : UpT ks 1 :=
  ⟨fun i p hi hp => by obtain rfl : i = 0 := (by omega); rw [hq] at hp; cases hp; exact h, fun i p q h => absurd h (by omega)⟩
theorem UpT.succ {ks : List (Int × Int)} {k : Nat} {p q : Int × Int} (u : UpT ks (k + 1)) (hp : ks[k]? = some p) (hq : ks[k + 1]? = some q) (h : InT q) (hl : Lt2 p q) : UpT ks (k + 2) := by
  refine ⟨fun i r hi hr => ?_, fun i r s hi hr hs => ?_⟩
  · by_cases e : i = k + 1
    · subst e; rw [hq] at hr; cases hr; exact h
    · exact u.1 i r (by omega) hr
  · by_cases e : i = k
    · subst e; rw [hp] at hr; rw [hq] at hs; cases hr; cases hs; exact hl
    · exact u.2 i r s (by omega) hr hs
/-- A table is valid. -/
def okT (ks : List (Int × Int)) : Prop := (2 ≤ ks.length ∧ ks.length ≤ 16) ∧ UpT ks ks.length
theorem okT.not_in {ks : List (Int × Int)} {k : Nat} {q : Int × Int} (hq : ks[k]? = some q) (h : ¬ InT q) : ¬ okT ks := fun o => h (o.2.1 k q (List.getElem?_eq_some_iff.1 hq).1 hq)
theorem okT.not_lt {ks : List (Int × Int)} {k : Nat} {p q : Int × Int} (hp : ks[k]? = some p) (hq : ks[k + 1]? = some q) (h : ¬ Lt2 p q) : ¬ okT ks := fun o => h (o.2.2 k p q (List.getElem?_eq_some_iff.1 hq).1 hp hq)

instance (p : Int × Int) : Decidable (InT p) := inferInstanceAs (Decidable (_ ∧ _))
theorem within_knot (x y : Int) (B : Nat) (w : World) (h0 : w.cell? ⟨B, 0, none⟩ = some (.int .i64 x)) (h1 : w.cell? ⟨B, 1, none⟩ = some (.int .i64 y)) :
    Calls Try.prog 58 #[.int .i64 (-4096), .int .i64 4096, .slice (some ⟨B, 0, none⟩) 2 2] w fun e w' => e = .returned (.bool (decide (InT (x, y)))) ∧ Below w.heap.size w w' := by
  have := jwithin_any (-4096) 4096 (some ⟨B, 0, none⟩) 2 2 [x, y] (by unfold maxLen; omega) w (Row.two h0 h1)
  have e : decide (AllIn (-4096) 4096 [x, y]) = decide (InT (x, y)) := by
    rw [Bool.eq_iff_iff, decide_eq_true_eq, decide_eq_true_eq]
    refine ⟨fun h => ⟨h x (by simp), h y (by simp)⟩, fun h z hz => ?_⟩
    simp at hz
    rcases hz with rfl | rfl
    · exact h.1
    · exact h.2
  rwa [e] at this
set_option maxRecDepth 100000 in
set_option maxHeartbeats 4000000 in
theorem knots_loop (a : Option Addr) (n c : Nat) (ks : List (Int × Int)) (hn2 : 2 ≤ n) (hn16 : n ≤ 16) (w : World) (hR : KRow w a n ks) :
    Calls Try.prog 21 #[.slice a n c] w fun e w' => (okT ks ∧ e = .returned (.int .i64 0) ∨ ¬ okT ks ∧ e = .returned (.int .i64 40)) ∧ Below w.heap.size w w' := by
  have hx : ks.length = n := hR.1
  have HX := Lib.hid hx; have HR := Lib.hid hR
  clear hx hR
  have p0 : (2 : Int) ≤ (n : Int) := by omega
  have p1 : (n : Int) ≤ 16 := by omega
  have HW1 : Hid (∀ (B : Nat) (w : World), w.cell? ⟨B, 0, none⟩ = some (.int .i64 n) → Calls Try.prog 58 #[.int .i64 2, .int .i64 16, .slice (some ⟨B, 0, none⟩) 1 1] w fun e w' => e = .returned (.bool true) ∧ Below w.heap.size w w') := by
    intro B w h0
    have := jwithin_one 2 16 n B w h0
    rwa [decide_eq_true (show 2 ≤ (n : Int) ∧ (n : Int) ≤ 16 from ⟨p0, p1⟩)] at this
  go_enter Try.func21, Try.ntmps21
  go_wp2_with (go_at_call 58; ((with_reducible refine (HW1.out _ _ (by simp [go_sem])).mono ?_); rintro e wq ⟨rfl, hbq⟩; have hB1 : Below w.heap.size w wq := by (repeat' (first | (with_reducible exact Below.refl _ _) | (with_reducible assumption) | (with_reducible refine belowThru ?_ (by assumption)) | (with_reducible refine belowAlloc ?_) | (with_reducible refine Below.setCell ?_ (by first | omega | (simp; done) | (simp; omega)) _) | (with_reducible refine Below.drew ?_) | (with_reducible refine below_drewN ?_ _)))))
  go_loopw [3, 4, 12] (fun _ _ i wr => ∃ k : Nat, k ≤ n ∧ i = .int .i64 k ∧ Hid (UpT ks k) ∧ Below w.heap.size w wr) (fun _ _ i _ => n - (intOf i).toNat)
  case atStart => exact ⟨0, Nat.zero_le _, rfl, (UpT.zero ks : UpT ks 0), hB1⟩
  case round =>
    obtain ⟨k, hk, rfl, ht, hB⟩ := hrel
    by_cases hlt : k < n
    · obtain ⟨bb, oo, x, y, rfl, l1, h1, c1, d1⟩ := HR.out.at hlt
      have c1 := cell_later hB c1
      have d1 := cell_later hB d1
      have q0 : (0 : Int) ≤ (k : Int) := by omega
      have q1 : (k : Int) < (n : Int) := by omega
      have HWx : Hid (∀ (B : Nat) (w : World), w.cell? ⟨B, 0, none⟩ = some (.int .i64 x) → w.cell? ⟨B, 1, none⟩ = some (.int .i64 y) → Calls Try.prog 58 #[.int .i64 (-4096), .int .i64 4096, .slice (some ⟨B, 0, none⟩) 2 2] w fun e w' => e = .returned (.bool (decide (InT (x, y)))) ∧ Below w.heap.size w w') := fun B w => within_knot x y B w
      by_cases hin : InT (x, y)
      · have HWy := HWx
        clear HWx
        rw [decide_eq_true hin] at HWy
        rcases Nat.eq_zero_or_pos k with rfl | hk0
        · have ht' : Hid (UpT ks (0 + 1)) := UpT.first h1 hin
          have c1 : wr.cell? ⟨bb, oo, none⟩ = some (.int .i64 x) := by simpa using c1
          have d1 : wr.cell? ⟨bb, oo + 1, none⟩ = some (.int .i64 y) := by simpa using d1
          clear h1 hin
          go_upto_region 8 with (go_at_call 58; ((with_reducible refine (HWy.out _ _ (by simp [go_sem]) (by simp [go_sem])).mono ?_); rintro e w1 ⟨rfl, hb⟩; (first | ((with_reducible have k0 := Blk.later hb (Blk.alloc (Blk.new rfl))); (with_reducible have k1 := Blk.later hb (Blk.new rfl)); simp only [World.size_alloc] at k1; obtain ⟨a0, b0⟩ := k0.read; have zl := k0.lt; obtain ⟨a1, b1⟩ := k1.read; have zl := k1.lt) | ((try (have zk := k0.lt; (first | ((with_reducible refine Blk.keepG hb k0 (fun h => ?_) ?_); (focus ((repeat' (first | (with_reducible assumption) | ((with_reducible refine Blk.new ?_); first | rfl | (simp; done)) | (with_reducible refine Blk.later (by assumption) ?_) | (with_reducible refine Blk.alloc ?_) | (with_reducible refine Blk.drewN ?_) | (with_reducible refine Blk.drew ?_) | (with_reducible refine Blk.other ?_ (by first | omega | (simp; done) | (simp; omega))))); done)); clear k0; intro k0) | (with_reducible replace k0 := Blk.later hb (Blk.set (Blk.set k0))) | (with_reducible replace k0 := Blk.later hb (Blk.set k0))); clear a0 b0; obtain ⟨a0, b0⟩ := k0.read; have zl := k0.lt)); (try (have zk := k1.lt; (first | ((with_reducible refine Blk.keepG hb k1 (fun h => ?_) ?_); (focus ((repeat' (first | (with_reducible assumption) | ((with_reducible refine Blk.new ?_); first | rfl | (simp; done)) | (with_reducible refine Blk.later (by assumption) ?_) | (with_reducible refine Blk.alloc ?_) | (with_reducible refine Blk.drewN ?_) | (with_reducible refine Blk.drew ?_) | (with_reducible refine Blk.other ?_ (by first | omega | (simp; done) | (simp; omega))))); done)); clear k1; intro k1) | (with_reducible replace k1 := Blk.later hb (Blk.set (Blk.set k1))) | (with_reducible replace k1 := Blk.later hb (Blk.set k1))); clear a1 b1; obtain ⟨a1, b1⟩ := k1.read; have zl := k1.lt))))))
          go_quiet (fail)
          go_wp2
          go_roundw
          case rel => exact ⟨0 + 1, hlt, by go_num, ht', by (repeat' (first | (with_reducible exact Below.refl _ _) | (with_reducible assumption) | (with_reducible refine belowThru ?_ (by assumption)) | (with_reducible refine belowAlloc ?_) | (with_reducible refine Below.setCell ?_ (by first | omega | (simp; done) | (simp; omega)) _) | (with_reducible refine Below.drew ?_) | (with_reducible refine below_drewN ?_ _)))⟩
          case measure => simp [intOf]; omega
        · obtain ⟨j, rfl⟩ : ∃ j, k = j + 1 := ⟨k - 1, by omega⟩
          obtain ⟨b2, o2, x', y', e2, l2, h2, c2, d2⟩ := HR.out.at (show j < n by omega)
          have e3 : bb = b2 ∧ oo = o2 := by simpa using e2
          obtain ⟨rfl, rfl⟩ := e3
          have c2 := cell_later hB c2
          have d2 := cell_later hB d2
          have q2 : (0 : Int) ≤ (j : Int) := by omega
          have q3 : (j : Int) < (n : Int) := by omega
          clear e2
          by_cases hx1 : x' < x
          · by_cases hy1 : y' < y
            · have ht' : Hid (UpT ks (j + 1 + 1)) := UpT.succ ht.out h2 h1 hin ⟨hx1, hy1⟩
              clear h1 h2 hin
              go_upto_region 8 with (go_at_call 58; ((with_reducible refine (HWy.out _ _ (by simp [go_sem]) (by simp [go_sem])).mono ?_); rintro e w1 ⟨rfl, hb⟩; (first | ((with_reducible have k0 := Blk.later hb (Blk.alloc (Blk.new rfl))); (with_reducible have k1 := Blk.later hb (Blk.new rfl)); simp only [World.size_alloc] at k1; obtain ⟨a0, b0⟩ := k0.read; have zl := k0.lt; obtain ⟨a1, b1⟩ := k1.read; have zl := k1.lt) | ((try (have zk := k0.lt; (first | ((with_reducible refine Blk.keepG hb k0 (fun h => ?_) ?_); (focus ((repeat' (first | (with_reducible assumption) | ((with_reducible refine Blk.new ?_); first | rfl | (simp; done)) | (with_reducible refine Blk.later (by assumption) ?_) | (with_reducible refine Blk.alloc ?_) | (with_reducible refine Blk.drewN ?_) | (with_reducible refine Blk.drew ?_) | (with_reducible refine Blk.other ?_ (by first | omega | (simp; done) | (simp; omega))))); done)); clear k0; intro k0) | (with_reducible replace k0 := Blk.later hb (Blk.set (Blk.set k0))) | (with_reducible replace k0 := Blk.later hb (Blk.set k0))); clear a0 b0; obtain ⟨a0, b0⟩ := k0.read; have zl := k0.lt)); (try (have zk := k1.lt; (first | ((with_reducible refine Blk.keepG hb k1 (fun h => ?_) ?_); (focus ((repeat' (first | (with_reducible assumption) | ((with_reducible refine Blk.new ?_); first | rfl | (simp; done)) | (with_reducible refine Blk.later (by assumption) ?_) | (with_reducible refine Blk.alloc ?_) | (with_reducible refine Blk.drewN ?_) | (with_reducible refine Blk.drew ?_) | (with_reducible refine Blk.other ?_ (by first | omega | (simp; done) | (simp; omega))))); done)); clear k1; intro k1) | (with_reducible replace k1 := Blk.later hb (Blk.set (Blk.set k1))) | (with_reducible replace k1 := Blk.later hb (Blk.set k1))); clear a1 b1; obtain ⟨a1, b1⟩ := k1.read; have zl := k1.lt))))))
              have hBw : Below wr.heap.size wr w1 := by (repeat' (first | (with_reducible exact Below.refl _ _) | (with_reducible assumption) | (with_reducible refine belowThru ?_ (by assumption)) | (with_reducible refine belowAlloc ?_) | (with_reducible refine Below.setCell ?_ (by first | omega | (simp; done) | (simp; omega)) _) | (with_reducible refine Below.drew ?_) | (with_reducible refine below_drewN ?_ _)))
              have c2 := cell_later hBw c2
              have d2 := cell_later hBw d2
              have hwj : IntKind.i64.wrap (j : Int) = (j : Int) := IntWalk.i64_in _ (by omega)
              go_quiet (fail)
              go_wp2
              go_roundw
              case rel => exact ⟨j + 1 + 1, hlt, by go_num, ht', by (repeat' (first | (with_reducible exact Below.refl _ _) | (with_reducible assumption) | (with_reducible refine belowThru ?_ (by assumption)) | (with_reducible refine belowAlloc ?_) | (with_reducible refine Below.setCell ?_ (by first | omega | (simp; done) | (simp; omega)) _) | (with_reducible refine Below.drew ?_) | (with_reducible refine below_drewN ?_ _)))⟩
              case measure => simp [intOf]; omega
            · have hno := Lib.hid (okT.not_lt h2 h1 (fun h => hy1 h.2))
              have hy2 : decide (y ≤ y') = true := by simp; omega
              clear h1 h2 hin
              go_upto_region 8 with (go_at_call 58; ((with_reducible refine (HWy.out _ _ (by simp [go_sem]) (by simp [go_sem])).mono ?_); rintro e w1 ⟨rfl, hb⟩; (first | ((with_reducible have k0 := Blk.later hb (Blk.alloc (Blk.new rfl))); (with_reducible have k1 := Blk.later hb (Blk.new rfl)); simp only [World.size_alloc] at k1; obtain ⟨a0, b0⟩ := k0.read; have zl := k0.lt; obtain ⟨a1, b1⟩ := k1.read; have zl := k1.lt) | ((try (have zk := k0.lt; (first | ((with_reducible refine Blk.keepG hb k0 (fun h => ?_) ?_); (focus ((repeat' (first | (with_reducible assumption) | ((with_reducible refine Blk.new ?_); first | rfl | (simp; done)) | (with_reducible refine Blk.later (by assumption) ?_) | (with_reducible refine Blk.alloc ?_) | (with_reducible refine Blk.drewN ?_) | (with_reducible refine Blk.drew ?_) | (with_reducible refine Blk.other ?_ (by first | omega | (simp; done) | (simp; omega))))); done)); clear k0; intro k0) | (with_reducible replace k0 := Blk.later hb (Blk.set (Blk.set k0))) | (with_reducible replace k0 := Blk.later hb (Blk.set k0))); clear a0 b0; obtain ⟨a0, b0⟩ := k0.read; have zl := k0.lt)); (try (have zk := k1.lt; (first | ((with_reducible refine Blk.keepG hb k1 (fun h => ?_) ?_); (focus ((repeat' (first | (with_reducible assumption) | ((with_reducible refine Blk.new ?_); first | rfl | (simp; done)) | (with_reducible refine Blk.later (by assumption) ?_) | (with_reducible refine Blk.alloc ?_) | (with_reducible refine Blk.drewN ?_) | (with_reducible refine Blk.drew ?_) | (with_reducible refine Blk.other ?_ (by first | omega | (simp; done) | (simp; omega))))); done)); clear k1; intro k1) | (with_reducible replace k1 := Blk.later hb (Blk.set (Blk.set k1))) | (with_reducible replace k1 := Blk.later hb (Blk.set k1))); clear a1 b1; obtain ⟨a1, b1⟩ := k1.read; have zl := k1.lt))))))
              have hBw : Below wr.heap.size wr w1 := by (repeat' (first | (with_reducible exact Below.refl _ _) | (with_reducible assumption) | (with_reducible refine belowThru ?_ (by assumption)) | (with_reducible refine belowAlloc ?_) | (with_reducible refine Below.setCell ?_ (by first | omega | (simp; done) | (simp; omega)) _) | (with_reducible refine Below.drew ?_) | (with_reducible refine below_drewN ?_ _)))
              have c2 := cell_later hBw c2
              have d2 := cell_later hBw d2
              have hwj : IntKind.i64.wrap (j : Int) = (j : Int) := IntWalk.i64_in _ (by omega)
              go_quiet (fail)
              go_wp2
              go_ret
              exact ⟨.inr ⟨hno.out, rfl⟩, by (repeat' (first | (with_reducible exact Below.refl _ _) | (with_reducible assumption) | (with_reducible refine belowThru ?_ (by assumption)) | (with_reducible refine belowAlloc ?_) | (with_reducible refine Below.setCell ?_ (by first | omega | (simp; done) | (simp; omega)) _) | (with_reducible refine Below.drew ?_) | (with_reducible refine below_drewN ?_ _)))⟩
          · have hno := Lib.hid (okT.not_lt h2 h1 (fun h => hx1 h.1))
            have hx2 : decide (x ≤ x') = true := by simp; omega
            clear h1 h2 hin
            go_upto_region 8 with (go_at_call 58; ((with_reducible refine (HWy.out _ _ (by simp [go_sem]) (by simp [go_sem])).mono ?_); rintro e w1 ⟨rfl, hb⟩; (first | ((with_reducible have k0 := Blk.later hb (Blk.alloc (Blk.new rfl))); (with_reducible have k1 := Blk.later hb (Blk.new rfl)); simp only [World.size_alloc] at k1; obtain ⟨a0, b0⟩ := k0.read; have zl := k0.lt; obtain ⟨a1, b1⟩ := k1.read; have zl := k1.lt) | ((try (have zk := k0.lt; (first | ((with_reducible refine Blk.keepG hb k0 (fun h => ?_) ?_); (focus ((repeat' (first | (with_reducible assumption) | ((with_reducible refine Blk.new ?_); first | rfl | (simp; done)) | (with_reducible refine Blk.later (by assumption) ?_) | (with_reducible refine Blk.alloc ?_) | (with_reducible refine Blk.drewN ?_) | (with_reducible refine Blk.drew ?_) | (with_reducible refine Blk.other ?_ (by first | omega | (simp; done) | (simp; omega))))); done)); clear k0; intro k0) | (with_reducible replace k0 := Blk.later hb (Blk.set (Blk.set k0))) | (with_reducible replace k0 := Blk.later hb (Blk.set k0))); clear a0 b0; obtain ⟨a0, b0⟩ := k0.read; have zl := k0.lt)); (try (have zk := k1.lt; (first | ((with_reducible refine Blk.keepG hb k1 (fun h => ?_) ?_); (focus ((repeat' (first | (with_reducible assumption) | ((with_reducible refine Blk.new ?_); first | rfl | (simp; done)) | (with_reducible refine Blk.later (by assumption) ?_) | (with_reducible refine Blk.alloc ?_) | (with_reducible refine Blk.drewN ?_) | (with_reducible refine Blk.drew ?_) | (with_reducible refine Blk.other ?_ (by first | omega | (simp; done) | (simp; omega))))); done)); clear k1; intro k1) | (with_reducible replace k1 := Blk.later hb (Blk.set (Blk.set k1))) | (with_reducible replace k1 := Blk.later hb (Blk.set k1))); clear a1 b1; obtain ⟨a1, b1⟩ := k1.read; have zl := k1.lt))))))
            have hBw : Below wr.heap.size wr w1 := by (repeat' (first | (with_reducible exact Below.refl _ _) | (with_reducible assumption) | (with_reducible refine belowThru ?_ (by assumption)) | (with_reducible refine belowAlloc ?_) | (with_reducible refine Below.setCell ?_ (by first | omega | (simp; done) | (simp; omega)) _) | (with_reducible refine Below.drew ?_) | (with_reducible refine below_drewN ?_ _)))
            have c2 := cell_later hBw c2
            have d2 := cell_later hBw d2
            have hwj : IntKind.i64.wrap (j : Int) = (j : Int) := IntWalk.i64_in _ (by omega)
            go_quiet (fail)
            go_wp2
            go_ret
            exact ⟨.inr ⟨hno.out, rfl⟩, by (repeat' (first | (with_reducible exact Below.refl _ _) | (with_reducible assumption) | (with_reducible refine belowThru ?_ (by assumption)) | (with_reducible refine belowAlloc ?_) | (with_reducible refine Below.setCell ?_ (by first | omega | (simp; done) | (simp; omega)) _) | (with_reducible refine Below.drew ?_) | (with_reducible refine below_drewN ?_ _)))⟩
      · have hno := Lib.hid (okT.not_in h1 hin)
        rw [decide_eq_false hin] at HWx
        clear h1 hin
        rcases Nat.eq_zero_or_pos k with rfl | hk0
        · have c1 : wr.cell? ⟨bb, oo, none⟩ = some (.int .i64 x) := by simpa using c1
          have d1 : wr.cell? ⟨bb, oo + 1, none⟩ = some (.int .i64 y) := by simpa using d1
          go_wp2_with (go_at_call 58; ((with_reducible refine (HWx.out _ _ (by simp [go_sem]) (by simp [go_sem])).mono ?_); rintro e w1 ⟨rfl, hb⟩; (first | ((with_reducible have k0 := Blk.later hb (Blk.alloc (Blk.new rfl))); (with_reducible have k1 := Blk.later hb (Blk.new rfl)); simp only [World.size_alloc] at k1; obtain ⟨a0, b0⟩ := k0.read; have zl := k0.lt; obtain ⟨a1, b1⟩ := k1.read; have zl := k1.lt) | ((try (have zk := k0.lt; (first | ((with_reducible refine Blk.keepG hb k0 (fun h => ?_) ?_); (focus ((repeat' (first | (with_reducible assumption) | ((with_reducible refine Blk.new ?_); first | rfl | (simp; done)) | (with_reducible refine Blk.later (by assumption) ?_) | (with_reducible refine Blk.alloc ?_) | (with_reducible refine Blk.drewN ?_) | (with_reducible refine Blk.drew ?_) | (with_reducible refine Blk.other ?_ (by first | omega | (simp; done) | (simp; omega))))); done)); clear k0; intro k0) | (with_reducible replace k0 := Blk.later hb (Blk.set (Blk.set k0))) | (with_reducible replace k0 := Blk.later hb (Blk.set k0))); clear a0 b0; obtain ⟨a0, b0⟩ := k0.read; have zl := k0.lt)); (try (have zk := k1.lt; (first | ((with_reducible refine Blk.keepG hb k1 (fun h => ?_) ?_); (focus ((repeat' (first | (with_reducible assumption) | ((with_reducible refine Blk.new ?_); first | rfl | (simp; done)) | (with_reducible refine Blk.later (by assumption) ?_) | (with_reducible refine Blk.alloc ?_) | (with_reducible refine Blk.drewN ?_) | (with_reducible refine Blk.drew ?_) | (with_reducible refine Blk.other ?_ (by first | omega | (simp; done) | (simp; omega))))); done)); clear k1; intro k1) | (with_reducible replace k1 := Blk.later hb (Blk.set (Blk.set k1))) | (with_reducible replace k1 := Blk.later hb (Blk.set k1))); clear a1 b1; obtain ⟨a1, b1⟩ := k1.read; have zl := k1.lt))))))
          go_ret
          exact ⟨.inr ⟨hno.out, rfl⟩, by (repeat' (first | (with_reducible exact Below.refl _ _) | (with_reducible assumption) | (with_reducible refine belowThru ?_ (by assumption)) | (with_reducible refine belowAlloc ?_) | (with_reducible refine Below.setCell ?_ (by first | omega | (simp; done) | (simp; omega)) _) | (with_reducible refine Below.drew ?_) | (with_reducible refine below_drewN ?_ _)))⟩
        · go_wp2_with (go_at_call 58; ((with_reducible refine (HWx.out _ _ (by simp [go_sem]) (by simp [go_sem])).mono ?_); rintro e w1 ⟨rfl, hb⟩; (first | ((with_reducible have k0 := Blk.later hb (Blk.alloc (Blk.new rfl))); (with_reducible have k1 := Blk.later hb (Blk.new rfl)); simp only [World.size_alloc] at k1; obtain ⟨a0, b0⟩ := k0.read; have zl := k0.lt; obtain ⟨a1, b1⟩ := k1.read; have zl := k1.lt) | ((try (have zk := k0.lt; (first | ((with_reducible refine Blk.keepG hb k0 (fun h => ?_) ?_); (focus ((repeat' (first | (with_reducible assumption) | ((with_reducible refine Blk.new ?_); first | rfl | (simp; done)) | (with_reducible refine Blk.later (by assumption) ?_) | (with_reducible refine Blk.alloc ?_) | (with_reducible refine Blk.drewN ?_) | (with_reducible refine Blk.drew ?_) | (with_reducible refine Blk.other ?_ (by first | omega | (simp; done) | (simp; omega))))); done)); clear k0; intro k0) | (with_reducible replace k0 := Blk.later hb (Blk.set (Blk.set k0))) | (with_reducible replace k0 := Blk.later hb (Blk.set k0))); clear a0 b0; obtain ⟨a0, b0⟩ := k0.read; have zl := k0.lt)); (try (have zk := k1.lt; (first | ((with_reducible refine Blk.keepG hb k1 (fun h => ?_) ?_); (focus ((repeat' (first | (with_reducible assumption) | ((with_reducible refine Blk.new ?_); first | rfl | (simp; done)) | (with_reducible refine Blk.later (by assumption) ?_) | (with_reducible refine Blk.alloc ?_) | (with_reducible refine Blk.drewN ?_) | (with_reducible refine Blk.drew ?_) | (with_reducible refine Blk.other ?_ (by first | omega | (simp; done) | (simp; omega))))); done)); clear k1; intro k1) | (with_reducible replace k1 := Blk.later hb (Blk.set (Blk.set k1))) | (with_reducible replace k1 := Blk.later hb (Blk.set k1))); clear a1 b1; obtain ⟨a1, b1⟩ := k1.read; have zl := k1.lt))))))
          go_ret
          exact ⟨.inr ⟨hno.out, rfl⟩, by (repeat' (first | (with_reducible exact Below.refl _ _) | (with_reducible assumption) | (with_reducible refine belowThru ?_ (by assumption)) | (with_reducible refine belowAlloc ?_) | (with_reducible refine Below.setCell ?_ (by first | omega | (simp; done) | (simp; omega)) _) | (with_reducible refine Below.drew ?_) | (with_reducible refine below_drewN ?_ _)))⟩
    · obtain rfl : k = n := by omega
      have hyes : Hid (okT ks) := by
        have h := ht.out
        rw [← HX.out] at h
        exact ⟨⟨by rw [HX.out]; exact hn2, by rw [HX.out]; exact hn16⟩, h⟩
      go_wp2
      go_ret
      exact ⟨.inl ⟨hyes.out, rfl⟩, by (repeat' (first | (with_reducible exact Below.refl _ _) | (with_reducible assumption) | (with_reducible refine belowThru ?_ (by assumption)) | (with_reducible refine belowAlloc ?_) | (with_reducible refine Below.setCell ?_ (by first | omega | (simp; done) | (simp; omega)) _) | (with_reducible refine Below.drew ?_) | (with_reducible refine below_drewN ?_ _)))⟩
set_option maxHeartbeats 1000000 in
theorem knots_no (a : Option Addr) (n c : Nat) (hn : n ≤ maxLen) (h : ¬ (2 ≤ n ∧ n ≤ 16)) (w : World) :
    Calls Try.prog 21 #[.slice a n c] w fun e w' => e = .returned (.int .i64 40) ∧ Below w.heap.size w w' := by
  have HW1 : Hid (∀ (B : Nat) (w : World), w.cell? ⟨B, 0, none⟩ = some (.int .i64 n) → Calls Try.prog 58 #[.int .i64 2, .int .i64 16, .slice (some ⟨B, 0, none⟩) 1 1] w fun e w' => e = .returned (.bool false) ∧ Below w.heap.size w w') := by
    intro B w h0
    have := jwithin_one 2 16 n B w h0
    rwa [decide_eq_false (show ¬ (2 ≤ (n : Int) ∧ (n : Int) ≤ 16) from fun k => h (by omega))] at this
  unfold maxLen at hn
  clear h
  go_enter Try.func21, Try.ntmps21
  go_wp2_with (go_at_call 58; ((with_reducible refine (HW1.out _ _ (by simp [go_sem])).mono ?_); rintro e wq ⟨rfl, hbq⟩))
  go_ret
  exact ⟨rfl, by (repeat' (first | (with_reducible exact Below.refl _ _) | (with_reducible assumption) | (with_reducible refine belowThru ?_ (by assumption)) | (with_reducible refine belowAlloc ?_) | (with_reducible refine Below.setCell ?_ (by first | omega | (simp; done) | (simp; omega)) _) | (with_reducible refine Below.drew ?_) | (with_reducible refine below_drewN ?_ _)))⟩
theorem checkKnots_yes {a : Option Addr} {n c : Nat} {ks : List (Int × Int)} (h : okT ks) (w : World) (hR : KRow w a n ks) :
    Calls Try.prog 21 #[.slice a n c] w fun e w' => e = .returned (.int .i64 0) ∧ Below w.heap.size w w' := by
  have hl := h.1
  rw [hR.1] at hl
  refine (knots_loop a n c ks hl.1 hl.2 w hR).mono ?_
  rintro e w' ⟨⟨-, he⟩ | ⟨hn, -⟩, hb⟩
  · exact ⟨he, hb⟩
  · exact absurd h hn
theorem checkKnots_no {a : Option Addr} {n c : Nat} {ks : List (Int × Int)} (hn : n ≤ maxLen) (h : ¬ okT ks) (w : World) (hR : KRow w a n ks) :
    Calls Try.prog 21 #[.slice a n c] w fun e w' => e = .returned (.int .i64 40) ∧ Below w.heap.size w w' := by
  by_cases hl : 2 ≤ n ∧ n ≤ 16
  · refine (knots_loop a n c ks hl.1 hl.2 w hR).mono ?_
    rintro e w' ⟨⟨hy, -⟩ | ⟨-, he⟩, hb⟩
    · exact absurd hy h
    · exact ⟨he, hb⟩
  · exact knots_no a n c hn hl w
end Go.Proofs.Ytcafmmhjlecgpaa
