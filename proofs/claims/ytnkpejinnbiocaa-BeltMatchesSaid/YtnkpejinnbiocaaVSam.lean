/-
  Layer 9: whether lists of lists are the same.
-/
import Derived.Test.YtnkpejinnbiocaaVApi
namespace Go.Proofs.Ytnkpejinnbiocaa
open Go.RowKit Go.Shelf
set_option linter.unusedVariables false
set_option linter.unusedSimpArgs false


/-- A slice of slices that reads as these lists. -/
def RdL (w : World) (a : Option Addr) (n : Nat) (L : List (List Int)) : Prop := ∃ hs : List Sl, RowK 1 sl1 w a n hs ∧ L.length = n ∧ ∀ (i : Nat) (h : Sl) (y : List Int), hs[i]? = some h → L[i]? = some y → RowK 1 in1 w h.1 h.2.1 y
theorem RdL.later {w w' : World} (hb : Below w.heap.size w w') {a : Option Addr} {n : Nat} {L : List (List Int)} (h : RdL w a n L) : RdL w' a n L := by
  obtain ⟨hs, h1, h2, h3⟩ := h
  exact ⟨hs, h1.later hb, h2, fun i h y hi hy => (h3 i h y hi hy).later hb⟩
theorem AllR.rd {B : Nat} {w : World} {a : Option Addr} {n c : Nat} {L : List (List Int)} (h : AllR B w (.slice a n c) L) (hn : L.length = n) : RdL w a n L := by
  obtain ⟨hs, h1, h2, h3⟩ := h
  obtain ⟨a', c', e, hr, -⟩ := h1.row elem_sl
  cases e
  rw [← hn, ← h2]
  refine ⟨hs, hr, h2.symm, fun i h y hi hy => ?_⟩
  have q := h3 i h y hi hy
  obtain ⟨a', c', e, hr, -⟩ := q.row elem_in
  obtain ⟨x1, x2, x3⟩ := h
  cases e
  exact hr
/-- The i-th list. -/
theorem RdL.at {w : World} {a : Option Addr} {n : Nat} {L : List (List Int)} (h : RdL w a n L) {i : Nat} (hi : i < n) :
    ∃ b off a1 n1 c1 y, a = some ⟨b, off, none⟩ ∧ w.cell? ⟨b, off + i, none⟩ = some (.slice a1 n1 c1) ∧ L[i]? = some y ∧ y.length = n1 ∧ RowK 1 in1 w a1 n1 y := by
  obtain ⟨hs, h1, h2, h3⟩ := h
  obtain ⟨b, off, ⟨a1, n1, c1⟩, ha, -, hx, hc⟩ := h1.at hi
  have hy : L[i]? = some (L[i]'(by omega)) := List.getElem?_eq_getElem _
  have h0 := hc 0 _ rfl
  rw [Nat.mul_one, Nat.add_zero] at h0
  have q := h3 i _ _ hx hy
  exact ⟨b, off, a1, n1, c1, _, ha, h0, hy, q.1, q⟩
theorem RowK.num {w : World} {a : Option Addr} {n : Nat} {xs : List Int} (h : RowK 1 in1 w a n xs) {j : Nat} (hj : j < n) : ∃ b off z, a = some ⟨b, off, none⟩ ∧ xs[j]? = some z ∧ w.cell? ⟨b, off + j, none⟩ = some (.int .i64 z) := by
  obtain ⟨b, off, z, ha, -, hx, hc⟩ := h.at hj
  have h0 := hc 0 _ rfl
  rw [Nat.mul_one, Nat.add_zero] at h0
  exact ⟨b, off, z, ha, hx, h0⟩
set_option maxRecDepth 100000 in
set_option maxHeartbeats 16000000 in
theorem sameLists_any (a b : Option Addr) (n m c d : Nat) (L K : List (List Int)) (hn : n ≤ 1099511627776) (hL : ∀ y ∈ L, y.length ≤ 1099511627776) (w : World) (hR : RdL w a n L) (hS : RdL w b m K) :
    Calls Try.prog 24 #[.slice a n c, .slice b m d] w fun e w' => e = .returned (.bool (decide (L = K))) ∧ Below w.heap.size w w' := by
  have hl : L.length = n := by obtain ⟨_, _, h, _⟩ := hR; exact h
  have hk : K.length = m := by obtain ⟨_, _, h, _⟩ := hS; exact h
  obtain ⟨R, hRe⟩ : ∃ R : Bool, decide (L = K) = R := ⟨_, rfl⟩
  rw [hRe]
  have HQ : Hid ((L = K → R = true) ∧ (¬ L = K → R = false)) := ⟨fun h => by rw [← hRe, decide_eq_true h], fun h => by rw [← hRe, decide_eq_false h]⟩
  clear hRe
  have HR := Lib.hid hR; have HS := Lib.hid hS; have HL := Lib.hid hl; have HK := Lib.hid hk; have HB := Lib.hid hL
  clear hR hS hL
  by_cases hnm : n = m
  · subst hnm
    clear hl hk
    have d0 : ((n : Int) != (n : Int)) = false := by simp
    go_enter Try.func24, Try.ntmps24
    go_wp2_with fail
    go_loopw [5] (fun v wr => ∃ i : Nat, i ≤ n ∧ v = .int .i64 i ∧ Hid (L.take i = K.take i) ∧ Below w.heap.size w wr) (fun v _ => n - (intOf v).toNat)
    case atStart => exact ⟨0, Nat.zero_le _, rfl, (by show _ = _; simp), Below.refl _ _⟩
    case round =>
      obtain ⟨i, hi, rfl, ht, hB⟩ := hrel
      by_cases hlt : i < n
      · obtain ⟨b1, o1, a1, n1, e1, y, rfl, g1, hy, hyl, hr1⟩ := HR.out.at hlt
        obtain ⟨b2, o2, a2, n2, e2, z, rfl, g2, hz, hzl, hr2⟩ := HS.out.at hlt
        have g1 := cell_later hB g1
        have g2 := cell_later hB g2
        have p0 : (0 : Int) ≤ (i : Int) := by omega
        have p1 : (i : Int) < (n : Int) := by omega
        have hn1 : n1 ≤ 1099511627776 := by rw [← hyl]; exact HB.out y (List.mem_of_getElem? hy)
        have HY := Lib.hid hy; have HZ := Lib.hid hz; have HYL := Lib.hid hyl; have HZL := Lib.hid hzl
        have HR1 := Lib.hid (hr1.later hB); have HR2 := Lib.hid (hr2.later hB)
        clear hy hz hyl hzl hr1 hr2
        by_cases hnn : n1 = n2
        · subst hnn
          have d1 : ((n1 : Int) != (n1 : Int)) = false := by simp
          go_wp2_with fail
          go_quiet (fail)
          obtain ⟨W1, hW1⟩ : ∃ W, wr.drewN nq = W := ⟨_, rfl⟩
          have hb1 : Below wr.heap.size wr W1 := by rw [← hW1]; exact below_drewN (Below.refl _ _) _
          rw [hW1]
          clear hW1
          replace g1 := cell_later hb1 g1; replace g2 := cell_later hb1 g2
          replace HR1 := Lib.hid (HR1.out.later hb1); replace HR2 := Lib.hid (HR2.out.later hb1)
          replace hB := belowThru hB hb1
          clear hb1
          go_wp2_with fail
          go_loopw [6] (fun v w5 => ∃ j : Nat, j ≤ n1 ∧ v = .int .i64 j ∧ Hid (y.take j = z.take j) ∧ Below W1.heap.size W1 w5) (fun v _ => n1 - (intOf v).toNat)
          case atStart => exact ⟨0, Nat.zero_le _, rfl, (by show _ = _; simp), Below.refl _ _⟩
          case round =>
            obtain ⟨j, hj, rfl, hu, hB5⟩ := hrel
            have g1 := cell_later hB5 g1
            have g2 := cell_later hB5 g2
            by_cases hjl : j < n1
            · obtain ⟨b3, o3, u, rfl, hu1, f1⟩ := HR1.out.num hjl
              obtain ⟨b4, o4, v, rfl, hv1, f2⟩ := HR2.out.num hjl
              have f1 := cell_later hB5 f1
              have f2 := cell_later hB5 f2
              have q0 : (0 : Int) ≤ (j : Int) := by omega
              have q1 : (j : Int) < (n1 : Int) := by omega
              by_cases huv : u = v
              · subst huv
                have hu' : Hid (y.take (j + 1) = z.take (j + 1)) := by show _ = _; rw [List.take_add_one, List.take_add_one, hu1, hv1, hu.out]
                have d2 : (u != u) = false := by simp
                clear hu1 hv1 hu
                go_wp2_with fail
                go_quiet (fail)
                go_wp2_with fail
                go_roundw
                case rel => exact ⟨j + 1, hjl, by go_num, hu', by (repeat' (first | (with_reducible exact Below.refl _ _) | (with_reducible assumption) | (with_reducible refine belowThru ?_ (by assumption)) | (with_reducible refine belowAlloc ?_) | (with_reducible refine Below.setCell ?_ (by first | omega | (simp; done) | (simp; omega)) _) | (with_reducible refine Below.drew ?_) | (with_reducible refine below_drewN ?_ _)))⟩
                case measure => simp [intOf]; omega
              · have hz : R = false := HQ.out.2 (fun h => huv (by have e1 := HY.out; have e2 := HZ.out; rw [h, e2] at e1; cases e1; rw [hu1] at hv1; exact Option.some.inj hv1))
                have d2 : (u != v) = true := by simpa using huv
                clear hu1 hv1 hu huv
                go_wp2_with fail
                go_quiet (fail)
                go_wp2_with fail
                go_ret
                exact ⟨by rw [hz]; rfl, by (repeat' (first | (with_reducible exact Below.refl _ _) | (with_reducible assumption) | (with_reducible refine belowThru ?_ (by assumption)) | (with_reducible refine belowAlloc ?_) | (with_reducible refine Below.setCell ?_ (by first | omega | (simp; done) | (simp; omega)) _) | (with_reducible refine Below.drew ?_) | (with_reducible refine below_drewN ?_ _)))⟩
            · have hyz : y = z := by
                have h := hu.out
                rwa [List.take_of_length_le (by rw [HYL.out]; omega), List.take_of_length_le (by rw [HZL.out]; omega)] at h
              have ht' : Hid (L.take (i + 1) = K.take (i + 1)) := by show _ = _; rw [List.take_add_one, List.take_add_one, HY.out, HZ.out, ht.out, hyz]
              clear hyz hu
              go_wp2_with fail
              go_roundw
              case rel => exact ⟨i + 1, hlt, by go_num, ht', by (repeat' (first | (with_reducible exact Below.refl _ _) | (with_reducible assumption) | (with_reducible refine belowThru ?_ (by assumption)) | (with_reducible refine belowAlloc ?_) | (with_reducible refine Below.setCell ?_ (by first | omega | (simp; done) | (simp; omega)) _) | (with_reducible refine Below.drew ?_) | (with_reducible refine below_drewN ?_ _)))⟩
              case measure => simp [intOf]; omega
        · have hz : R = false := HQ.out.2 (fun h => hnn (by have e1 := HY.out; have e2 := HZ.out; rw [h, e2] at e1; cases e1; rw [← HYL.out, ← HZL.out]))
          have d1 : ((n1 : Int) != (n2 : Int)) = true := by simp; omega
          clear hnn
          go_wp2_with fail
          go_quiet (fail)
          go_wp2_with fail
          go_ret
          exact ⟨by rw [hz]; rfl, by (repeat' (first | (with_reducible exact Below.refl _ _) | (with_reducible assumption) | (with_reducible refine belowThru ?_ (by assumption)) | (with_reducible refine belowAlloc ?_) | (with_reducible refine Below.setCell ?_ (by first | omega | (simp; done) | (simp; omega)) _) | (with_reducible refine Below.drew ?_) | (with_reducible refine below_drewN ?_ _)))⟩
      · have hz : R = true := HQ.out.1 (by have h := ht.out; rwa [List.take_of_length_le (by rw [HL.out]; omega), List.take_of_length_le (by rw [HK.out]; omega)] at h)
        clear ht
        go_wp2_with fail
        go_ret
        exact ⟨by rw [hz]; rfl, by (repeat' (first | (with_reducible exact Below.refl _ _) | (with_reducible assumption) | (with_reducible refine belowThru ?_ (by assumption)) | (with_reducible refine belowAlloc ?_) | (with_reducible refine Below.setCell ?_ (by first | omega | (simp; done) | (simp; omega)) _) | (with_reducible refine Below.drew ?_) | (with_reducible refine below_drewN ?_ _)))⟩
  · have hz : R = false := HQ.out.2 (fun h => hnm (by rw [← hl, ← hk, h]))
    have d0 : ((n : Int) != (m : Int)) = true := by simp; omega
    clear hl hk hnm
    go_enter Try.func24, Try.ntmps24
    go_wp2_with fail
    go_ret
    exact ⟨by rw [hz]; rfl, by (repeat' (first | (with_reducible exact Below.refl _ _) | (with_reducible assumption) | (with_reducible refine belowThru ?_ (by assumption)) | (with_reducible refine belowAlloc ?_) | (with_reducible refine Below.setCell ?_ (by first | omega | (simp; done) | (simp; omega)) _) | (with_reducible refine Below.drew ?_) | (with_reducible refine below_drewN ?_ _)))⟩
end Go.Proofs.Ytnkpejinnbiocaa
