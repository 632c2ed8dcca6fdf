/-
  Layer 9: counts of a station, and beginnings of assignments, by the document's own.
-/
import Derived.Test.YtnkpejinnbiocaaVRTr
import Derived.Test.YtnkpejinnbiocaaVMxM
import Derived.Test.YtnkpejinnbiocaaVBef
import Derived.Test.YtnkpejinnbiocaaVSam
namespace Go.Proofs.Ytnkpejinnbiocaa
open Go.RowKit Go.Shelf
set_option linter.unusedVariables false
set_option linter.unusedSimpArgs false

def prevI (zs : List Int) (k : Nat) (I : Int) : Prop := (k = 0 ∧ I = -1) ∨ ∃ j : Nat, k = j + 1 ∧ zs[j]? = some I ∧ 0 ≤ I
set_option maxRecDepth 100000 in
set_option maxHeartbeats 16000000 in
theorem rcounts_any (a : Option Addr) (n cap : Nat) (zs : List Int) (hn : n ≤ maxLen) (w : World) (hR : RowK 1 in1 w a n zs) :
    Calls Try.prog 52 #[.slice a n cap] w fun e w' => e = .returned (.bool (decide (cntF (-1) zs))) ∧ Below w.heap.size w w' := by
  unfold maxLen at hn
  have HR := Lib.hid hR
  obtain ⟨R, hRe⟩ : ∃ R : Bool, decide (cntF (-1) zs) = R := ⟨_, rfl⟩
  rw [hRe]
  have HQ : Hid ((cntF (-1) zs → R = true) ∧ (¬ cntF (-1) zs → R = false)) := ⟨fun h => by rw [← hRe, decide_eq_true h], fun h => by rw [← hRe, decide_eq_false h]⟩
  clear hRe hR
  go_enter Try.func52, Try.ntmps52
  go_wp2_with fail
  go_loopw [3] (fun j wr => ∃ (k : Nat) (I : Int), k ≤ n ∧ j = .int .i64 k ∧ Hid (prevI zs k I) ∧ Hid (cntF (-1) zs ↔ cntF I (zs.drop k)) ∧ Below w.heap.size w wr) (fun j _ => n - (intOf j).toNat)
  case atStart => exact ⟨0, -1, Nat.zero_le _, rfl, .inl ⟨rfl, rfl⟩, (Iff.rfl : cntF (-1) zs ↔ cntF (-1) (zs.drop 0)), Below.refl _ _⟩
  case round =>
    obtain ⟨k, I, hk, rfl, hS, ht, hB⟩ := hrel
    by_cases hlt : k < n
    · obtain ⟨bb, oo, z, rfl, hxk, d0⟩ := HR.out.num hlt
      have d0 := cell_later hB d0
      have p0 : (0 : Int) ≤ (k : Int) := by omega
      have p1 : (k : Int) < (n : Int) := by omega
      have HD := Lib.hid (drop_at hxk)
      have HX := Lib.hid hxk
      clear hxk
      rcases hS.out with ⟨rfl, rfl⟩ | ⟨j, rfl, hxj, hI⟩
      · clear hS
        rw [Nat.add_zero] at d0
        have z1 : decide ((0 : Int) < ((0 : Nat) : Int)) = false := by decide
        have z2 : decide ((0 : Int) < 0) = false := by decide
        by_cases g1 : 0 ≤ z ∧ z ≤ 1099511627776
        · have HA := HRw z 0 1099511627776 true (decide_eq_true g1)
          have ht' : Hid (cntF (-1) zs ↔ cntF z (zs.drop (0 + 1))) := by
            refine (ht.out).trans ?_
            rw [HD.out]
            exact ⟨fun h => h.2, fun h => ⟨⟨g1, by have := g1.1; omega⟩, h⟩⟩
          have hS' : Hid (prevI zs (0 + 1) z) := .inr ⟨0, rfl, HX.out, g1.1⟩
          clear ht HD HX g1
          go_wp2_with fail
          go_quiet ((go_at_call 41; with_reducible exact Calls.quiet_of_same ((HA.out _).mono fun e w1 h => ⟨h.1, h.2.symm⟩)))
          go_wp2_with fail
          go_roundw
          case rel => exact ⟨0 + 1, z, hlt, by go_num, hS', ht', by (repeat' (first | (with_reducible exact Below.refl _ _) | (with_reducible assumption) | (with_reducible refine belowThru ?_ (by assumption)) | (with_reducible refine belowAlloc ?_) | (with_reducible refine Below.setCell ?_ (by first | omega | (simp; done) | (simp; omega)) _) | (with_reducible refine Below.drew ?_) | (with_reducible refine below_drewN ?_ _)))⟩
          case measure => simp [intOf]; omega
        · have hz : R = false := HQ.out.2 (fun h => by have h2 := ht.out.1 h; rw [HD.out] at h2; exact g1 h2.1.1)
          have HA := HRw z 0 1099511627776 false (decide_eq_false g1)
          clear g1
          clear ht HD
          go_wp2_with fail
          go_quiet ((go_at_call 41; with_reducible exact Calls.quiet_of_same ((HA.out _).mono fun e w1 h => ⟨h.1, h.2.symm⟩)))
          go_wp2
          go_ret
          exact ⟨by rw [hz]; rfl, by (repeat' (first | (with_reducible exact Below.refl _ _) | (with_reducible assumption) | (with_reducible refine belowThru ?_ (by assumption)) | (with_reducible refine belowAlloc ?_) | (with_reducible refine Below.setCell ?_ (by first | omega | (simp; done) | (simp; omega)) _) | (with_reducible refine Below.drew ?_) | (with_reducible refine below_drewN ?_ _)))⟩
      · clear hS
        obtain ⟨bx, ox, zj, ee, hxj2, e0⟩ := HR.out.num (show j < n by omega)
        cases ee
        rw [hxj] at hxj2
        cases hxj2
        have e0 := cell_later hB e0
        have vq : IntKind.i64.wrap (((j + 1 : Nat) : Int) - 1) = (j : Int) := (IntWalk.i64_in _ (by omega)).trans (by omega)
        have vq2 : IntKind.i64.wrap ((j : Int) + 1 - 1) = (j : Int) := (IntWalk.i64_in _ (by omega)).trans (by omega)
        have vq3 : ((j : Int) + 1 - 1) = (j : Int) := by omega
        have s0 : (0 : Int) ≤ (j : Int) := by omega
        have s1 : (j : Int) < (n : Int) := by omega
        have s3 : decide ((0 : Int) < (j : Int) + 1) = true := decide_eq_true (by omega)
        have s4 : decide ((0 : Int) < ((j + 1 : Nat) : Int)) = true := decide_eq_true (by omega)
        clear hxj
        by_cases g1 : 0 ≤ z ∧ z ≤ 1099511627776
        · by_cases u1 : z ≤ I
          · have e5 : decide (z ≤ I) = true := decide_eq_true u1
            have hz : R = false := HQ.out.2 (fun h => by have h2 := ht.out.1 h; rw [HD.out] at h2; have h3 := h2.1.2; omega)
            have HA := HRw z 0 1099511627776 true (decide_eq_true g1)
            clear g1 u1
            clear ht HD
            go_wp2_with fail
            go_quiet ((go_at_call 41; with_reducible exact Calls.quiet_of_same ((HA.out _).mono fun e w1 h => ⟨h.1, h.2.symm⟩)))
            go_wp2
            go_ret
            exact ⟨by rw [hz]; rfl, by (repeat' (first | (with_reducible exact Below.refl _ _) | (with_reducible assumption) | (with_reducible refine belowThru ?_ (by assumption)) | (with_reducible refine belowAlloc ?_) | (with_reducible refine Below.setCell ?_ (by first | omega | (simp; done) | (simp; omega)) _) | (with_reducible refine Below.drew ?_) | (with_reducible refine below_drewN ?_ _)))⟩
          have e5 : decide (z ≤ I) = false := decide_eq_false u1
          have HA := HRw z 0 1099511627776 true (decide_eq_true g1)
          have ht' : Hid (cntF (-1) zs ↔ cntF z (zs.drop ((j + 1) + 1))) := by
            refine (ht.out).trans ?_
            rw [HD.out]
            exact ⟨fun h => h.2, fun h => ⟨⟨g1, by omega⟩, h⟩⟩
          have hS' : Hid (prevI zs ((j + 1) + 1) z) := .inr ⟨(j + 1), rfl, HX.out, g1.1⟩
          clear ht HD HX g1 u1
          go_wp2_with fail
          go_quiet ((go_at_call 41; with_reducible exact Calls.quiet_of_same ((HA.out _).mono fun e w1 h => ⟨h.1, h.2.symm⟩)))
          go_wp2_with fail
          go_roundw
          case rel => exact ⟨(j + 1) + 1, z, hlt, by go_num, hS', ht', by (repeat' (first | (with_reducible exact Below.refl _ _) | (with_reducible assumption) | (with_reducible refine belowThru ?_ (by assumption)) | (with_reducible refine belowAlloc ?_) | (with_reducible refine Below.setCell ?_ (by first | omega | (simp; done) | (simp; omega)) _) | (with_reducible refine Below.drew ?_) | (with_reducible refine below_drewN ?_ _)))⟩
          case measure => simp [intOf]; omega
        · have hz : R = false := HQ.out.2 (fun h => by have h2 := ht.out.1 h; rw [HD.out] at h2; exact g1 h2.1.1)
          have HA := HRw z 0 1099511627776 false (decide_eq_false g1)
          clear g1
          clear ht HD
          go_wp2_with fail
          go_quiet ((go_at_call 41; with_reducible exact Calls.quiet_of_same ((HA.out _).mono fun e w1 h => ⟨h.1, h.2.symm⟩)))
          go_wp2
          go_ret
          exact ⟨by rw [hz]; rfl, by (repeat' (first | (with_reducible exact Below.refl _ _) | (with_reducible assumption) | (with_reducible refine belowThru ?_ (by assumption)) | (with_reducible refine belowAlloc ?_) | (with_reducible refine Below.setCell ?_ (by first | omega | (simp; done) | (simp; omega)) _) | (with_reducible refine Below.drew ?_) | (with_reducible refine below_drewN ?_ _)))⟩
    · obtain rfl : k = n := by omega
      have hz : R = true := HQ.out.1 (ht.out.2 (by rw [List.drop_eq_nil_of_le (by rw [HR.out.1]; exact Nat.le_refl _)]; trivial))
      clear ht hS
      go_wp2_with fail
      go_ret
      exact ⟨by rw [hz]; rfl, by (repeat' (first | (with_reducible exact Below.refl _ _) | (with_reducible assumption) | (with_reducible refine belowThru ?_ (by assumption)) | (with_reducible refine belowAlloc ?_) | (with_reducible refine Below.setCell ?_ (by first | omega | (simp; done) | (simp; omega)) _) | (with_reducible refine Below.drew ?_) | (with_reducible refine below_drewN ?_ _)))⟩
set_option maxRecDepth 100000 in
set_option maxHeartbeats 16000000 in
theorem asn_any (s p g l : Int) (a1 a2 ax : Option Addr) (n m r c1 c2 cx : Nat) (zs us xs : List Int) (hs : 1 ≤ s ∧ s ≤ 1000) (hp : 0 ≤ p ∧ p ≤ s - 1) (hz : ∀ z ∈ zs, 0 ≤ z ∧ z ≤ 1099511627776) (hu : ∀ z ∈ us, 0 ≤ z ∧ z ≤ 1099511627776) (hx : ∀ v ∈ xs, 0 ≤ v ∧ v < (n : Int)) (hr : r ≤ m) (hm : m ≤ 10) (w : World) (hR1 : RowK 1 in1 w a1 n zs) (hR2 : RowK 1 in1 w a2 m us) (hRx : RowK 1 in1 w ax r xs) :
    Calls Try.prog 62 #[.agg #[.int .i64 s, .int .i64 p, .int .i64 g, .int .i64 l], .slice a1 n c1, .slice a2 m c2, .slice ax r cx] w fun e w' => e = .returned (.bool (asnB s p zs us xs)) ∧ Below w.heap.size w w' := by
  have H1 := Lib.hid hR1; have H2 := Lib.hid hR2; have H3 := Lib.hid hRx
  have HZ := Lib.hid hz; have HU := Lib.hid hu; have HXa := Lib.hid hx; have HSP := Lib.hid (And.intro hs hp)
  obtain ⟨R, hRe⟩ : ∃ R : Bool, asnB s p zs us xs = R := ⟨_, rfl⟩
  rw [hRe]
  have HT : Hid ((∀ i j, i < j → j < r → prB s p zs us xs i j = true) → R = true) := fun h => by rw [← hRe, asnB_iff]; intro i j hij hj; exact h i j hij (by rw [← hRx.1]; exact hj)
  have HF : Hid (∀ i j, i < j → j < r → prB s p zs us xs i j = false → R = false) := fun i j hij hj h => by
    rw [← hRe, Bool.eq_false_iff]
    intro hc
    rw [asnB_iff] at hc
    have := hc i j hij (by rw [hRx.1]; exact hj)
    rw [h] at this; cases this
  clear hRe hR1 hR2 hRx hz hu hx hs hp
  go_enter Try.func62, Try.ntmps62
  go_wp2_with fail
  have kB : Blk (w.alloc (.cells #[.int .i64 s, .int .i64 p, .int .i64 g, .int .i64 l] 23)) w.heap.size #[.int .i64 s, .int .i64 p, .int .i64 g, .int .i64 l] 23 := Blk.new rfl
  have hB : Below w.heap.size w (w.alloc (.cells #[.int .i64 s, .int .i64 p, .int .i64 g, .int .i64 l] 23)) := belowAlloc (Below.refl _ _)
  go_loopw [9] (fun v wr => ∃ j : Nat, j ≤ r ∧ v = .int .i64 j ∧ Hid (∀ i' j', i' < j' → j' < j → prB s p zs us xs i' j' = true) ∧ Blk wr w.heap.size #[.int .i64 s, .int .i64 p, .int .i64 g, .int .i64 l] 23 ∧ Below w.heap.size w wr) (fun v _ => r - (intOf v).toNat)
  case atStart => exact ⟨0, Nat.zero_le _, rfl, fun i' j' _ h => absurd h (Nat.not_lt_zero _), kB, hB⟩
  case round =>
    clear kB hB
    obtain ⟨j, hj, rfl, HJ, kB, hB⟩ := hrel
    by_cases hlt : j < r
    · obtain ⟨W9, rfl⟩ : ∃ z, z = wr := ⟨_, rfl⟩
      have pj0 : (0 : Int) ≤ (j : Int) := by omega
      have pj1 : (j : Int) < (r : Int) := by omega
      have pj2 : (j : Int) < (m : Int) := by omega
      go_wp2_with fail
      go_loopw [10] (fun v wr => ∃ i : Nat, i ≤ j ∧ v = .int .i64 i ∧ Hid (∀ i', i' < i → prB s p zs us xs i' j = true) ∧ Blk wr w.heap.size #[.int .i64 s, .int .i64 p, .int .i64 g, .int .i64 l] 23 ∧ Below w.heap.size w wr) (fun v _ => j - (intOf v).toNat)
      case atStart => exact ⟨0, Nat.zero_le _, rfl, fun i' h => absurd h (Nat.not_lt_zero _), kB, hB⟩
      case round =>
        clear kB hB
        obtain ⟨i, hi, rfl, HI, kB, hB⟩ := hrel
        by_cases hlt2 : i < j
        · obtain ⟨bx, ox, vj, rfl, hvj, f0⟩ := H3.out.num hlt
          obtain ⟨bx', ox', vi, ee, hvi, f1⟩ := H3.out.num (show i < r by omega)
          cases ee
          obtain ⟨q1, q2⟩ := HXa.out _ (List.mem_of_getElem? hvj)
          obtain ⟨q3, q4⟩ := HXa.out _ (List.mem_of_getElem? hvi)
          obtain ⟨tj, rfl⟩ : ∃ t : Nat, vj = (t : Int) := ⟨vj.toNat, by omega⟩
          obtain ⟨ti, rfl⟩ : ∃ t : Nat, vi = (t : Int) := ⟨vi.toNat, by omega⟩
          obtain ⟨by1, oy1, zj, rfl, hzj, f2⟩ := H1.out.num (show tj < n by omega)
          obtain ⟨by1', oy1', zi, ee, hzi, f3⟩ := H1.out.num (show ti < n by omega)
          cases ee
          obtain ⟨bu, ou, uj, rfl, huj, f4⟩ := H2.out.num (show j < m by omega)
          obtain ⟨bu', ou', ui, ee, hui, f5⟩ := H2.out.num (show i < m by omega)
          cases ee
          have r1 := HZ.out _ (List.mem_of_getElem? hzj); have r2 := HZ.out _ (List.mem_of_getElem? hzi)
          have r3 := HU.out _ (List.mem_of_getElem? huj); have r4 := HU.out _ (List.mem_of_getElem? hui)
          have f0 := cell_later hB f0; have f1 := cell_later hB f1; have f2 := cell_later hB f2
          have f3 := cell_later hB f3; have f4 := cell_later hB f4; have f5 := cell_later hB f5
          have HE : Hid (prB s p zs us xs i j = (decide ((ti : Int) < (tj : Int)) && agrB s p (zj - zi) (uj - ui))) := by
            show prB s p zs us xs i j = _
            unfold prB
            rw [getD_of hvi, getD_of hvj, Int.toNat_natCast, Int.toNat_natCast, getD_of hzj, getD_of hzi, getD_of huj, getD_of hui]
          have v1 : IntKind.i64.wrap (zj - zi) = zj - zi := IntWalk.i64_in _ (by omega)
          have v2 : IntKind.i64.wrap (uj - ui) = uj - ui := IntWalk.i64_in _ (by omega)
          have HG := Lib.hid (fun w => ragree_any s p g l (zj - zi) (uj - ui) HSP.out.1 HSP.out.2 (by omega) (by omega) w)
          have pi0 : (0 : Int) ≤ (i : Int) := by omega
          have pi1 : (i : Int) < (j : Int) := by omega
          have pi2 : (i : Int) < (r : Int) := by omega
          have pi3 : (i : Int) < (m : Int) := by omega
          have t1 : (0 : Int) ≤ (tj : Int) := by omega
          have t2 : (tj : Int) < (n : Int) := by omega
          have t3 : (0 : Int) ≤ (ti : Int) := by omega
          have t4 : (ti : Int) < (n : Int) := by omega
          clear hvj hvi hzj hzi huj hui r1 r2 r3 r4 q1 q2 q3 q4
          obtain ⟨aB, bB⟩ := kB.read; have yB := kB.lt
          by_cases h1 : (tj : Int) ≤ (ti : Int)
          · have z1 : decide ((tj : Int) ≤ (ti : Int)) = true := decide_eq_true h1
            have z1' : decide (tj ≤ ti) = true := decide_eq_true (by omega)
            have hz := Lib.hid (HF.out i j hlt2 hlt (by rw [HE.out, decide_eq_false (by omega)]; rfl))
            clear HE HI HJ h1
            go_wp2_with fail
            go_quiet (fail)
            go_wp2
            go_ret
            exact ⟨by rw [hz.out]; rfl, by (repeat' (first | (with_reducible exact Below.refl _ _) | (with_reducible assumption) | (with_reducible refine belowThru ?_ (by assumption)) | (with_reducible refine belowAlloc ?_) | (with_reducible refine Below.setCell ?_ (by first | omega | (simp; done) | (simp; omega)) _) | (with_reducible refine Below.drew ?_) | (with_reducible refine below_drewN ?_ _)))⟩
          · have z1 : decide ((tj : Int) ≤ (ti : Int)) = false := decide_eq_false h1
            have z1' : decide (tj ≤ ti) = false := decide_eq_false (by omega)
            have HE2 : Hid (prB s p zs us xs i j = agrB s p (zj - zi) (uj - ui)) := by
              show prB s p zs us xs i j = _
              rw [HE.out, decide_eq_true (by omega), Bool.true_and]
            clear HE
            obtain ⟨b, hb⟩ : ∃ b, agrB s p (zj - zi) (uj - ui) = b := ⟨_, rfl⟩
            rw [hb] at HG HE2
            have F0 := Lib.hid f0; have F1 := Lib.hid f1; have F2 := Lib.hid f2; have F3 := Lib.hid f3; have F4 := Lib.hid f4; have F5 := Lib.hid f5
            clear hb
            cases b with
            | false =>
              have hz := Lib.hid (HF.out i j hlt2 hlt HE2.out)
              clear HE2 HI HJ h1
              obtain ⟨W8, hW8⟩ : ∃ W, wr = W := ⟨_, rfl⟩
              subst hW8
              go_wp2_with fail
              go_region_held3 (fun w' => (Blk w' w.heap.size #[.int .i64 s, .int .i64 p, .int .i64 g, .int .i64 l] 23 ∧ (∀ i : Nat, w'.cell? ⟨w.heap.size, i, none⟩ = (#[.int .i64 s, .int .i64 p, .int .i64 g, .int .i64 l] : Array Value)[i]?)) ∧ (w'.cell? ⟨bx, ox + j, none⟩ = some (.int .i64 tj) ∧ w'.cell? ⟨bx, ox + i, none⟩ = some (.int .i64 ti) ∧ w'.cell? ⟨by1, oy1 + tj, none⟩ = some (.int .i64 zj) ∧ w'.cell? ⟨by1, oy1 + ti, none⟩ = some (.int .i64 zi) ∧ w'.cell? ⟨bu, ou + j, none⟩ = some (.int .i64 uj) ∧ w'.cell? ⟨bu, ou + i, none⟩ = some (.int .i64 ui)) ∧ Below wr.heap.size wr w')
                (((first | (apply hold1; (focus assumption); intro p0 pB; obtain ⟨pc, pB⟩ := pB) | skip); refine ⟨Blk.full ?_, ?_, ?_⟩; all_goals (first | ((repeat' (first | (with_reducible assumption) | ((with_reducible refine Blk.new ?_); first | rfl | (simp; done)) | (with_reducible refine Blk.later (by assumption) ?_) | (with_reducible refine Blk.alloc ?_) | (with_reducible refine Blk.drewN ?_) | (with_reducible refine Blk.drew ?_) | (with_reducible refine Blk.other ?_ (by first | omega | (simp; done) | (simp; omega))))); done) | ((repeat' (first | (with_reducible exact Below.refl _ _) | (with_reducible assumption) | (with_reducible refine belowThru ?_ (by assumption)) | (with_reducible refine belowAlloc ?_) | (with_reducible refine Below.setCell ?_ (by first | omega | (simp; done) | (simp; omega)) _) | (with_reducible refine Below.drew ?_) | (with_reducible refine below_drewN ?_ _))); done) | exact Below.refl _ _ | exact ⟨cell_later (by (repeat' (first | (with_reducible exact Below.refl _ _) | (with_reducible assumption) | (with_reducible refine belowThru ?_ (by assumption)) | (with_reducible refine belowAlloc ?_) | (with_reducible refine Below.setCell ?_ (by first | omega | (simp; done) | (simp; omega)) _) | (with_reducible refine Below.drew ?_) | (with_reducible refine below_drewN ?_ _)))) F0.out, cell_later (by (repeat' (first | (with_reducible exact Below.refl _ _) | (with_reducible assumption) | (with_reducible refine belowThru ?_ (by assumption)) | (with_reducible refine belowAlloc ?_) | (with_reducible refine Below.setCell ?_ (by first | omega | (simp; done) | (simp; omega)) _) | (with_reducible refine Below.drew ?_) | (with_reducible refine below_drewN ?_ _)))) F1.out, cell_later (by (repeat' (first | (with_reducible exact Below.refl _ _) | (with_reducible assumption) | (with_reducible refine belowThru ?_ (by assumption)) | (with_reducible refine belowAlloc ?_) | (with_reducible refine Below.setCell ?_ (by first | omega | (simp; done) | (simp; omega)) _) | (with_reducible refine Below.drew ?_) | (with_reducible refine below_drewN ?_ _)))) F2.out, cell_later (by (repeat' (first | (with_reducible exact Below.refl _ _) | (with_reducible assumption) | (with_reducible refine belowThru ?_ (by assumption)) | (with_reducible refine belowAlloc ?_) | (with_reducible refine Below.setCell ?_ (by first | omega | (simp; done) | (simp; omega)) _) | (with_reducible refine Below.drew ?_) | (with_reducible refine below_drewN ?_ _)))) F3.out, cell_later (by (repeat' (first | (with_reducible exact Below.refl _ _) | (with_reducible assumption) | (with_reducible refine belowThru ?_ (by assumption)) | (with_reducible refine belowAlloc ?_) | (with_reducible refine Below.setCell ?_ (by first | omega | (simp; done) | (simp; omega)) _) | (with_reducible refine Below.drew ?_) | (with_reducible refine below_drewN ?_ _)))) F4.out, cell_later (by (repeat' (first | (with_reducible exact Below.refl _ _) | (with_reducible assumption) | (with_reducible refine belowThru ?_ (by assumption)) | (with_reducible refine belowAlloc ?_) | (with_reducible refine Below.setCell ?_ (by first | omega | (simp; done) | (simp; omega)) _) | (with_reducible refine Below.drew ?_) | (with_reducible refine below_drewN ?_ _)))) F5.out⟩ | exact ⟨F0.out, F1.out, F2.out, F3.out, F4.out, F5.out⟩)))
                (first
                  | (go_at_call 63; (with_reducible refine (HG.out _).mono ?_); rintro e w1 ⟨rfl, hb⟩))
              all_goals
                apply hold1; (focus assumption); intro p0 pB
                obtain ⟨pc, pB⟩ := pB
                go_wp2_with fail
                go_ret
                exact ⟨by rw [hz.out]; rfl, belowThru hB pB⟩
            | true =>
              have HI' : Hid (∀ i', i' < i + 1 → prB s p zs us xs i' j = true) := fun i' h => by
                by_cases e : i' = i
                · subst e; exact HE2.out
                · exact HI.out i' (by omega)
              clear HE2 HI h1
              obtain ⟨W8, hW8⟩ : ∃ W, wr = W := ⟨_, rfl⟩
              subst hW8
              go_wp2_with fail
              go_region_held3 (fun w' => (Blk w' w.heap.size #[.int .i64 s, .int .i64 p, .int .i64 g, .int .i64 l] 23 ∧ (∀ i : Nat, w'.cell? ⟨w.heap.size, i, none⟩ = (#[.int .i64 s, .int .i64 p, .int .i64 g, .int .i64 l] : Array Value)[i]?)) ∧ (w'.cell? ⟨bx, ox + j, none⟩ = some (.int .i64 tj) ∧ w'.cell? ⟨bx, ox + i, none⟩ = some (.int .i64 ti) ∧ w'.cell? ⟨by1, oy1 + tj, none⟩ = some (.int .i64 zj) ∧ w'.cell? ⟨by1, oy1 + ti, none⟩ = some (.int .i64 zi) ∧ w'.cell? ⟨bu, ou + j, none⟩ = some (.int .i64 uj) ∧ w'.cell? ⟨bu, ou + i, none⟩ = some (.int .i64 ui)) ∧ Below wr.heap.size wr w')
                (((first | (apply hold1; (focus assumption); intro p0 pB; obtain ⟨pc, pB⟩ := pB) | skip); refine ⟨Blk.full ?_, ?_, ?_⟩; all_goals (first | ((repeat' (first | (with_reducible assumption) | ((with_reducible refine Blk.new ?_); first | rfl | (simp; done)) | (with_reducible refine Blk.later (by assumption) ?_) | (with_reducible refine Blk.alloc ?_) | (with_reducible refine Blk.drewN ?_) | (with_reducible refine Blk.drew ?_) | (with_reducible refine Blk.other ?_ (by first | omega | (simp; done) | (simp; omega))))); done) | ((repeat' (first | (with_reducible exact Below.refl _ _) | (with_reducible assumption) | (with_reducible refine belowThru ?_ (by assumption)) | (with_reducible refine belowAlloc ?_) | (with_reducible refine Below.setCell ?_ (by first | omega | (simp; done) | (simp; omega)) _) | (with_reducible refine Below.drew ?_) | (with_reducible refine below_drewN ?_ _))); done) | exact Below.refl _ _ | exact ⟨cell_later (by (repeat' (first | (with_reducible exact Below.refl _ _) | (with_reducible assumption) | (with_reducible refine belowThru ?_ (by assumption)) | (with_reducible refine belowAlloc ?_) | (with_reducible refine Below.setCell ?_ (by first | omega | (simp; done) | (simp; omega)) _) | (with_reducible refine Below.drew ?_) | (with_reducible refine below_drewN ?_ _)))) F0.out, cell_later (by (repeat' (first | (with_reducible exact Below.refl _ _) | (with_reducible assumption) | (with_reducible refine belowThru ?_ (by assumption)) | (with_reducible refine belowAlloc ?_) | (with_reducible refine Below.setCell ?_ (by first | omega | (simp; done) | (simp; omega)) _) | (with_reducible refine Below.drew ?_) | (with_reducible refine below_drewN ?_ _)))) F1.out, cell_later (by (repeat' (first | (with_reducible exact Below.refl _ _) | (with_reducible assumption) | (with_reducible refine belowThru ?_ (by assumption)) | (with_reducible refine belowAlloc ?_) | (with_reducible refine Below.setCell ?_ (by first | omega | (simp; done) | (simp; omega)) _) | (with_reducible refine Below.drew ?_) | (with_reducible refine below_drewN ?_ _)))) F2.out, cell_later (by (repeat' (first | (with_reducible exact Below.refl _ _) | (with_reducible assumption) | (with_reducible refine belowThru ?_ (by assumption)) | (with_reducible refine belowAlloc ?_) | (with_reducible refine Below.setCell ?_ (by first | omega | (simp; done) | (simp; omega)) _) | (with_reducible refine Below.drew ?_) | (with_reducible refine below_drewN ?_ _)))) F3.out, cell_later (by (repeat' (first | (with_reducible exact Below.refl _ _) | (with_reducible assumption) | (with_reducible refine belowThru ?_ (by assumption)) | (with_reducible refine belowAlloc ?_) | (with_reducible refine Below.setCell ?_ (by first | omega | (simp; done) | (simp; omega)) _) | (with_reducible refine Below.drew ?_) | (with_reducible refine below_drewN ?_ _)))) F4.out, cell_later (by (repeat' (first | (with_reducible exact Below.refl _ _) | (with_reducible assumption) | (with_reducible refine belowThru ?_ (by assumption)) | (with_reducible refine belowAlloc ?_) | (with_reducible refine Below.setCell ?_ (by first | omega | (simp; done) | (simp; omega)) _) | (with_reducible refine Below.drew ?_) | (with_reducible refine below_drewN ?_ _)))) F5.out⟩ | exact ⟨F0.out, F1.out, F2.out, F3.out, F4.out, F5.out⟩)))
                (first
                  | (go_at_call 63; (with_reducible refine (HG.out _).mono ?_); rintro e w1 ⟨rfl, hb⟩))
              all_goals
                apply hold1; (focus assumption); intro p0 pB
                obtain ⟨pc, pB⟩ := pB
                go_wp2_with fail
                go_roundw
                case rel => exact ⟨i + 1, hlt2, by go_num, HI', p0, belowThru hB pB⟩
                case measure => simp [intOf]; omega
        · obtain rfl : i = j := by omega
          have HJ' : Hid (∀ i' j', i' < j' → j' < i + 1 → prB s p zs us xs i' j' = true) := fun i' j' h1 h2 => by
            by_cases e : j' = i
            · subst e; exact HI.out i' h1
            · exact HJ.out i' j' h1 (by omega)
          clear HI HJ
          go_wp2_with fail
          go_roundw
          case rel => exact ⟨i + 1, hlt, by go_num, HJ', kB, hB⟩
          case measure => simp [intOf]; omega
    · obtain rfl : j = r := by omega
      have hz := Lib.hid (HT.out HJ.out)
      clear HJ HT HF
      go_wp2_with fail
      go_ret
      exact ⟨by rw [hz.out]; rfl, by (repeat' (first | (with_reducible exact Below.refl _ _) | (with_reducible assumption) | (with_reducible refine belowThru ?_ (by assumption)) | (with_reducible refine belowAlloc ?_) | (with_reducible refine Below.setCell ?_ (by first | omega | (simp; done) | (simp; omega)) _) | (with_reducible refine Below.drew ?_) | (with_reducible refine below_drewN ?_ _)))⟩
end Go.Proofs.Ytnkpejinnbiocaa
