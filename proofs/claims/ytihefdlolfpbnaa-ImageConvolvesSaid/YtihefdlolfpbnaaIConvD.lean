/-
  Layer 2: the document's own convolution.
-/
import Derived.Test.YtihefdlolfpbnaaIConvM
namespace Go.Proofs.Ytihefdlolfpbnaa
open Go.RowKit
set_option linter.unusedVariables false
set_option linter.unusedSimpArgs false

set_option maxRecDepth 100000 in
set_option maxHeartbeats 4000000 in
theorem rconvolved_any (j W H KW KH x y : Int) (hj : j = 1 ∨ j = 2 ∨ j = 3) (a a' : Option Addr) (n c m c' : Nat) (zs ks : List Int) (hI : okI W H zs) (hK : okKn KW KH ks) (x0 : 0 ≤ x) (x1 : x ≤ 16) (y0 : 0 ≤ y) (y1 : y ≤ 16) (w : World) (hR : Row w a n (iv zs)) (hT : Row w a' m (iv ks)) :
    Calls Try.prog 87 #[.agg #[.int .i64 W, .int .i64 H, .slice a n c], .agg #[.int .i64 KW, .int .i64 KH, .slice a' m c'], .int .u8 j, .int .i64 x, .int .i64 y] w fun e w' => e = .returned (.int .i64 (cvN j W H zs KW KH ks x y m)) ∧ Below w.heap.size w w' := by
  have hm : ks.length = m := by have := hT.1; rwa [iv_length] at this
  have hmm := okK_mul hK.1.1 hK.1.2
  have hKW := kn_sides hK.1.1
  have hKH := kn_sides hK.1.2
  have hSS : KW * KH = (m : Int) := by rw [← hm]; exact hK.2.1.symm
  obtain ⟨V, hV⟩ : ∃ V : Nat → Int, V = cvN j W H zs KW KH ks x y := ⟨_, rfl⟩
  have HV0 : Hid (V 0 = 0) := by rw [hV]; rfl
  have HVB : Hid (∀ k : Nat, k ≤ 25 → -3518437208883200 ≤ V k ∧ V k ≤ 3518437208883200) := fun k hk => by
    have := cvN_bd (j := j) hI hK x y k
    rw [hV]; omega
  have HS : Hid (∀ (r i : Nat), (i : Int) < KW → (∃ q : Nat, (r : Int) = (q : Int) * KW ∧ (q : Int) < KH) → ∃ f t b : Int, ks[r + i]? = some f ∧ okFa f ∧ okV b ∧ f * b = t ∧ V (r + i + 1) = V (r + i) + t ∧ (∀ q : Nat, (r : Int) = (q : Int) * KW → ∀ w, Row w a n (iv zs) → Calls Try.prog 116 #[.agg #[.int .i64 W, .int .i64 H, .slice a n c], .int .u8 j, .int .i64 (x - ((i : Int) - KW / 2)), .int .i64 (y - ((q : Int) - KH / 2))] w fun e w' => e = .returned (.int .i64 b) ∧ Below w.heap.size w w')) := by
    intro r i hi ⟨q, hr, hq⟩
    have hlt : r + i < m := by
      have h1 : (q : Int) * KW + KW ≤ KH * KW := by
        have := Int.mul_le_mul_of_nonneg_right (show (q : Int) + 1 ≤ KH by omega) (show 0 ≤ KW by omega)
        rw [Int.add_mul, Int.one_mul] at this; exact this
      rw [Int.mul_comm KH KW] at h1
      omega
    have h2 : ((r + i : Nat) : Int) % KW = (i : Int) := by
      rw [Int.natCast_add, hr, Int.add_comm, Int.add_mul_emod_self_right]; exact Int.emod_eq_of_lt (by omega) hi
    have h3 : ((r + i : Nat) : Int) / KW = (q : Int) := by
      rw [Int.natCast_add, hr, Int.add_comm, Int.add_mul_ediv_right _ _ (by omega), Int.ediv_eq_zero_of_lt (by omega) hi, Int.zero_add]
    have hl : r + i < ks.length := by omega
    refine ⟨ks[r + i], _, bey j W H zs (x - ((i : Int) - KW / 2)) (y - ((q : Int) - KH / 2)), List.getElem?_eq_getElem hl, hK.2.2 _ (List.getElem_mem hl), bey_bd hI _ _, rfl, ?_, ?_⟩
    · rw [hV]
      show _ + cvT j W H zs KW KH ks x y (r + i) = _
      unfold cvT
      rw [h2, h3, List.getElem?_eq_getElem hl]
      rfl
    · intro q' hr' w hR
      have : q' = q := by
        have e : (q' : Int) * KW = (q : Int) * KW := by rw [← hr', hr]
        have := Int.eq_of_mul_eq_mul_right (show KW ≠ 0 by omega) e
        omega
      subst this
      exact beyond_any j W H _ _ hj a n c zs hI (by omega) (by omega) (by omega) (by omega) w hR
  have HMUL : Hid (∀ q : Nat, (q : Int) < KH → ∃ r : Nat, (q : Int) * KW = (r : Int) ∧ r ≤ 20 ∧ ((q + 1 : Nat) : Int) * KW = ((r : Int) + KW) ∧ (r : Int) + KW ≤ (m : Int)) := fun q hq => by
    have h3 := Int.mul_le_mul_of_nonneg_right (show (q : Int) + 1 ≤ KH by omega) (show 0 ≤ KW by omega)
    rw [Int.add_mul, Int.one_mul, Int.mul_comm KH KW, hSS] at h3
    have h1 := Int.mul_le_mul (show (q : Int) ≤ 4 by omega) hKW.2 (by omega) (by omega)
    have h2 := Int.mul_nonneg (show 0 ≤ (q : Int) by omega) (show 0 ≤ KW by omega)
    refine ⟨((q : Int) * KW).toNat, by omega, by omega, ?_, by omega⟩
    rw [Int.natCast_add, Int.add_mul]; omega
  have HM2 : Hid (∀ q : Nat, (q : Int) = KH → (q : Int) * KW = (m : Int)) := fun q hq => by rw [hq, ← hSS, Int.mul_comm]
  have hm25 : (m : Int) ≤ 25 := by omega
  rw [← hV]
  clear hV hI hK hj hm hSS
  have HR := Lib.hid hR
  have HT := Lib.hid hT
  obtain ⟨kw0, kw1⟩ := hKW
  obtain ⟨kh0, kh1⟩ := hKH
  clear hR hT hmm
  have t7 : KW.tdiv 2 = KW / 2 := Int.tdiv_eq_ediv_of_nonneg (by omega)
  have t8 : KH.tdiv 2 = KH / 2 := Int.tdiv_eq_ediv_of_nonneg (by omega)
  have v7 : IntKind.i64.wrap (KW / 2) = KW / 2 := IntWalk.i64_in _ (by omega)
  have v8 : IntKind.i64.wrap (KH / 2) = KH / 2 := IntWalk.i64_in _ (by omega)
  go_enter Try.func87, Try.ntmps87
  go_wp2
  go_loopw [11, 12, 13] (fun s11 s12 _ wr => ∃ q : Nat, (q : Int) ≤ KH ∧ s12 = .int .i64 q ∧ (∃ r : Nat, (q : Int) * KW = (r : Int) ∧ r ≤ m ∧ s11 = .int .i64 (V r)) ∧ Blk wr w.heap.size #[.int .i64 W, .int .i64 H, .slice a n c] 24 ∧ Blk wr (w.heap.size + 1) #[.int .i64 KW, .int .i64 KH, .slice a' m c'] 36 ∧ Below w.heap.size w wr) (fun _ s12 _ _ => KH.toNat - (intOf s12).toNat)
  case atStart => exact ⟨0, by omega, rfl, ⟨0, by simp, by omega, by rw [HV0.out]⟩, by (repeat' (first | (with_reducible assumption) | ((with_reducible refine Blk.new ?_); first | rfl | (simp; done)) | (with_reducible refine Blk.later (by assumption) ?_) | (with_reducible refine Blk.alloc ?_) | (with_reducible refine Blk.drewN ?_) | (with_reducible refine Blk.drew ?_) | (with_reducible refine Blk.other ?_ (by first | omega | (simp; done) | (simp; omega))))), by (repeat' (first | (with_reducible assumption) | ((with_reducible refine Blk.new ?_); first | rfl | (simp; done)) | (with_reducible refine Blk.later (by assumption) ?_) | (with_reducible refine Blk.alloc ?_) | (with_reducible refine Blk.drewN ?_) | (with_reducible refine Blk.drew ?_) | (with_reducible refine Blk.other ?_ (by first | omega | (simp; done) | (simp; omega))))), by (repeat' (first | (with_reducible exact Below.refl _ _) | (with_reducible assumption) | (with_reducible refine belowThru ?_ (by assumption)) | (with_reducible refine belowAlloc ?_) | (with_reducible refine Below.setCell ?_ (by first | omega | (simp; done) | (simp; omega)) _) | (with_reducible refine Below.drew ?_) | (with_reducible refine below_drewN ?_ _)))⟩
  case round =>
    obtain ⟨q, hq, rfl, ⟨r, hr, hrm, rfl⟩, k0, k1, hB⟩ := hrel
    obtain ⟨wo, rfl⟩ : ∃ wo : World, wo = wr := ⟨_, rfl⟩
    obtain ⟨a0, b0⟩ := k0.read; obtain ⟨a1, b1⟩ := k1.read
    have p0 : (0 : Int) ≤ (q : Int) := by omega
    by_cases hlt : (q : Int) < KH
    · obtain ⟨r2, e1, e2, e3, e4⟩ := HMUL.out q hlt
      have er : r2 = r := by omega
      subst er
      have HR1 := Lib.hid hr
      have HR3 := Lib.hid e3
      have HR4 := Lib.hid e4
      have hwr : IntKind.i64.wrap ((q : Int) * KW) = (r2 : Int) := by rw [hr]; exact IntWalk.i64_in _ (by omega)
      have vq : IntKind.i64.wrap ((q : Int) - KH / 2) = (q : Int) - KH / 2 := IntWalk.i64_in _ (by omega)
      have vy : IntKind.i64.wrap (y - ((q : Int) - KH / 2)) = y - ((q : Int) - KH / 2) := IntWalk.i64_in _ (by omega)
      have r0 : (0 : Int) ≤ (r2 : Int) := by omega
      clear hr e1 e3 e4
      go_wp2
      go_loopw [11, 13] (fun s11 s13 wr => ∃ i : Nat, (i : Int) ≤ KW ∧ s13 = .int .i64 i ∧ s11 = .int .i64 (V (r2 + i)) ∧ Blk wr w.heap.size #[.int .i64 W, .int .i64 H, .slice a n c] 24 ∧ Blk wr (w.heap.size + 1) #[.int .i64 KW, .int .i64 KH, .slice a' m c'] 36 ∧ Below w.heap.size w wr) (fun _ s13 _ => KW.toNat - (intOf s13).toNat)
      case atStart => exact ⟨0, by omega, rfl, rfl, k0, k1, hB⟩
      case round =>
        clear k0 k1 a0 b0 a1 b1 hB
        obtain ⟨i, hi, rfl, rfl, k0, k1, hB⟩ := hrel
        obtain ⟨a0, b0⟩ := k0.read; obtain ⟨a1, b1⟩ := k1.read
        have p2 : (0 : Int) ≤ (i : Int) := by omega
        by_cases hli : (i : Int) < KW
        · obtain ⟨f, t, b, hf, hfa, hbv, hft, hvs, hcall⟩ := HS.out r2 i hli ⟨q, HR1.out.symm, hlt⟩
          have hC := Lib.hid (hcall q HR1.out.symm)
          have htb := fb_bd hfa hbv
          have hvb := HVB.out (r2 + i) (by omega)
          rw [hft] at htb
          have wft : IntKind.i64.wrap (f * b) = t := by rw [hft]; exact IntWalk.i64_in _ (by omega)
          have HVS := Lib.hid hvs
          obtain ⟨s, hs⟩ : ∃ s, V (r2 + i) = s := ⟨_, rfl⟩
          rw [hs] at hvb HVS ⊢
          obtain ⟨k, hk⟩ : ∃ k, r2 + i = k := ⟨_, rfl⟩
          rw [hk] at hf
          have hkm : k < m := by
            have := HT.out.1; rw [iv_length] at this
            rcases Nat.lt_or_ge k ks.length with h | h
            · omega
            · rw [List.getElem?_eq_none h] at hf; cases hf
          have wix : IntKind.i64.wrap ((r2 : Int) + (i : Int)) = (k : Int) := by rw [show (r2 : Int) + (i : Int) = (k : Int) by omega]; exact IntWalk.i64_in _ (by omega)
          have hk0 : (0 : Int) ≤ (k : Int) := by omega
          have hk1 : (k : Int) < (m : Int) := by omega
          have v9 : IntKind.i64.wrap ((i : Int) - KW / 2) = (i : Int) - KW / 2 := IntWalk.i64_in _ (by omega)
          have vx : IntKind.i64.wrap (x - ((i : Int) - KW / 2)) = x - ((i : Int) - KW / 2) := IntWalk.i64_in _ (by omega)
          have wst : IntKind.i64.wrap (s + t) = s + t := IntWalk.i64_in _ (by omega)
          obtain ⟨g, off, z, rfl, -, hz, hcell⟩ := HT.out.int hkm
          rw [hf] at hz
          obtain rfl := (Option.some.inj hz)
          have HK := Lib.hid hk
          have HC := Lib.hid hcell
          clear hfa hbv hft hvs hcall htb hs hk hf hz hvb
          go_upto_region 8 with fail
          have hcell' := cell_later hB HC.out
          go_region_held3 (fun w' => (Blk w' w.heap.size #[.int .i64 W, .int .i64 H, .slice a n c] 24 ∧ (∀ i : Nat, w'.cell? ⟨w.heap.size, i, none⟩ = (#[.int .i64 W, .int .i64 H, .slice a n c] : Array Value)[i]?)) ∧ (Blk w' (w.heap.size + 1) #[.int .i64 KW, .int .i64 KH, .slice (some ⟨g, off, none⟩) m c'] 36 ∧ (∀ i : Nat, w'.cell? ⟨w.heap.size + 1, i, none⟩ = (#[.int .i64 KW, .int .i64 KH, .slice (some ⟨g, off, none⟩) m c'] : Array Value)[i]?)) ∧ w'.cell? ⟨g, off + k, none⟩ = some (.int .i64 f) ∧ Below w.heap.size w w')
            (((first | (apply hold2; (focus assumption); intro p0 p1 pB; obtain ⟨pc, pB⟩ := pB) | skip); refine ⟨Blk.full ?_, Blk.full ?_, ?_, ?_⟩; all_goals (first | ((repeat' (first | (with_reducible assumption) | ((with_reducible refine Blk.new ?_); first | rfl | (simp; done)) | (with_reducible refine Blk.later (by assumption) ?_) | (with_reducible refine Blk.alloc ?_) | (with_reducible refine Blk.drewN ?_) | (with_reducible refine Blk.drew ?_) | (with_reducible refine Blk.other ?_ (by first | omega | (simp; done) | (simp; omega))))); done) | ((repeat' (first | (with_reducible exact Below.refl _ _) | (with_reducible assumption) | (with_reducible refine belowThru ?_ (by assumption)) | (with_reducible refine belowAlloc ?_) | (with_reducible refine Below.setCell ?_ (by first | omega | (simp; done) | (simp; omega)) _) | (with_reducible refine Below.drew ?_) | (with_reducible refine below_drewN ?_ _))); done) | (exact cell_later (by (repeat' (first | (with_reducible exact Below.refl _ _) | (with_reducible assumption) | (with_reducible refine belowThru ?_ (by assumption)) | (with_reducible refine belowAlloc ?_) | (with_reducible refine Below.setCell ?_ (by first | omega | (simp; done) | (simp; omega)) _) | (with_reducible refine Below.drew ?_) | (with_reducible refine below_drewN ?_ _)))) HC.out))))
            (first
            | (go_at_call 116; (with_reducible refine (hC.out _ (HR.out.later (by (repeat' (first | (with_reducible exact Below.refl _ _) | (with_reducible assumption) | (with_reducible refine belowThru ?_ (by assumption)) | (with_reducible refine belowAlloc ?_) | (with_reducible refine Below.setCell ?_ (by first | omega | (simp; done) | (simp; omega)) _) | (with_reducible refine Below.drew ?_) | (with_reducible refine below_drewN ?_ _)))))).mono ?_); rintro e w1 ⟨rfl, hb⟩))
          all_goals
            apply hold2; (focus assumption); intro p0 p1 pB; obtain ⟨pc, pB⟩ := pB
            go_wp2_with fail
            go_roundw
            case rel => exact ⟨i + 1, by omega, by go_num, by rw [show V (r2 + (i + 1)) = s + t from HVS.out], p0, p1, pB⟩
            case measure => simp [intOf]; omega
        · have hie : (i : Int) = KW := by omega
          have HIE := Lib.hid hie
          clear hi
          have p3 : KW ≤ (i : Int) := by omega
          clear hie
          go_wp2
          go_roundw
          case rel => exact ⟨q + 1, by omega, by go_num, ⟨r2 + i, by rw [HR3.out, Int.natCast_add, HIE.out], by have := HIE.out; have := HR4.out; omega, rfl⟩, k0, k1, hB⟩
          case measure => simp [intOf]; omega
    · have hqe : (q : Int) = KH := by omega
      have hrm : r = m := by have := HM2.out q hqe; omega
      subst hrm
      clear hr hqe
      go_wp2
      go_ret
      exact ⟨rfl, by (repeat' (first | (with_reducible exact Below.refl _ _) | (with_reducible assumption) | (with_reducible refine belowThru ?_ (by assumption)) | (with_reducible refine belowAlloc ?_) | (with_reducible refine Below.setCell ?_ (by first | omega | (simp; done) | (simp; omega)) _) | (with_reducible refine Below.drew ?_) | (with_reducible refine below_drewN ?_ _)))⟩
end Go.Proofs.Ytihefdlolfpbnaa
