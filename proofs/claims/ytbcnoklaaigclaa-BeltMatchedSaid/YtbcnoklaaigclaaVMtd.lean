/-
  The law BeltMatched.
-/
import Derived.Test.YtbcnoklaaigclaaVBef
import Derived.Test.YtbcnoklaaigclaaVAl3
namespace Go.Proofs.Ytbcnoklaaigclaa
open Go.RowKit Go.Shelf
set_option linter.unusedVariables false
set_option linter.unusedSimpArgs false


def good (s p g l : Int) (zs us : List Int) (n m : Nat) : Prop := okB s p g l ∧ cntF (-1) zs ∧ cntF (-1) us ∧ 0 < (asgB s p zs us n m [] 0 0).length
theorem rowIv {w : World} {a : Option Addr} {n : Nat} {xs : List Int} (h : RowK 1 in1 w a n xs) : Row w a n (iv xs) := by
  refine ⟨by rw [iv_length]; exact h.1, fun hn => ?_⟩
  obtain ⟨b, off, ha, hlt, hc⟩ := h.2 hn
  refine ⟨b, off, ha, hlt, fun j hj => ?_⟩
  have e : xs[j]? = some (xs[j]'(by rw [h.1]; exact hj)) := List.getElem?_eq_getElem _
  have q := hc j _ e 0 _ rfl
  rw [Nat.mul_one, Nat.add_zero] at q
  rw [q, iv_get, e]
  rfl
/-- Match, of any lists of up to ten numbers. -/
theorem match_any (s p g l : Int) (a1 a2 : Option Addr) (n m c1 c2 : Nat) (zs us : List Int) (hn : n ≤ 10) (hm : m ≤ 10) (w : World) (hR1 : RowK 1 in1 w a1 n zs) (hR2 : RowK 1 in1 w a2 m us) :
    Calls Try.prog 19 #[.agg #[.int .i64 s, .int .i64 p, .int .i64 g, .int .i64 l], .slice a1 n c1, .slice a2 m c2] w fun e w' => ((∃ E, (E != 0) = true ∧ e = .returned (.tuple #[.slice none 0 0, .int .i64 E]) ∧ (¬ okB s p g l ∧ E = 90 ∨ okB s p g l ∧ ¬ good s p g l zs us n m)) ∨ (good s p g l zs us n m ∧ ∃ av cv, e = .returned (.tuple #[.slice av (asgB s p zs us n m [] 0 0).length cv, .int .i64 0]) ∧ AllR w.heap.size w' (.slice av (asgB s p zs us n m [] 0 0).length cv) (asgB s p zs us n m [] 0 0))) ∧ Below w.heap.size w w' := by
  have r1 := rowIv hR1; have r2 := rowIv hR2
  by_cases h : okB s p g l
  · have HC := HCk s p g l 0 (if_pos h)
    have H1 : ∀ w, Row w a1 n (iv zs) → Calls Try.prog 57 #[.slice a1 n c1] w fun e w' => e = .returned (.bool (decide (cntF (-1) zs))) ∧ Below w.heap.size w w' := fun w hR => areCounts_any a1 n c1 zs (by unfold maxLen; omega) w hR
    have H2 : ∀ w, Row w a2 m (iv us) → Calls Try.prog 57 #[.slice a2 m c2] w fun e w' => e = .returned (.bool (decide (cntF (-1) us))) ∧ Below w.heap.size w w' := fun w hR => areCounts_any a2 m c2 us (by unfold maxLen; omega) w hR
    by_cases hz : cntF (-1) zs
    · by_cases hu : cntF (-1) us
      · refine (match_ok h hn hm hz hu w r1 r2).mono fun e w' ⟨⟨av, cv, hE, hAll⟩, hb⟩ => ⟨?_, hb⟩
        rcases hE with ⟨h0, rfl⟩ | ⟨h0, rfl⟩
        · exact .inl ⟨6, rfl, rfl, .inr ⟨h, fun k => by have := k.2.2.2; rw [h0] at this; simp at this⟩⟩
        · exact .inr ⟨⟨h, hz, hu, h0⟩, av, cv, rfl, hAll⟩
      · exact (match_arg s p g l a1 a2 n m c1 c2 zs us true false (Int.lt_or_le _ _) (.inr ⟨rfl, rfl⟩) w hn hm r1 r2 HC (fun w hR => by have := H1 w hR; rwa [decide_eq_true hz] at this) (fun w hR => by have := H2 w hR; rwa [decide_eq_false hu] at this)).mono fun e w' ⟨he, hb⟩ => ⟨.inl ⟨2, rfl, he, .inr ⟨h, fun k => hu k.2.2.1⟩⟩, hb⟩
    · exact (match_arg s p g l a1 a2 n m c1 c2 zs us false (decide (cntF (-1) us)) (Int.lt_or_le _ _) (.inl rfl) w hn hm r1 r2 HC (fun w hR => by have := H1 w hR; rwa [decide_eq_false hz] at this) H2).mono fun e w' ⟨he, hb⟩ => ⟨.inl ⟨2, rfl, he, .inr ⟨h, fun k => hz k.2.1⟩⟩, hb⟩
  · exact (match_bad s p g l a1 a2 n m c1 c2 90 rfl w (HCk s p g l 90 (if_neg h))).mono fun e w' ⟨he, hb⟩ => ⟨.inl ⟨90, rfl, he, .inl ⟨h, rfl⟩⟩, hb⟩
theorem cntF_inc : ∀ (zs : List Int) (b : Int), cntF b zs → ∀ (i j : Nat) (u v : Int), i < j → zs[i]? = some u → zs[j]? = some v → u < v := by
  intro zs
  induction zs with
  | nil => intro b _ i j u v _ h; cases h
  | cons x xs ih =>
    intro b h i j u v hij hu hv
    have hall : ∀ (ys : List Int) (c : Int), cntF c ys → ∀ y ∈ ys, c < y := by
      intro ys
      induction ys with
      | nil => intro c _ y hy; cases hy
      | cons z ys ih2 =>
        intro c hc y hy
        rcases List.mem_cons.1 hy with rfl | hy
        · exact hc.1.2
        · have h1 := hc.1.2
          have h2 := ih2 z hc.2 y hy
          omega
    cases j with
    | zero => omega
    | succ j =>
      rw [List.getElem?_cons_succ] at hv
      cases i with
      | zero => cases hu; exact hall _ _ h.2 v (List.mem_of_getElem? hv)
      | succ i => rw [List.getElem?_cons_succ] at hu; exact ih _ h.2 i j u v (by omega) hu hv
theorem cntF_getD {zs : List Int} (h : cntF (-1) zs) {i j : Nat} (hij : i ≤ j) (hj : j < zs.length) : zs.getD i 0 ≤ zs.getD j 0 := by
  rw [List.getD_eq_getElem?_getD, List.getD_eq_getElem?_getD, List.getElem?_eq_getElem (show i < zs.length by omega), List.getElem?_eq_getElem hj]
  by_cases he : i = j
  · subst he; exact Int.le_refl _
  · have := cntF_inc zs _ h i j _ _ (by omega) (List.getElem?_eq_getElem (show i < zs.length by omega)) (List.getElem?_eq_getElem hj)
    simp only [Option.getD_some]
    omega
theorem good_more {s p q g l : Int} {zs us : List Int} {n m : Nat} (hn : zs.length = n) (hm : us.length = m) (hpq : p ≤ q) (ho : okB s q g l) (h : good s p g l zs us n m) : good s q g l zs us n m ∧ (asgB s p zs us n m [] 0 0).length ≤ (asgB s q zs us n m [] 0 0).length := by
  obtain ⟨h1, h2, h3, h4⟩ := h
  have q1 := asg_more (s := s) (zs := zs) (us := us) (n := n) hpq (fun i j hij hj => cntF_getD h2 (by omega) (by omega)) m [] 0 0 (fun j hj => cntF_getD h3 (by omega) (by omega))
  exact ⟨⟨ho, h2, h3, by omega⟩, q1⟩
set_option maxRecDepth 100000 in
set_option maxHeartbeats 16000000 in
theorem mtd_g0 (s p g l q : Int) (a1 a2 : Option Addr) (n m c1 c2 : Nat) (w : World) (d0 : decide ((10 : Int) < n) = true) :
    Calls Try.prog 15 #[.agg #[.int .i64 s, .int .i64 p, .int .i64 g, .int .i64 l], .slice a1 n c1, .slice a2 m c2, .int .i64 q] w fun e w' => e = .returned (.bool true) ∧ Below w.heap.size w w' := by
  have HA := Lib.hid alive_true
  go_enter Try.func15, Try.ntmps15
  go_wp2_with fail
  refine (HA.out _).mono ?_
  rintro e w1 ⟨rfl, hb⟩
  have k0 : Blk w1 w.heap.size #[.int .i64 s, .int .i64 p, .int .i64 g, .int .i64 l] 26 := Blk.later hb (Blk.new rfl)
  have hB : Below w.heap.size w w1 := belowThru (belowAlloc (Below.refl _ _)) hb
  clear hb
  obtain ⟨a0, b0⟩ := k0.read; have y0 := k0.lt
  go_wp2_with fail
  go_ret
  exact ⟨rfl, by (repeat' (first | (with_reducible exact Below.refl _ _) | (with_reducible assumption) | (with_reducible refine belowThru ?_ (by assumption)) | (with_reducible refine belowAlloc ?_) | (with_reducible refine Below.setCell ?_ (by first | omega | (simp; done) | (simp; omega)) _) | (with_reducible refine Below.drew ?_) | (with_reducible refine below_drewN ?_ _)))⟩
set_option maxRecDepth 100000 in
set_option maxHeartbeats 16000000 in
theorem mtd_g1 (s p g l q : Int) (a1 a2 : Option Addr) (n m c1 c2 : Nat) (w : World) (d0 : decide ((10 : Int) < n) = false) (d1 : decide ((10 : Int) < m) = true) :
    Calls Try.prog 15 #[.agg #[.int .i64 s, .int .i64 p, .int .i64 g, .int .i64 l], .slice a1 n c1, .slice a2 m c2, .int .i64 q] w fun e w' => e = .returned (.bool true) ∧ Below w.heap.size w w' := by
  have HA := Lib.hid alive_true
  go_enter Try.func15, Try.ntmps15
  go_wp2_with fail
  refine (HA.out _).mono ?_
  rintro e w1 ⟨rfl, hb⟩
  have k0 : Blk w1 w.heap.size #[.int .i64 s, .int .i64 p, .int .i64 g, .int .i64 l] 26 := Blk.later hb (Blk.new rfl)
  have hB : Below w.heap.size w w1 := belowThru (belowAlloc (Below.refl _ _)) hb
  clear hb
  obtain ⟨a0, b0⟩ := k0.read; have y0 := k0.lt
  go_wp2_with fail
  go_ret
  exact ⟨rfl, by (repeat' (first | (with_reducible exact Below.refl _ _) | (with_reducible assumption) | (with_reducible refine belowThru ?_ (by assumption)) | (with_reducible refine belowAlloc ?_) | (with_reducible refine Below.setCell ?_ (by first | omega | (simp; done) | (simp; omega)) _) | (with_reducible refine Below.drew ?_) | (with_reducible refine below_drewN ?_ _)))⟩
set_option maxRecDepth 100000 in
set_option maxHeartbeats 16000000 in
theorem mtd_walk (s p g l q : Int) (a1 a2 : Option Addr) (n m c1 c2 : Nat) (zs us : List Int) (hn : n ≤ 10) (hm : m ≤ 10) (w : World) (hR1 : RowK 1 in1 w a1 n zs) (hR2 : RowK 1 in1 w a2 m us) :
    Calls Try.prog 15 #[.agg #[.int .i64 s, .int .i64 p, .int .i64 g, .int .i64 l], .slice a1 n c1, .slice a2 m c2, .int .i64 q] w fun e w' => e = .returned (.bool true) ∧ Below w.heap.size w w' := by
  have HA := Lib.hid alive_true
  have d0 : decide ((10 : Int) < n) = false := decide_eq_false (by omega)
  have d1 : decide ((10 : Int) < m) = false := decide_eq_false (by omega)
  have HR1 := Lib.hid hR1; have HR2 := Lib.hid hR2
  have HM := Lib.hid (fun w h1 h2 => match_any s p g l a1 a2 n m c1 c2 zs us hn hm w h1 h2)
  have HM2 := Lib.hid (fun w h1 h2 => match_any s q g l a1 a2 n m c1 c2 zs us hn hm w h1 h2)
  clear hR1 hR2
  go_enter Try.func15, Try.ntmps15
  go_wp2_with fail
  refine (HA.out _).mono ?_
  rintro e w1 ⟨rfl, hb⟩
  have k0 : Blk w1 w.heap.size #[.int .i64 s, .int .i64 p, .int .i64 g, .int .i64 l] 26 := Blk.later hb (Blk.new rfl)
  have hB : Below w.heap.size w w1 := belowThru (belowAlloc (Below.refl _ _)) hb
  clear hb
  obtain ⟨a0, b0⟩ := k0.read; have y0 := k0.lt
  go_wp2_with fail
  refine (HM.out _ (HR1.out.later hB) (HR2.out.later hB)).mono ?_
  rintro e wM ⟨⟨E, hE, rfl, -⟩ | ⟨hG, av, cv, rfl, hAll⟩, hb⟩
  · replace hB := belowThru hB hb
    clear hb a0 b0 y0 k0
    go_wp2_with fail
    go_ret
    exact ⟨rfl, hB⟩
  · clear a0 b0 y0
    replace k0 := Blk.later hb k0; replace hB := belowThru hB hb
    have HG := Lib.hid hG
    obtain ⟨L, hL⟩ : ∃ L, asgB s p zs us n m [] 0 0 = L := ⟨_, rfl⟩
    have HL := Lib.hid hL
    rw [hL] at hAll ⊢
    have HRd := Lib.hid (hAll.rd rfl)
    obtain ⟨nL, hnL⟩ : ∃ nL, L.length = nL := ⟨_, rfl⟩
    rw [hnL] at HRd ⊢
    have HNL := Lib.hid hnL
    have HnL : Hid (nL ≤ 1099511627776) := by
      have q1 := asgB_len s p zs us n m [] 0 0
      rw [hL, hnL] at q1
      have h2 : (n + 1) ^ m ≤ 11 ^ 10 := Nat.le_trans (Nat.pow_le_pow_left (by omega) _) (Nat.pow_le_pow_right (by omega) hm)
      exact Nat.le_trans (Nat.le_trans q1 h2) (by decide)
    have HAs : Hid (∀ y ∈ L, okAs s p zs us n y ∧ y.length = m) := fun y hy => by
      rw [← hL] at hy
      have q1 := asg_ok m [] 0 (okAs_nil s p zs us n) (fun v hv => by cases hv) hy
      simpa using q1
    have HSo : Hid (L.Pairwise lexB) := by unfold Hid; rw [← hL]; exact asg_sorted s p zs us n m [] 0 0
    clear hAll hb hG hL hnL
    obtain ⟨a0, b0⟩ := k0.read; have y0 := k0.lt
    go_wp2_with fail
    clear a0 b0 y0
    go_loopw [50] (fun v wx => ∃ k : Nat, k ≤ nL ∧ v = .int .i64 k ∧ Below wM.heap.size wM wx) (fun v _ => nL - (intOf v).toNat)
    case atStart => exact ⟨0, Nat.zero_le _, rfl, Below.refl _ _⟩
    case round =>
      obtain ⟨k, hk, rfl, hX⟩ := hrel
      have hn50 := HnL.out
      by_cases hlt : k < nL
      · obtain ⟨bL, oL, a3, n3, c3, y, e1', cc, hy, hyl, hyr⟩ := HRd.out.at hlt
        have hym := (HAs.out y (List.mem_of_getElem? hy)).2
        obtain rfl : n3 = m := by omega
        replace cc := cell_later hX cc
        have p0 : (0 : Int) ≤ (k : Int) := by omega
        have p1 : (k : Int) < (nL : Int) := by omega
        have v1 : ((n3 : Int) != (n3 : Int)) = false := by simp
        have HY := Lib.hid (hyr.later hX); have HK := Lib.hid hy
        have HAy := Lib.hid (HAs.out y (List.mem_of_getElem? hy)).1
        clear hy hyl hyr hym
        subst e1'
        obtain ⟨K, hK⟩ : ∃ K : Int, (k : Int) = K := ⟨_, rfl⟩
        have hT : K.toNat = k := by omega
        rw [hK] at p0 p1
        rw [hK]
        have HKK := Lib.hid hK
        rcases Nat.eq_zero_or_pos k with hk0 | hk0
        · have v2 : decide ((0 : Int) < K) = false := decide_eq_false (by omega)
          clear hK hk0
          go_upto_region 12 with fail
          generalize hW1 : wr = W1 at *
          clear hW1
          have hXW := hX
          have hWr : Below W1.heap.size W1 W1 := Below.refl _ _
          have hBW : Below w.heap.size w W1 := belowThru hB hXW
          have HYW := Lib.hid (HY.out.later hWr)
          have kW1 := Blk.later hXW k0
          go_wp2_with fail
          go_loopw [76] (fun v wx => ∃ j : Nat, j ≤ n3 ∧ v = .int .i64 j ∧ Below W1.heap.size W1 wx) (fun v _ => n3 - (intOf v).toNat)
          case atStart => exact ⟨0, Nat.zero_le _, rfl, Below.refl _ _⟩
          case round =>
            obtain ⟨j, hj, rfl, hX2⟩ := hrel
            by_cases hjl : j < n3
            · obtain ⟨bY, oY, yj, eY, hyj, cj⟩ := (HYW.out.later hX2).num hjl
              subst eY
              obtain ⟨y0', y1'⟩ := HAy.out.1 j yj hyj
              obtain ⟨J, rfl⟩ : ∃ J : Nat, yj = (J : Int) := ⟨yj.toNat, by omega⟩
              have pj0 : (0 : Int) ≤ (j : Int) := by omega
              have pj1 : (j : Int) < (n3 : Int) := by omega
              have dj1 : decide ((J : Int) < 0) = false := decide_eq_false (by omega)
              have dj2 : decide ((n : Int) ≤ (J : Int)) = false := decide_eq_false (by omega)
              have HYJ := Lib.hid hyj
              have hJn : J < n := by omega
              have dj3 : decide (n ≤ J) = false := decide_eq_false (by omega)
              have hb2 : Below w.heap.size w wr := belowThru hBW hX2
              clear hyj y0' y1'
              go_wp2_with fail
              generalize hW2 : wr = W2 at *
              clear hW2
              go_loopw [94] (fun v wx => ∃ i : Nat, i ≤ j ∧ v = .int .i64 i ∧ Below W2.heap.size W2 wx) (fun v _ => j - (intOf v).toNat)
              case atStart => exact ⟨0, Nat.zero_le _, rfl, Below.refl _ _⟩
              case round =>
                obtain ⟨i, hi, rfl, hX3⟩ := hrel
                by_cases hil : i < j
                · have hb3 : Below w.heap.size w wr := belowThru hb2 hX3
                  have cj3 := cell_later hX3 cj
                  obtain ⟨bY2, oY2, yi, eY2, hyi, ci⟩ := (HYW.out.later (belowThru hX2 hX3)).num (show i < n3 by omega)
                  cases eY2
                  obtain ⟨x0', x1'⟩ := HAy.out.1 i yi hyi
                  obtain ⟨I, rfl⟩ : ∃ I : Nat, yi = (I : Int) := ⟨yi.toNat, by omega⟩
                  obtain ⟨hlt3, hag⟩ := HAy.out.2 i j _ _ hil hyi HYJ.out
                  rw [Int.toNat_natCast, Int.toNat_natCast] at hag
                  obtain ⟨b1, o1, zj, ez1, hzj, czj⟩ := (HR1.out.later hb3).num hJn
                  obtain ⟨b1', o1', zi, ez2, hzi, czi⟩ := (HR1.out.later hb3).num (show I < n by omega)
                  subst ez1
                  cases ez2
                  obtain ⟨b2, o2, uj, ez3, huj, cuj⟩ := (HR2.out.later hb3).num hjl
                  obtain ⟨b2', o2', ui, ez4, hui, cui⟩ := (HR2.out.later hb3).num (show i < n3 by omega)
                  subst ez3
                  cases ez4
                  have hbz : ∀ z ∈ zs, 0 ≤ z ∧ z ≤ 1099511627776 := cntF_all HG.out.2.1
                  have hbu : ∀ z ∈ us, 0 ≤ z ∧ z ≤ 1099511627776 := cntF_all HG.out.2.2.1
                  have g1 := hbz _ (List.mem_of_getElem? hzj); have g2 := hbz _ (List.mem_of_getElem? hzi)
                  have g3 := hbu _ (List.mem_of_getElem? huj); have g4 := hbu _ (List.mem_of_getElem? hui)
                  obtain ⟨DX, hDX⟩ : ∃ D, zj - zi = D := ⟨_, rfl⟩
                  obtain ⟨DY, hDY⟩ : ∃ D, uj - ui = D := ⟨_, rfl⟩
                  have hag' : agrB s p DX DY = true := by
                    rw [← hDX, ← hDY]
                    simpa [List.getD_eq_getElem?_getD, hzj, hzi, huj, hui] using hag
                  have HAg : Hid (∀ w, Calls Try.prog 52 #[.agg #[.int .i64 s, .int .i64 p, .int .i64 g, .int .i64 l], .int .i64 DX, .int .i64 DY] w fun e w' => e = .returned (.bool true) ∧ Below w.heap.size w w') := fun w => by
                    have q1 := ragree_any s p g l DX DY HG.out.1.1 HG.out.1.2.1 (by omega) (by omega) w
                    rwa [hag'] at q1
                  have z1 : IntKind.i64.wrap (zj - zi) = DX := by rw [hDX]; exact IntWalk.i64_in _ (by omega)
                  have z2 : IntKind.i64.wrap (uj - ui) = DY := by rw [hDY]; exact IntWalk.i64_in _ (by omega)
                  have pi0 : (0 : Int) ≤ (i : Int) := by omega
                  have pi1 : (i : Int) < (j : Int) := by omega
                  have pi2 : (i : Int) < (n3 : Int) := by omega
                  have pJ0 : (0 : Int) ≤ (J : Int) := by omega
                  have pJ1 : (J : Int) < (n : Int) := by omega
                  have pI0 : (0 : Int) ≤ (I : Int) := by omega
                  have pI1 : (I : Int) < (n : Int) := by omega
                  have dij : decide ((J : Int) ≤ (I : Int)) = false := decide_eq_false (by omega)
                  have dij2 : decide (J ≤ I) = false := decide_eq_false (by omega)
                  have kW3 := Blk.later (belowThru hX2 hX3) kW1
                  have C1 := Lib.hid cj3; have C2 := Lib.hid ci; have C3 := Lib.hid czj; have C4 := Lib.hid czi; have C5 := Lib.hid cuj; have C6 := Lib.hid cui
                  clear hyi x0' x1' hag hag' hzj hzi huj hui hbz hbu g1 g2 g3 g4 hDX hDY hlt3 cj3 ci czj czi cuj cui
                  go_upto_region 20 with fail
                  go_region_held3 (fun w' => (Blk w' w.heap.size #[.int .i64 s, .int .i64 p, .int .i64 g, .int .i64 l] 26 ∧ (∀ i : Nat, w'.cell? ⟨w.heap.size, i, none⟩ = (#[.int .i64 s, .int .i64 p, .int .i64 g, .int .i64 l] : Array Value)[i]?)) ∧ (w'.cell? ⟨bY, oY + j, none⟩ = some (.int .i64 (J : Int)) ∧ w'.cell? ⟨bY, oY + i, none⟩ = some (.int .i64 (I : Int)) ∧ w'.cell? ⟨b1, o1 + J, none⟩ = some (.int .i64 zj) ∧ w'.cell? ⟨b1, o1 + I, none⟩ = some (.int .i64 zi) ∧ w'.cell? ⟨b2, o2 + j, none⟩ = some (.int .i64 uj) ∧ w'.cell? ⟨b2, o2 + i, none⟩ = some (.int .i64 ui)) ∧ Below wr.heap.size wr w')
                    (((first | (apply hold1; (focus assumption); intro p0 pB; obtain ⟨pc, pB⟩ := pB) | skip); refine ⟨Blk.full ?_, ?_, ?_⟩; all_goals (first | ((repeat' (first | (with_reducible assumption) | ((with_reducible refine Blk.new ?_); first | rfl | (simp; done)) | (with_reducible refine Blk.later (by assumption) ?_) | (with_reducible refine Blk.alloc ?_) | (with_reducible refine Blk.drewN ?_) | (with_reducible refine Blk.drew ?_) | (with_reducible refine Blk.other ?_ (by first | omega | (simp; done) | (simp; omega))))); done) | ((repeat' (first | (with_reducible exact Below.refl _ _) | (with_reducible assumption) | (with_reducible refine belowThru ?_ (by assumption)) | (with_reducible refine belowAlloc ?_) | (with_reducible refine Below.setCell ?_ (by first | omega | (simp; done) | (simp; omega)) _) | (with_reducible refine Below.drew ?_) | (with_reducible refine below_drewN ?_ _))); done) | exact ⟨cell_later (by (repeat' (first | (with_reducible exact Below.refl _ _) | (with_reducible assumption) | (with_reducible refine belowThru ?_ (by assumption)) | (with_reducible refine belowAlloc ?_) | (with_reducible refine Below.setCell ?_ (by first | omega | (simp; done) | (simp; omega)) _) | (with_reducible refine Below.drew ?_) | (with_reducible refine below_drewN ?_ _)))) C1.out, cell_later (by (repeat' (first | (with_reducible exact Below.refl _ _) | (with_reducible assumption) | (with_reducible refine belowThru ?_ (by assumption)) | (with_reducible refine belowAlloc ?_) | (with_reducible refine Below.setCell ?_ (by first | omega | (simp; done) | (simp; omega)) _) | (with_reducible refine Below.drew ?_) | (with_reducible refine below_drewN ?_ _)))) C2.out, cell_later (by (repeat' (first | (with_reducible exact Below.refl _ _) | (with_reducible assumption) | (with_reducible refine belowThru ?_ (by assumption)) | (with_reducible refine belowAlloc ?_) | (with_reducible refine Below.setCell ?_ (by first | omega | (simp; done) | (simp; omega)) _) | (with_reducible refine Below.drew ?_) | (with_reducible refine below_drewN ?_ _)))) C3.out, cell_later (by (repeat' (first | (with_reducible exact Below.refl _ _) | (with_reducible assumption) | (with_reducible refine belowThru ?_ (by assumption)) | (with_reducible refine belowAlloc ?_) | (with_reducible refine Below.setCell ?_ (by first | omega | (simp; done) | (simp; omega)) _) | (with_reducible refine Below.drew ?_) | (with_reducible refine below_drewN ?_ _)))) C4.out, cell_later (by (repeat' (first | (with_reducible exact Below.refl _ _) | (with_reducible assumption) | (with_reducible refine belowThru ?_ (by assumption)) | (with_reducible refine belowAlloc ?_) | (with_reducible refine Below.setCell ?_ (by first | omega | (simp; done) | (simp; omega)) _) | (with_reducible refine Below.drew ?_) | (with_reducible refine below_drewN ?_ _)))) C5.out, cell_later (by (repeat' (first | (with_reducible exact Below.refl _ _) | (with_reducible assumption) | (with_reducible refine belowThru ?_ (by assumption)) | (with_reducible refine belowAlloc ?_) | (with_reducible refine Below.setCell ?_ (by first | omega | (simp; done) | (simp; omega)) _) | (with_reducible refine Below.drew ?_) | (with_reducible refine below_drewN ?_ _)))) C6.out⟩)))
                    (first
                    | (go_at_call 52; (with_reducible refine (HAg.out _).mono ?_); rintro e w1 ⟨rfl, hb⟩))
                  all_goals
                    apply hold1; (focus assumption); intro p0 pB
                    obtain ⟨pc, pB⟩ := pB
                    go_wp2_with fail
                    go_roundw
                    case rel => exact ⟨i + 1, hil, by go_num, belowThru hX3 pB⟩
                    case measure => simp [intOf]; omega
                · obtain rfl : i = j := by omega
                  go_wp2_with fail
                  go_roundw
                  case rel => exact ⟨i + 1, hjl, by go_num, belowThru hX2 hX3⟩
                  case measure => simp [intOf]; omega
            · obtain rfl : j = n3 := by omega
              obtain rfl : (k : Int) = K := HKK.out
              go_wp2_with fail
              go_roundw
              case rel => exact ⟨k + 1, hlt, by go_num, belowThru hXW hX2⟩
              case measure => simp [intOf]; omega
        · obtain ⟨bL2, oL2, a4, n4, c4, y', e1', cc2, hy', hyl', hyr'⟩ := HRd.out.at (show k - 1 < nL by omega)
          have v2 : decide ((0 : Int) < K) = true := decide_eq_true (by omega)
          cases e1'
          obtain rfl : n4 = n3 := by have := (HAs.out y' (List.mem_of_getElem? hy')).2; omega
          obtain ⟨k', hk'⟩ : ∃ k' : Nat, k - 1 = k' := ⟨_, rfl⟩
          rw [hk'] at cc2 hy'
          replace cc2 := cell_later hX cc2
          have v3 : IntKind.i64.wrap (K - 1) = (k' : Int) := by rw [show K - 1 = (k' : Int) by omega]; exact IntWalk.i64_in _ (by omega)
          have pk0 : (0 : Int) ≤ (k' : Int) := by omega
          have pk1 : (k' : Int) < (nL : Int) := by omega
          have hlex : lexB y' y := List.pairwise_iff_getElem.1 HSo.out k' k (by have := HNL.out; omega) (by have := HNL.out; omega) (by omega) |> fun q => by
            have e1 := (List.getElem?_eq_some_iff.1 hy').2
            have e2 := (List.getElem?_eq_some_iff.1 HK.out).2
            rw [e1, e2] at q
            exact q
          have HBe := Lib.hid (before_yes a4 a3 n4 c4 c3 y' y hm hlex)
          have HY4 := Lib.hid (hyr'.later hX)
          clear hlex hy' hyl' hyr' hK hk' hk0
          go_wp2_with fail
          refine (HBe.out _ HY4.out HY.out).mono ?_
          rintro e W1 ⟨rfl, hWr⟩
          have hXW := belowThru hX hWr
          clear cc2
          have hBW : Below w.heap.size w W1 := belowThru hB hXW
          have HYW := Lib.hid (HY.out.later hWr)
          have kW1 := Blk.later hXW k0
          go_wp2_with fail
          go_loopw [76] (fun v wx => ∃ j : Nat, j ≤ n4 ∧ v = .int .i64 j ∧ Below W1.heap.size W1 wx) (fun v _ => n4 - (intOf v).toNat)
          case atStart => exact ⟨0, Nat.zero_le _, rfl, Below.refl _ _⟩
          case round =>
            obtain ⟨j, hj, rfl, hX2⟩ := hrel
            by_cases hjl : j < n4
            · obtain ⟨bY, oY, yj, eY, hyj, cj⟩ := (HYW.out.later hX2).num hjl
              subst eY
              obtain ⟨y0', y1'⟩ := HAy.out.1 j yj hyj
              obtain ⟨J, rfl⟩ : ∃ J : Nat, yj = (J : Int) := ⟨yj.toNat, by omega⟩
              have pj0 : (0 : Int) ≤ (j : Int) := by omega
              have pj1 : (j : Int) < (n4 : Int) := by omega
              have dj1 : decide ((J : Int) < 0) = false := decide_eq_false (by omega)
              have dj2 : decide ((n : Int) ≤ (J : Int)) = false := decide_eq_false (by omega)
              have HYJ := Lib.hid hyj
              have hJn : J < n := by omega
              have dj3 : decide (n ≤ J) = false := decide_eq_false (by omega)
              have hb2 : Below w.heap.size w wr := belowThru hBW hX2
              clear hyj y0' y1'
              go_wp2_with fail
              generalize hW2 : wr = W2 at *
              clear hW2
              go_loopw [94] (fun v wx => ∃ i : Nat, i ≤ j ∧ v = .int .i64 i ∧ Below W2.heap.size W2 wx) (fun v _ => j - (intOf v).toNat)
              case atStart => exact ⟨0, Nat.zero_le _, rfl, Below.refl _ _⟩
              case round =>
                obtain ⟨i, hi, rfl, hX3⟩ := hrel
                by_cases hil : i < j
                · have hb3 : Below w.heap.size w wr := belowThru hb2 hX3
                  have cj3 := cell_later hX3 cj
                  obtain ⟨bY2, oY2, yi, eY2, hyi, ci⟩ := (HYW.out.later (belowThru hX2 hX3)).num (show i < n4 by omega)
                  cases eY2
                  obtain ⟨x0', x1'⟩ := HAy.out.1 i yi hyi
                  obtain ⟨I, rfl⟩ : ∃ I : Nat, yi = (I : Int) := ⟨yi.toNat, by omega⟩
                  obtain ⟨hlt3, hag⟩ := HAy.out.2 i j _ _ hil hyi HYJ.out
                  rw [Int.toNat_natCast, Int.toNat_natCast] at hag
                  obtain ⟨b1, o1, zj, ez1, hzj, czj⟩ := (HR1.out.later hb3).num hJn
                  obtain ⟨b1', o1', zi, ez2, hzi, czi⟩ := (HR1.out.later hb3).num (show I < n by omega)
                  subst ez1
                  cases ez2
                  obtain ⟨b2, o2, uj, ez3, huj, cuj⟩ := (HR2.out.later hb3).num hjl
                  obtain ⟨b2', o2', ui, ez4, hui, cui⟩ := (HR2.out.later hb3).num (show i < n4 by omega)
                  subst ez3
                  cases ez4
                  have hbz : ∀ z ∈ zs, 0 ≤ z ∧ z ≤ 1099511627776 := cntF_all HG.out.2.1
                  have hbu : ∀ z ∈ us, 0 ≤ z ∧ z ≤ 1099511627776 := cntF_all HG.out.2.2.1
                  have g1 := hbz _ (List.mem_of_getElem? hzj); have g2 := hbz _ (List.mem_of_getElem? hzi)
                  have g3 := hbu _ (List.mem_of_getElem? huj); have g4 := hbu _ (List.mem_of_getElem? hui)
                  obtain ⟨DX, hDX⟩ : ∃ D, zj - zi = D := ⟨_, rfl⟩
                  obtain ⟨DY, hDY⟩ : ∃ D, uj - ui = D := ⟨_, rfl⟩
                  have hag' : agrB s p DX DY = true := by
                    rw [← hDX, ← hDY]
                    simpa [List.getD_eq_getElem?_getD, hzj, hzi, huj, hui] using hag
                  have HAg : Hid (∀ w, Calls Try.prog 52 #[.agg #[.int .i64 s, .int .i64 p, .int .i64 g, .int .i64 l], .int .i64 DX, .int .i64 DY] w fun e w' => e = .returned (.bool true) ∧ Below w.heap.size w w') := fun w => by
                    have q1 := ragree_any s p g l DX DY HG.out.1.1 HG.out.1.2.1 (by omega) (by omega) w
                    rwa [hag'] at q1
                  have z1 : IntKind.i64.wrap (zj - zi) = DX := by rw [hDX]; exact IntWalk.i64_in _ (by omega)
                  have z2 : IntKind.i64.wrap (uj - ui) = DY := by rw [hDY]; exact IntWalk.i64_in _ (by omega)
                  have pi0 : (0 : Int) ≤ (i : Int) := by omega
                  have pi1 : (i : Int) < (j : Int) := by omega
                  have pi2 : (i : Int) < (n4 : Int) := by omega
                  have pJ0 : (0 : Int) ≤ (J : Int) := by omega
                  have pJ1 : (J : Int) < (n : Int) := by omega
                  have pI0 : (0 : Int) ≤ (I : Int) := by omega
                  have pI1 : (I : Int) < (n : Int) := by omega
                  have dij : decide ((J : Int) ≤ (I : Int)) = false := decide_eq_false (by omega)
                  have dij2 : decide (J ≤ I) = false := decide_eq_false (by omega)
                  have kW3 := Blk.later (belowThru hX2 hX3) kW1
                  have C1 := Lib.hid cj3; have C2 := Lib.hid ci; have C3 := Lib.hid czj; have C4 := Lib.hid czi; have C5 := Lib.hid cuj; have C6 := Lib.hid cui
                  clear hyi x0' x1' hag hag' hzj hzi huj hui hbz hbu g1 g2 g3 g4 hDX hDY hlt3 cj3 ci czj czi cuj cui
                  go_upto_region 20 with fail
                  go_region_held3 (fun w' => (Blk w' w.heap.size #[.int .i64 s, .int .i64 p, .int .i64 g, .int .i64 l] 26 ∧ (∀ i : Nat, w'.cell? ⟨w.heap.size, i, none⟩ = (#[.int .i64 s, .int .i64 p, .int .i64 g, .int .i64 l] : Array Value)[i]?)) ∧ (w'.cell? ⟨bY, oY + j, none⟩ = some (.int .i64 (J : Int)) ∧ w'.cell? ⟨bY, oY + i, none⟩ = some (.int .i64 (I : Int)) ∧ w'.cell? ⟨b1, o1 + J, none⟩ = some (.int .i64 zj) ∧ w'.cell? ⟨b1, o1 + I, none⟩ = some (.int .i64 zi) ∧ w'.cell? ⟨b2, o2 + j, none⟩ = some (.int .i64 uj) ∧ w'.cell? ⟨b2, o2 + i, none⟩ = some (.int .i64 ui)) ∧ Below wr.heap.size wr w')
                    (((first | (apply hold1; (focus assumption); intro p0 pB; obtain ⟨pc, pB⟩ := pB) | skip); refine ⟨Blk.full ?_, ?_, ?_⟩; all_goals (first | ((repeat' (first | (with_reducible assumption) | ((with_reducible refine Blk.new ?_); first | rfl | (simp; done)) | (with_reducible refine Blk.later (by assumption) ?_) | (with_reducible refine Blk.alloc ?_) | (with_reducible refine Blk.drewN ?_) | (with_reducible refine Blk.drew ?_) | (with_reducible refine Blk.other ?_ (by first | omega | (simp; done) | (simp; omega))))); done) | ((repeat' (first | (with_reducible exact Below.refl _ _) | (with_reducible assumption) | (with_reducible refine belowThru ?_ (by assumption)) | (with_reducible refine belowAlloc ?_) | (with_reducible refine Below.setCell ?_ (by first | omega | (simp; done) | (simp; omega)) _) | (with_reducible refine Below.drew ?_) | (with_reducible refine below_drewN ?_ _))); done) | exact ⟨cell_later (by (repeat' (first | (with_reducible exact Below.refl _ _) | (with_reducible assumption) | (with_reducible refine belowThru ?_ (by assumption)) | (with_reducible refine belowAlloc ?_) | (with_reducible refine Below.setCell ?_ (by first | omega | (simp; done) | (simp; omega)) _) | (with_reducible refine Below.drew ?_) | (with_reducible refine below_drewN ?_ _)))) C1.out, cell_later (by (repeat' (first | (with_reducible exact Below.refl _ _) | (with_reducible assumption) | (with_reducible refine belowThru ?_ (by assumption)) | (with_reducible refine belowAlloc ?_) | (with_reducible refine Below.setCell ?_ (by first | omega | (simp; done) | (simp; omega)) _) | (with_reducible refine Below.drew ?_) | (with_reducible refine below_drewN ?_ _)))) C2.out, cell_later (by (repeat' (first | (with_reducible exact Below.refl _ _) | (with_reducible assumption) | (with_reducible refine belowThru ?_ (by assumption)) | (with_reducible refine belowAlloc ?_) | (with_reducible refine Below.setCell ?_ (by first | omega | (simp; done) | (simp; omega)) _) | (with_reducible refine Below.drew ?_) | (with_reducible refine below_drewN ?_ _)))) C3.out, cell_later (by (repeat' (first | (with_reducible exact Below.refl _ _) | (with_reducible assumption) | (with_reducible refine belowThru ?_ (by assumption)) | (with_reducible refine belowAlloc ?_) | (with_reducible refine Below.setCell ?_ (by first | omega | (simp; done) | (simp; omega)) _) | (with_reducible refine Below.drew ?_) | (with_reducible refine below_drewN ?_ _)))) C4.out, cell_later (by (repeat' (first | (with_reducible exact Below.refl _ _) | (with_reducible assumption) | (with_reducible refine belowThru ?_ (by assumption)) | (with_reducible refine belowAlloc ?_) | (with_reducible refine Below.setCell ?_ (by first | omega | (simp; done) | (simp; omega)) _) | (with_reducible refine Below.drew ?_) | (with_reducible refine below_drewN ?_ _)))) C5.out, cell_later (by (repeat' (first | (with_reducible exact Below.refl _ _) | (with_reducible assumption) | (with_reducible refine belowThru ?_ (by assumption)) | (with_reducible refine belowAlloc ?_) | (with_reducible refine Below.setCell ?_ (by first | omega | (simp; done) | (simp; omega)) _) | (with_reducible refine Below.drew ?_) | (with_reducible refine below_drewN ?_ _)))) C6.out⟩)))
                    (first
                    | (go_at_call 52; (with_reducible refine (HAg.out _).mono ?_); rintro e w1 ⟨rfl, hb⟩))
                  all_goals
                    apply hold1; (focus assumption); intro p0 pB
                    obtain ⟨pc, pB⟩ := pB
                    go_wp2_with fail
                    go_roundw
                    case rel => exact ⟨i + 1, hil, by go_num, belowThru hX3 pB⟩
                    case measure => simp [intOf]; omega
                · obtain rfl : i = j := by omega
                  go_wp2_with fail
                  go_roundw
                  case rel => exact ⟨i + 1, hjl, by go_num, belowThru hX2 hX3⟩
                  case measure => simp [intOf]; omega
            · obtain rfl : j = n4 := by omega
              obtain rfl : (k : Int) = K := HKK.out
              go_wp2_with fail
              go_roundw
              case rel => exact ⟨k + 1, hlt, by go_num, belowThru hXW hX2⟩
              case measure => simp [intOf]; omega
      · obtain rfl : k = nL := by omega
        have hBW : Below w.heap.size w wr := belowThru hB hX
        have kW := Blk.later hX k0
        obtain ⟨a0, b0⟩ := kW.read; have y0 := kW.lt
        have HRa := Lib.hid (HR1.out.later hBW); have HRb := Lib.hid (HR2.out.later hBW)
        go_wp2_with fail
        refine (HM2.out _ (HRa.out.later (belowAlloc (Below.refl _ _))) (HRb.out.later (belowAlloc (Below.refl _ _)))).mono ?_
        rintro e w9 ⟨⟨E, hE, rfl, hE9⟩ | ⟨hG2, av2, cv2, rfl, -⟩, hb⟩
        · clear a0 b0 y0
          replace kW := Blk.later hb kW.alloc
          have hB9 : Below w.heap.size w w9 := belowThru (belowAlloc hBW) hb
          clear hb
          obtain ⟨a0, b0⟩ := kW.read; have y0 := kW.lt
          by_cases hqp : q < p
          · have e1 : decide (q < p) = true := decide_eq_true hqp
            clear hqp hE9
            go_wp2_with fail
            go_ret
            exact ⟨rfl, hB9⟩
          · have e1 : decide (q < p) = false := decide_eq_false hqp
            obtain rfl : E = 90 := by
              rcases hE9 with ⟨-, h⟩ | ⟨h1, h2⟩
              · exact h
              · exact absurd (good_more HR1.out.1 HR2.out.1 (by omega) h1 HG.out).1 h2
            clear hqp hE9 hE
            go_wp2_with fail
            go_ret
            exact ⟨rfl, hB9⟩
        · clear a0 b0 y0
          replace kW := Blk.later hb kW.alloc
          have hB9 : Below w.heap.size w w9 := belowThru (belowAlloc hBW) hb
          clear hb
          obtain ⟨a0, b0⟩ := kW.read; have y0 := kW.lt
          obtain ⟨n9, hn9⟩ : ∃ n9, (asgB s q zs us n m [] 0 0).length = n9 := ⟨_, rfl⟩
          rw [hn9]
          by_cases hqp : q < p
          · have e1 : decide (q < p) = true := decide_eq_true hqp
            clear hqp hG2 hn9
            go_wp2_with fail
            go_ret
            exact ⟨rfl, hB9⟩
          · have e1 : decide (q < p) = false := decide_eq_false hqp
            have hle : k ≤ n9 := by
              have q1 := (good_more HR1.out.1 HR2.out.1 (by omega) hG2.1 HG.out).2
              rw [HL.out, HNL.out, hn9] at q1
              exact q1
            have e2 : decide (k ≤ n9) = true := decide_eq_true hle
            have e3 : decide ((k : Int) ≤ (n9 : Int)) = true := decide_eq_true (by omega)
            clear hqp hG2 hn9
            go_wp2_with fail
            go_ret
            exact ⟨rfl, hB9⟩
theorem mtd_true (s p g l q : Int) (a1 a2 : Option Addr) (n m c1 c2 : Nat) (zs us : List Int) (w : World) (hR1 : RowK 1 in1 w a1 n zs) (hR2 : RowK 1 in1 w a2 m us) :
    Calls Try.prog 15 #[.agg #[.int .i64 s, .int .i64 p, .int .i64 g, .int .i64 l], .slice a1 n c1, .slice a2 m c2, .int .i64 q] w fun e w' => e = .returned (.bool true) ∧ Below w.heap.size w w' := by
  by_cases h1 : (10 : Int) < n
  · exact mtd_g0 s p g l q a1 a2 n m c1 c2 w (decide_eq_true h1)
  · by_cases h2 : (10 : Int) < m
    · exact mtd_g1 s p g l q a1 a2 n m c1 c2 w (decide_eq_false h1) (decide_eq_true h2)
    · exact mtd_walk s p g l q a1 a2 n m c1 c2 zs us (by omega) (by omega) w hR1 hR2
end Go.Proofs.Ytbcnoklaaigclaa
