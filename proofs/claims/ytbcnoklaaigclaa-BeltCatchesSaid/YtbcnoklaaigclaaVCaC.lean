/-
  Layer 9: a count of the true belt, walked.
-/
import Derived.Test.YtbcnoklaaigclaaVCaH
namespace Go.Proofs.Ytbcnoklaaigclaa
open Go.RowKit Go.Shelf
set_option linter.unusedVariables false
set_option linter.unusedSimpArgs false

set_option maxRecDepth 100000 in
set_option maxHeartbeats 16000000 in
theorem count_none (s p g l c nx U : Int) (am : Option Addr) (nm cm BW nX nY nZ : Nat) (ax ay : Option Addr) (cx cy : Nat) (w0 : World) (us : List Int) (xs Z : List Sn) (ys ysF : List Th) (LL : Nat → List Th) (o : Bool)
    (hc : 0 ≤ c ∧ c ≤ 100000) (hnm : nm ≤ maxLen) (hu : ∀ u ∈ us, 0 ≤ u ∧ u ≤ 255) (hR : RowK 1 u81 w0 am nm us) (hU : U = mvB s p (if c < (nm : Int) then us.getD c.toNat 0 else 0)) (hU2 : 0 ≤ U ∧ U ≤ 2000) (hg : 1 ≤ g ∧ g ≤ 1000000)
    (hnX : xs.length = nX) (hnY : ys.length = nY) (hnZ : Z.length = nZ) (hY32 : nY ≤ 32) (hZn : nY = nZ)
    (hyF : ∀ (i : Nat) (y : Th), ys[i]? = some y → (-100000000000 ≤ y.2.1 ∧ y.2.1 ≤ 100000000000) ∧ (0 ≤ y.2.2.1 ∧ y.2.2.1 ≤ 1000000))
    (hOp2 : ∀ (i : Nat) (y : Th), ys[i]? = some y → inG g U y = true → y.2.2.2.1 ≠ 1 → o = true)
    (hL0 : LL 0 = []) (hLn : LL nY = ysF) (hLf : ysF.length = nZ) (hLl : ∀ i, (LL i).length ≤ 32) (hLs : ∀ (i : Nat) (y : Th), ys[i]? = some y → LL (i + 1) = LL i ++ [movT g U o y])
    (HOp : Hid (∀ (a : Option Addr) (cap : Nat) (w : World), RowK 4 sn1 w a nX xs → Calls Try.prog 41 #[.agg #[.int .i64 s, .int .i64 p, .int .i64 g, .int .i64 l, .int .i64 c, .int .i64 nx, .slice a nX cap]] w fun e w' => e = .returned (.tuple #[.bool o, .int .i64 0]) ∧ Below w.heap.size w w'))
    (HAd : Hid (∀ (a : Option Addr) (cap : Nat) (w : World), RowK 4 sn1 w a nX xs → Calls Try.prog 24 #[.agg #[.int .i64 s, .int .i64 p, .int .i64 g, .int .i64 l, .int .i64 c, .int .i64 nx, .slice a nX cap], .int .i64 1] w fun e w' => (∃ v uf, e = .returned (.tuple #[.agg #[.int .i64 s, .int .i64 p, .int .i64 g, .int .i64 l, .int .i64 (c + 1), .int .i64 nx, v], uf, .int .i64 0]) ∧ OwnK 68 4 sn1 w.heap.size w' v Z ∧ OwnK 46 3 ft1 w.heap.size w' uf []) ∧ Below w.heap.size w w'))
    (HMv : Hid (∀ u, 0 ≤ u ∧ u ≤ 255 → ∀ w, Calls Try.prog 47 #[.agg #[.int .i64 s, .int .i64 p, .int .i64 g, .int .i64 l], .int .u8 u] w fun e w' => e = .returned (.int .i64 (mvB s p u)) ∧ Below w.heap.size w w'))
    (w : World) (kW : Blk w BW #[.int .i64 s, .int .i64 p, .int .i64 g, .int .i64 l, .int .i64 c, .int .i64 nx, .slice ax nX cx, .slice ay nY cy, .slice am nm cm, .int .i64 c, .int .i64 l] 89) (hX : OwnK 68 4 sn1 w0.heap.size w (.slice ax nX cx) xs) (hY : OwnK 125 5 th1 w0.heap.size w (.slice ay nY cy) ys) (hB : Below w0.heap.size w0 w) (hle : w0.heap.size ≤ BW) :
    Calls Try.prog 77 #[.pointer (some ⟨BW, 0, none⟩)] w fun e w' => e = .returned (.bool true) ∧ ∃ ax' cx' ay' cy', Blk w' BW #[.int .i64 s, .int .i64 p, .int .i64 g, .int .i64 l, .int .i64 (c + 1), .int .i64 nx, .slice ax' nZ cx', .slice ay' ysF.length cy', .slice am nm cm, .int .i64 (c + 1), .int .i64 l] 89 ∧ OwnK 68 4 sn1 w0.heap.size w' (.slice ax' nZ cx') Z ∧ OwnK 125 5 th1 w0.heap.size w' (.slice ay' ysF.length cy') ysF ∧ Below w0.heap.size w0 w' := by
  have HR := Lib.hid hR; have HU := Lib.hid hU; have HU8 := Lib.hid hu; have HYF := Lib.hid hyF; have HO2 := Lib.hid hOp2
  have HL0 := Lib.hid hL0; have HLN := Lib.hid hLn; have HLL := Lib.hid hLl; have HLF := Lib.hid hLf; have HLS := Lib.hid hLs
  have HNZ := Lib.hid hnZ; have HZN := Lib.hid hZn; have HY32 := Lib.hid hY32; have HNY := Lib.hid hnY; have HU2 := Lib.hid hU2; have HG := Lib.hid hg
  obtain ⟨c1, c2⟩ := hc
  have v1 : IntKind.i64.wrap (c + 1) = c + 1 := IntWalk.i64_in _ (by omega)
  clear hR hU hu hyF hOp2 hL0 hLn hLl hLf hLs hnX hnY hnZ hY32 hZn hU2 hg
  go_enter Try.func77, Try.ntmps77
  obtain ⟨aW, bW⟩ := kW.read; have yW := kW.lt
  go_wp2_with fail
  refine (HOp.out ax cx w (rowOf' hX)).mono ?_
  rintro e w1 ⟨rfl, hb⟩
  clear aW bW yW
  replace kW := Blk.later hb kW; replace hX := OwnK.later hb hX; replace hY := OwnK.later hb hY; replace hB := belowThru hB hb
  clear hb
  obtain ⟨aW, bW⟩ := kW.read; have yW := kW.lt
  go_wp2_with fail
  refine (HAd.out ax cx w1 (rowOf' hX)).mono ?_
  rintro e w2 ⟨⟨v, uf, rfl, hZ, hK⟩, hb⟩
  clear aW bW yW
  replace kW := Blk.later hb kW; replace hY := OwnK.later hb hY
  replace hZ := OwnK.mono hB.size hZ
  replace hB := belowThru hB hb
  clear hb hX
  obtain ⟨az, cz, e1, -⟩ := hZ.row elem_sn
  rw [HNZ.out] at e1
  subst e1
  obtain ⟨ak, ck, e1, -⟩ := hK.row elem_ft
  have e1 : uf = .slice ak 0 ck := e1
  subst e1
  clear hK
  obtain ⟨aW, bW⟩ := kW.read; have yW := kW.lt
  go_wp2_with fail
  clear aW bW yW
  obtain ⟨BT, hBT⟩ : ∃ b, w2.heap.size = b := ⟨_, rfl⟩
  obtain ⟨W2, hW⟩ : ∃ W, (w2.alloc (.cells #[.int .i64 s, .int .i64 p, .int .i64 g, .int .i64 l, .int .i64 (c + 1), .int .i64 nx, .slice az nZ cz] 36)) = W := ⟨_, rfl⟩
  have kT : Blk W2 BT #[.int .i64 s, .int .i64 p, .int .i64 g, .int .i64 l, .int .i64 (c + 1), .int .i64 nx, .slice az nZ cz] 36 := by rw [← hW, ← hBT]; exact Blk.new rfl
  replace kW : Blk W2 BW #[.int .i64 s, .int .i64 p, .int .i64 g, .int .i64 l, .int .i64 c, .int .i64 nx, .slice ax nX cx, .slice ay nY cy, .slice am nm cm, .int .i64 c, .int .i64 l] 89 := by rw [← hW]; exact kW.alloc
  replace hZ : OwnK 68 4 sn1 w0.heap.size W2 (.slice az nZ cz) Z := by rw [← hW]; exact hZ.alloc
  replace hY : OwnK 125 5 th1 w0.heap.size W2 (.slice ay nY cy) ys := by rw [← hW]; exact hY.alloc
  replace hB : Below w0.heap.size w0 W2 := by rw [← hW]; exact hB.alloc hB.size _
  rw [hW, hBT]
  clear hW hBT
  refine (HMv.out 0 ⟨by decide, by decide⟩ _).mono ?_
  rintro e w3 ⟨rfl, hb⟩
  replace kW := Blk.later hb kW; replace kT := Blk.later hb kT; replace hY := OwnK.later hb hY; replace hZ := OwnK.later hb hZ; replace hB := belowThru hB hb
  clear hb
  go_simp
  iterate 8 go_step
  go_cut [8] (fun s8 wx => s8 = .int .i64 U ∧ Below w3.heap.size w3 wx)
  case first => as_aux_lemma =>
    obtain ⟨ci, rfl⟩ : ∃ ci : Nat, c = (ci : Int) := ⟨c.toNat, by omega⟩
    have hUe := HU.out
    rw [Int.toNat_natCast] at hUe
    by_cases hcn : ci < nm
    · have d1 : decide ((ci : Int) < (nm : Int)) = true := decide_eq_true (by omega)
      obtain ⟨bM, oM, u, ha, hum, hcm⟩ := (HR.out.later hB).num8 hcn
      have hbM : bM < w3.heap.size := by
        obtain ⟨b', o', z', e', q', -⟩ := (HR.out.later hB).at hcn
        rw [ha] at e'
        cases e'
        exact q'
      subst ha
      have hu8 := HU8.out u (List.mem_of_getElem? hum)
      have hUu : mvB s p u = U := by
        rw [hUe, if_pos (by omega), List.getD_eq_getElem?_getD, hum]
        rfl
      have HM := Lib.hid (fun w => HMv.out u hu8 w)
      rw [hUu] at HM
      have HC := Lib.hid hcm
      have p0 : (0 : Int) ≤ (ci : Int) := by omega
      have p1 : (ci : Int) < (nm : Int) := by omega
      clear hUe hUu hum
      obtain ⟨aW, bW⟩ := kW.read; have yW := kW.lt
      go_wp2_with fail
      go_quiet (fail)
      clear aW bW hcm
      go_wp2_with fail
      go_region_held3 (fun w' => (Blk w' BW #[.int .i64 s, .int .i64 p, .int .i64 g, .int .i64 l, .int .i64 (ci : Int), .int .i64 nx, .slice ax nX cx, .slice ay nY cy, .slice (some ⟨bM, oM, none⟩) nm cm, .int .i64 (ci : Int), .int .i64 l] 89 ∧ (∀ i : Nat, w'.cell? ⟨BW, i, none⟩ = (#[.int .i64 s, .int .i64 p, .int .i64 g, .int .i64 l, .int .i64 (ci : Int), .int .i64 nx, .slice ax nX cx, .slice ay nY cy, .slice (some ⟨bM, oM, none⟩) nm cm, .int .i64 (ci : Int), .int .i64 l] : Array Value)[i]?)) ∧ (w'.cell? ⟨bM, oM + ci, none⟩ = some (.int .u8 u)) ∧ Below w3.heap.size w3 w')
        (((first | (apply hold1; (focus assumption); intro p0 pB; obtain ⟨pc, pB⟩ := pB) | skip); refine ⟨Blk.full ?_, ?_, ?_⟩; all_goals (first | ((repeat' (first | (with_reducible assumption) | ((with_reducible refine Blk.new ?_); first | rfl | (simp; done)) | (with_reducible refine Blk.later (by assumption) ?_) | (with_reducible refine Blk.alloc ?_) | (with_reducible refine Blk.drewN ?_) | (with_reducible refine Blk.drew ?_) | (with_reducible refine Blk.other ?_ (by first | omega | (simp; done) | (simp; omega))))); done) | ((repeat' (first | (with_reducible exact Below.refl _ _) | (with_reducible assumption) | (with_reducible refine belowThru ?_ (by assumption)) | (with_reducible refine belowAlloc ?_) | (with_reducible refine Below.setCell ?_ (by first | omega | (simp; done) | (simp; omega)) _) | (with_reducible refine Below.drew ?_) | (with_reducible refine below_drewN ?_ _))); done) | exact cell_later (by (repeat' (first | (with_reducible exact Below.refl _ _) | (with_reducible assumption) | (with_reducible refine belowThru ?_ (by assumption)) | (with_reducible refine belowAlloc ?_) | (with_reducible refine Below.setCell ?_ (by first | omega | (simp; done) | (simp; omega)) _) | (with_reducible refine Below.drew ?_) | (with_reducible refine below_drewN ?_ _)))) HC.out)))
        (first
        | (go_at_call 47; (with_reducible refine (HM.out _).mono ?_); rintro e w1 ⟨rfl, hb⟩))
      all_goals
        apply hold1; (focus assumption); intro p0 pB
        obtain ⟨pc, pB⟩ := pB
        go_wp2_with fail
        go_meet
        case rel => exact ⟨rfl, pB⟩
    · have d1 : decide ((ci : Int) < (nm : Int)) = false := decide_eq_false (by omega)
      have hUu : mvB s p 0 = U := by rw [hUe, if_neg (by omega)]
      rw [hUu]
      clear hUe hUu
      obtain ⟨aW, bW⟩ := kW.read; have yW := kW.lt
      go_wp2_with fail
      go_quiet (fail)
      go_wp2_with fail
      go_meet
      case rel => exact ⟨rfl, by first | exact Below.refl _ _ | exact (Below.refl _ _).drew | (repeat' (first | (with_reducible exact Below.refl _ _) | (with_reducible assumption) | (with_reducible refine belowThru ?_ (by assumption)) | (with_reducible refine belowAlloc ?_) | (with_reducible refine Below.setCell ?_ (by first | omega | (simp; done) | (simp; omega)) _) | (with_reducible refine Below.drew ?_) | (with_reducible refine below_drewN ?_ _)))⟩
  case rest =>
    obtain ⟨rfl, hb⟩ := hcut
    replace kW := Blk.later hb kW; replace kT := Blk.later hb kT; replace hY := OwnK.later hb hY; replace hZ := OwnK.later hb hZ; replace hB := belowThru hB hb
    clear hb
    obtain ⟨aW, bW⟩ := kW.read; have yW := kW.lt
    go_wp2_with fail
    clear aW bW yW
    obtain ⟨WL, hW⟩ : ∃ W, (wc.setCell ⟨BW, 9, none⟩ (.int .i64 (c + 1))) = W := ⟨_, rfl⟩
    have hgr : wc.grownBy WL (some BW) := by rw [← hW]; exact grownBy_set BW 9 _
    replace kT : Blk WL BT #[.int .i64 s, .int .i64 p, .int .i64 g, .int .i64 l, .int .i64 (c + 1), .int .i64 nx, .slice az nZ cz] 36 := Blk.but kT hgr (by intro h; cases h; exact absurd (Blk.ne kT kW (by decide)) (by simp))
    replace hZ := OwnK.past hZ kW (by decide) hgr
    replace hY := OwnK.past hY kW (by decide) hgr
    replace kW : Blk WL BW #[.int .i64 s, .int .i64 p, .int .i64 g, .int .i64 l, .int .i64 c, .int .i64 nx, .slice ax nX cx, .slice ay nY cy, .slice am nm cm, .int .i64 (c + 1), .int .i64 l] 89 := by rw [← hW]; exact Blk.set (i := 9) kW
    replace hB : Below w0.heap.size w0 WL := by rw [← hW]; exact hB.setCell hle _
    rw [hW]
    clear hW hgr
    have HY := Lib.hid (rowOfT hY)
    go_loopw [9, 85] (fun vl vi wr => ∃ i : Nat, i ≤ nY ∧ vi = .int .i64 i ∧ Hid (OwnK 125 5 th1 WL.heap.size wr vl (LL i)) ∧ Below WL.heap.size WL wr) (fun _ vi _ => nY - (intOf vi).toNat)
    case atStart => exact ⟨0, Nat.zero_le _, rfl, by rw [HL0.out]; exact OwnK.nil _ _, Below.refl _ _⟩
    case round =>
      obtain ⟨i, hi, rfl, hO, hW⟩ := hrel
      have hy32 : nY ≤ 32 := HY32.out
      by_cases hlt : i < nY
      · obtain ⟨bY, oY, y1, y2, y3, y4, y5, rfl, hbY, hyi, d0, d1, d2, d3, d4⟩ := HY.out.thing hlt
        replace d0 := cell_later hW d0; replace d1 := cell_later hW d1; replace d2 := cell_later hW d2; replace d3 := cell_later hW d3; replace d4 := cell_later hW d4
        replace hbY := Nat.lt_of_lt_of_le hbY hW.size
        have p0 : (0 : Int) ≤ (i : Int) := by omega
        have p1 : (i : Int) < (nY : Int) := by omega
        obtain ⟨⟨r1, r2⟩, r3, r4⟩ : (-100000000000 ≤ y2 ∧ y2 ≤ 100000000000) ∧ (0 ≤ y3 ∧ y3 ≤ 1000000) := HYF.out i _ hyi
        obtain ⟨u1, u2⟩ := HU2.out
        obtain ⟨FF, hFF⟩ : ∃ F, y2 + U = F := ⟨_, rfl⟩
        obtain ⟨DD, hDD⟩ : ∃ D, y2 - y3 = D := ⟨_, rfl⟩
        have e1 : IntKind.i64.wrap (y2 + U) = FF := by rw [hFF]; exact IntWalk.i64_in _ (by omega)
        have e2 : IntKind.i64.wrap (y2 - y3) = DD := by rw [hDD]; exact IntWalk.i64_in _ (by omega)
        have HI := Lib.hid (HO2.out i _ hyi)
        have HM : Hid (∀ h : Bool, (y5 || ((decide (g ≤ FF) && decide (DD ≤ g)) && o)) = h → movT g U o (y1, y2, y3, y4, y5) = (y1, FF, y3, y4, h)) := fun h hh => by
          unfold movT inG
          simp only [hFF, hDD]
          rw [hh]
        have HG : Hid (inG g U (y1, y2, y3, y4, y5) = (decide (g ≤ FF) && decide (DD ≤ g))) := by
          unfold Hid inG
          simp only [hFF, hDD]
        have HLi := Lib.hid (HLS.out i (y1, y2, y3, y4, y5))
        have HYI := Lib.hid hyi
        have HFF := Lib.hid hFF; have HRB := Lib.hid (And.intro (And.intro r1 r2) (And.intro r3 r4))
        clear hFF hDD hyi r1 r2 r3 r4 u1 u2
        replace kW := Blk.later hW kW
        obtain ⟨aW, bW⟩ := kW.read; have yW := kW.lt
        go_wp2_with fail
        clear aW bW
        obtain ⟨BX, hBX⟩ : ∃ b, wr.heap.size = b := ⟨_, rfl⟩
        obtain ⟨W1, hW1⟩ : ∃ W, (wr.alloc (.cells #[.int .i64 y1, .int .i64 FF, .int .i64 y3, .int .u8 y4, .bool y5] 125)) = W := ⟨_, rfl⟩
        have kX : Blk W1 BX #[.int .i64 y1, .int .i64 FF, .int .i64 y3, .int .u8 y4, .bool y5] 125 := by rw [← hW1, ← hBX]; exact Blk.new rfl
        have hb1 : Below wr.heap.size wr W1 := by rw [← hW1]; exact belowAlloc (Below.refl _ _)
        have kW0 := kW
        replace kW := Blk.later hb1 kW
        have hBXge : WL.heap.size ≤ BX := by rw [← hBX]; exact hW.size
        rw [hW1, hBX]
        have hBXr : wr.heap.size ≤ BX := by rw [← hBX]; exact Nat.le_refl _
        clear hW1 hBX yW d0 d1 d2 d3 d4 hbY
        obtain ⟨aW, bW⟩ := kW.read; have yW := kW.lt
        obtain ⟨aX, bX⟩ := kX.read; have yX := kX.lt
        by_cases q1 : g ≤ FF
        · have b1 : decide (g ≤ FF) = true := decide_eq_true q1
          by_cases q2 : DD ≤ g
          · have b2 : decide (DD ≤ g) = true := decide_eq_true q2
            by_cases hv : y4 = 1
            · subst hv
              have b3 : ((1 : Int) != 1) = false := by simp
              clear HI HG
              cases o <;> cases y5
              · have HMv2 : movT g U false (y1, y2, y3, 1, false) = (y1, FF, y3, 1, false) := HM.out _ (by rw [b1, b2]; rfl)
                clear q1 q2
                go_wp2_with fail
                go_quiet (fail)
                go_wp2_with fail
                obtain ⟨W2, hW2⟩ : ∃ W, ((W1.drewN nq).setCell ⟨BX, 4, none⟩ (.bool false)) = W := ⟨_, rfl⟩
                have hb2 : Below wr.heap.size wr W2 := by rw [← hW2]; exact (below_drewN hb1 _).setCell hBXr _
                have kX2 : Blk W2 BX #[.int .i64 y1, .int .i64 FF, .int .i64 y3, .int .u8 1, .bool false] 125 := by rw [← hW2]; exact Blk.set (i := 4) kX.drewN
                have kW2 := Blk.later hb2 kW0
                rw [hW2]
                clear hW2 aW bW yW aX bX yX hb1 kX kW kW0
                obtain ⟨aW, bW⟩ := kW2.read; have yW := kW2.lt
                obtain ⟨aX, bX⟩ := kX2.read; have yX := kX2.lt
                have hMv := HMv2
                have HA : Hid (∀ wA, Below wr.heap.size wr wA → ∀ ty, ∃ r w', (Builtin.append_ #[87, 87] ty #[u9, .slice (some ⟨wA.heap.size, 0, none⟩) 1 1]).run Try.prog (wA.alloc (.cells #[.int .i64 y1, .int .i64 FF, .int .i64 y3, .int .u8 1, .bool false] 125)) = .ok r w' ∧ (Hid (OwnK 125 5 th1 WL.heap.size w' r (LL (i + 1))) ∧ Below WL.heap.size WL w')) := fun wA hA ty => by
                  obtain ⟨r, w', h1, h2, h3⟩ := run_append_1t ty (y1, FF, y3, 1, false) (OwnK.later hA hO.out) (by have := HLL.out i; omega) (Nat.le_trans hW.size hA.size)
                  refine ⟨r, w', h1, ?_, (belowThru hW hA).trans h3⟩
                  rw [HLi.out HYI.out, hMv]
                  exact h2
                clear hMv
                go_wp2_with fail
                go_quiet (fail)
                obtain ⟨W3, hW3⟩ : ∃ W, W2.drewN nq = W := ⟨_, rfl⟩
                have hb3 : Below wr.heap.size wr W3 := by rw [← hW3]; exact below_drewN hb2 _
                have kX3 : Blk W3 BX #[.int .i64 y1, .int .i64 FF, .int .i64 y3, .int .u8 1, .bool false] 125 := by rw [← hW3]; exact kX2.drewN
                have HA3 := Lib.hid (HA.out W3 hb3)
                rw [hW3]
                clear hW3 aW bW yW aX bX yX kX2 kW2 hb2 HA
                obtain ⟨aX, bX⟩ := kX3.read; have yX := kX3.lt
                go_wp2_with (at_builtin; (refine wpList_append_row rfl _ _ _ _ rfl _ _ rfl rfl (HA3.out _) ?_); (rintro r w5 ⟨hO5, hb5⟩))
                go_roundw
                case rel => exact ⟨i + 1, hlt, by go_num, hO5, hb5⟩
                case measure => simp [intOf]; omega
              · have HMv2 : movT g U false (y1, y2, y3, 1, true) = (y1, FF, y3, 1, true) := HM.out _ (by rw [b1, b2]; rfl)
                clear q1 q2
                go_wp2_with fail
                go_quiet (fail)
                go_wp2_with fail
                obtain ⟨W2, hW2⟩ : ∃ W, ((W1.drewN nq).setCell ⟨BX, 4, none⟩ (.bool true)) = W := ⟨_, rfl⟩
                have hb2 : Below wr.heap.size wr W2 := by rw [← hW2]; exact (below_drewN hb1 _).setCell hBXr _
                have kX2 : Blk W2 BX #[.int .i64 y1, .int .i64 FF, .int .i64 y3, .int .u8 1, .bool true] 125 := by rw [← hW2]; exact Blk.set (i := 4) kX.drewN
                have kW2 := Blk.later hb2 kW0
                rw [hW2]
                clear hW2 aW bW yW aX bX yX hb1 kX kW kW0
                obtain ⟨aW, bW⟩ := kW2.read; have yW := kW2.lt
                obtain ⟨aX, bX⟩ := kX2.read; have yX := kX2.lt
                have hMv := HMv2
                have HA : Hid (∀ wA, Below wr.heap.size wr wA → ∀ ty, ∃ r w', (Builtin.append_ #[87, 87] ty #[u9, .slice (some ⟨wA.heap.size, 0, none⟩) 1 1]).run Try.prog (wA.alloc (.cells #[.int .i64 y1, .int .i64 FF, .int .i64 y3, .int .u8 1, .bool true] 125)) = .ok r w' ∧ (Hid (OwnK 125 5 th1 WL.heap.size w' r (LL (i + 1))) ∧ Below WL.heap.size WL w')) := fun wA hA ty => by
                  obtain ⟨r, w', h1, h2, h3⟩ := run_append_1t ty (y1, FF, y3, 1, true) (OwnK.later hA hO.out) (by have := HLL.out i; omega) (Nat.le_trans hW.size hA.size)
                  refine ⟨r, w', h1, ?_, (belowThru hW hA).trans h3⟩
                  rw [HLi.out HYI.out, hMv]
                  exact h2
                clear hMv
                go_wp2_with fail
                go_quiet (fail)
                obtain ⟨W3, hW3⟩ : ∃ W, W2.drewN nq = W := ⟨_, rfl⟩
                have hb3 : Below wr.heap.size wr W3 := by rw [← hW3]; exact below_drewN hb2 _
                have kX3 : Blk W3 BX #[.int .i64 y1, .int .i64 FF, .int .i64 y3, .int .u8 1, .bool true] 125 := by rw [← hW3]; exact kX2.drewN
                have HA3 := Lib.hid (HA.out W3 hb3)
                rw [hW3]
                clear hW3 aW bW yW aX bX yX kX2 kW2 hb2 HA
                obtain ⟨aX, bX⟩ := kX3.read; have yX := kX3.lt
                go_wp2_with (at_builtin; (refine wpList_append_row rfl _ _ _ _ rfl _ _ rfl rfl (HA3.out _) ?_); (rintro r w5 ⟨hO5, hb5⟩))
                go_roundw
                case rel => exact ⟨i + 1, hlt, by go_num, hO5, hb5⟩
                case measure => simp [intOf]; omega
              · have HMv2 : movT g U true (y1, y2, y3, 1, false) = (y1, FF, y3, 1, true) := HM.out _ (by rw [b1, b2]; rfl)
                clear q1 q2
                go_wp2_with fail
                go_quiet (fail)
                go_wp2_with fail
                obtain ⟨W2, hW2⟩ : ∃ W, ((W1.drewN nq).setCell ⟨BX, 4, none⟩ (.bool true)) = W := ⟨_, rfl⟩
                have hb2 : Below wr.heap.size wr W2 := by rw [← hW2]; exact (below_drewN hb1 _).setCell hBXr _
                have kX2 : Blk W2 BX #[.int .i64 y1, .int .i64 FF, .int .i64 y3, .int .u8 1, .bool true] 125 := by rw [← hW2]; exact Blk.set (i := 4) kX.drewN
                have kW2 := Blk.later hb2 kW0
                rw [hW2]
                clear hW2 aW bW yW aX bX yX hb1 kX kW kW0
                obtain ⟨aW, bW⟩ := kW2.read; have yW := kW2.lt
                obtain ⟨aX, bX⟩ := kX2.read; have yX := kX2.lt
                have hMv := HMv2
                have HA : Hid (∀ wA, Below wr.heap.size wr wA → ∀ ty, ∃ r w', (Builtin.append_ #[87, 87] ty #[u9, .slice (some ⟨wA.heap.size, 0, none⟩) 1 1]).run Try.prog (wA.alloc (.cells #[.int .i64 y1, .int .i64 FF, .int .i64 y3, .int .u8 1, .bool true] 125)) = .ok r w' ∧ (Hid (OwnK 125 5 th1 WL.heap.size w' r (LL (i + 1))) ∧ Below WL.heap.size WL w')) := fun wA hA ty => by
                  obtain ⟨r, w', h1, h2, h3⟩ := run_append_1t ty (y1, FF, y3, 1, true) (OwnK.later hA hO.out) (by have := HLL.out i; omega) (Nat.le_trans hW.size hA.size)
                  refine ⟨r, w', h1, ?_, (belowThru hW hA).trans h3⟩
                  rw [HLi.out HYI.out, hMv]
                  exact h2
                clear hMv
                go_wp2_with fail
                go_quiet (fail)
                obtain ⟨W3, hW3⟩ : ∃ W, W2.drewN nq = W := ⟨_, rfl⟩
                have hb3 : Below wr.heap.size wr W3 := by rw [← hW3]; exact below_drewN hb2 _
                have kX3 : Blk W3 BX #[.int .i64 y1, .int .i64 FF, .int .i64 y3, .int .u8 1, .bool true] 125 := by rw [← hW3]; exact kX2.drewN
                have HA3 := Lib.hid (HA.out W3 hb3)
                rw [hW3]
                clear hW3 aW bW yW aX bX yX kX2 kW2 hb2 HA
                obtain ⟨aX, bX⟩ := kX3.read; have yX := kX3.lt
                go_wp2_with (at_builtin; (refine wpList_append_row rfl _ _ _ _ rfl _ _ rfl rfl (HA3.out _) ?_); (rintro r w5 ⟨hO5, hb5⟩))
                go_roundw
                case rel => exact ⟨i + 1, hlt, by go_num, hO5, hb5⟩
                case measure => simp [intOf]; omega
              · have HMv2 : movT g U true (y1, y2, y3, 1, true) = (y1, FF, y3, 1, true) := HM.out _ (by rw [b1, b2]; rfl)
                clear q1 q2
                go_wp2_with fail
                go_quiet (fail)
                go_wp2_with fail
                obtain ⟨W2, hW2⟩ : ∃ W, ((W1.drewN nq).setCell ⟨BX, 4, none⟩ (.bool true)) = W := ⟨_, rfl⟩
                have hb2 : Below wr.heap.size wr W2 := by rw [← hW2]; exact (below_drewN hb1 _).setCell hBXr _
                have kX2 : Blk W2 BX #[.int .i64 y1, .int .i64 FF, .int .i64 y3, .int .u8 1, .bool true] 125 := by rw [← hW2]; exact Blk.set (i := 4) kX.drewN
                have kW2 := Blk.later hb2 kW0
                rw [hW2]
                clear hW2 aW bW yW aX bX yX hb1 kX kW kW0
                obtain ⟨aW, bW⟩ := kW2.read; have yW := kW2.lt
                obtain ⟨aX, bX⟩ := kX2.read; have yX := kX2.lt
                have hMv := HMv2
                have HA : Hid (∀ wA, Below wr.heap.size wr wA → ∀ ty, ∃ r w', (Builtin.append_ #[87, 87] ty #[u9, .slice (some ⟨wA.heap.size, 0, none⟩) 1 1]).run Try.prog (wA.alloc (.cells #[.int .i64 y1, .int .i64 FF, .int .i64 y3, .int .u8 1, .bool true] 125)) = .ok r w' ∧ (Hid (OwnK 125 5 th1 WL.heap.size w' r (LL (i + 1))) ∧ Below WL.heap.size WL w')) := fun wA hA ty => by
                  obtain ⟨r, w', h1, h2, h3⟩ := run_append_1t ty (y1, FF, y3, 1, true) (OwnK.later hA hO.out) (by have := HLL.out i; omega) (Nat.le_trans hW.size hA.size)
                  refine ⟨r, w', h1, ?_, (belowThru hW hA).trans h3⟩
                  rw [HLi.out HYI.out, hMv]
                  exact h2
                clear hMv
                go_wp2_with fail
                go_quiet (fail)
                obtain ⟨W3, hW3⟩ : ∃ W, W2.drewN nq = W := ⟨_, rfl⟩
                have hb3 : Below wr.heap.size wr W3 := by rw [← hW3]; exact below_drewN hb2 _
                have kX3 : Blk W3 BX #[.int .i64 y1, .int .i64 FF, .int .i64 y3, .int .u8 1, .bool true] 125 := by rw [← hW3]; exact kX2.drewN
                have HA3 := Lib.hid (HA.out W3 hb3)
                rw [hW3]
                clear hW3 aW bW yW aX bX yX kX2 kW2 hb2 HA
                obtain ⟨aX, bX⟩ := kX3.read; have yX := kX3.lt
                go_wp2_with (at_builtin; (refine wpList_append_row rfl _ _ _ _ rfl _ _ rfl rfl (HA3.out _) ?_); (rintro r w5 ⟨hO5, hb5⟩))
                go_roundw
                case rel => exact ⟨i + 1, hlt, by go_num, hO5, hb5⟩
                case measure => simp [intOf]; omega
            · have hvb : (y4 != 1) = true := by simp [hv]
              obtain rfl : o = true := HI.out (by rw [HG.out, b1, b2]; rfl) hv
              clear HI HG
              cases y5
              · have HMv2 : movT g U true (y1, y2, y3, y4, false) = (y1, FF, y3, y4, true) := HM.out _ (by rw [b1, b2]; rfl)
                clear q1 q2
                go_wp2_with fail
                go_quiet (fail)
                go_wp2_with fail
                obtain ⟨W2, hW2⟩ : ∃ W, ((W1.drewN nq).setCell ⟨BX, 4, none⟩ (.bool true)) = W := ⟨_, rfl⟩
                have hb2 : Below wr.heap.size wr W2 := by rw [← hW2]; exact (below_drewN hb1 _).setCell hBXr _
                have kX2 : Blk W2 BX #[.int .i64 y1, .int .i64 FF, .int .i64 y3, .int .u8 y4, .bool true] 125 := by rw [← hW2]; exact Blk.set (i := 4) kX.drewN
                have kW2 := Blk.later hb2 kW0
                rw [hW2]
                clear hW2 aW bW yW aX bX yX hb1 kX kW kW0
                obtain ⟨aW, bW⟩ := kW2.read; have yW := kW2.lt
                obtain ⟨aX, bX⟩ := kX2.read; have yX := kX2.lt
                have hMv := HMv2
                have HA : Hid (∀ wA, Below wr.heap.size wr wA → ∀ ty, ∃ r w', (Builtin.append_ #[87, 87] ty #[u9, .slice (some ⟨wA.heap.size, 0, none⟩) 1 1]).run Try.prog (wA.alloc (.cells #[.int .i64 y1, .int .i64 FF, .int .i64 y3, .int .u8 y4, .bool true] 125)) = .ok r w' ∧ (Hid (OwnK 125 5 th1 WL.heap.size w' r (LL (i + 1))) ∧ Below WL.heap.size WL w')) := fun wA hA ty => by
                  obtain ⟨r, w', h1, h2, h3⟩ := run_append_1t ty (y1, FF, y3, y4, true) (OwnK.later hA hO.out) (by have := HLL.out i; omega) (Nat.le_trans hW.size hA.size)
                  refine ⟨r, w', h1, ?_, (belowThru hW hA).trans h3⟩
                  rw [HLi.out HYI.out, hMv]
                  exact h2
                clear hMv
                go_wp2_with fail
                go_quiet (fail)
                obtain ⟨W3, hW3⟩ : ∃ W, W2.drewN nq = W := ⟨_, rfl⟩
                have hb3 : Below wr.heap.size wr W3 := by rw [← hW3]; exact below_drewN hb2 _
                have kX3 : Blk W3 BX #[.int .i64 y1, .int .i64 FF, .int .i64 y3, .int .u8 y4, .bool true] 125 := by rw [← hW3]; exact kX2.drewN
                have HA3 := Lib.hid (HA.out W3 hb3)
                rw [hW3]
                clear hW3 aW bW yW aX bX yX kX2 kW2 hb2 HA
                obtain ⟨aX, bX⟩ := kX3.read; have yX := kX3.lt
                go_wp2_with (at_builtin; (refine wpList_append_row rfl _ _ _ _ rfl _ _ rfl rfl (HA3.out _) ?_); (rintro r w5 ⟨hO5, hb5⟩))
                go_roundw
                case rel => exact ⟨i + 1, hlt, by go_num, hO5, hb5⟩
                case measure => simp [intOf]; omega
              · have HMv2 : movT g U true (y1, y2, y3, y4, true) = (y1, FF, y3, y4, true) := HM.out _ (by rw [b1, b2]; rfl)
                clear q1 q2
                go_wp2_with fail
                go_quiet (fail)
                go_wp2_with fail
                obtain ⟨W2, hW2⟩ : ∃ W, ((W1.drewN nq).setCell ⟨BX, 4, none⟩ (.bool true)) = W := ⟨_, rfl⟩
                have hb2 : Below wr.heap.size wr W2 := by rw [← hW2]; exact (below_drewN hb1 _).setCell hBXr _
                have kX2 : Blk W2 BX #[.int .i64 y1, .int .i64 FF, .int .i64 y3, .int .u8 y4, .bool true] 125 := by rw [← hW2]; exact Blk.set (i := 4) kX.drewN
                have kW2 := Blk.later hb2 kW0
                rw [hW2]
                clear hW2 aW bW yW aX bX yX hb1 kX kW kW0
                obtain ⟨aW, bW⟩ := kW2.read; have yW := kW2.lt
                obtain ⟨aX, bX⟩ := kX2.read; have yX := kX2.lt
                have hMv := HMv2
                have HA : Hid (∀ wA, Below wr.heap.size wr wA → ∀ ty, ∃ r w', (Builtin.append_ #[87, 87] ty #[u9, .slice (some ⟨wA.heap.size, 0, none⟩) 1 1]).run Try.prog (wA.alloc (.cells #[.int .i64 y1, .int .i64 FF, .int .i64 y3, .int .u8 y4, .bool true] 125)) = .ok r w' ∧ (Hid (OwnK 125 5 th1 WL.heap.size w' r (LL (i + 1))) ∧ Below WL.heap.size WL w')) := fun wA hA ty => by
                  obtain ⟨r, w', h1, h2, h3⟩ := run_append_1t ty (y1, FF, y3, y4, true) (OwnK.later hA hO.out) (by have := HLL.out i; omega) (Nat.le_trans hW.size hA.size)
                  refine ⟨r, w', h1, ?_, (belowThru hW hA).trans h3⟩
                  rw [HLi.out HYI.out, hMv]
                  exact h2
                clear hMv
                go_wp2_with fail
                go_quiet (fail)
                obtain ⟨W3, hW3⟩ : ∃ W, W2.drewN nq = W := ⟨_, rfl⟩
                have hb3 : Below wr.heap.size wr W3 := by rw [← hW3]; exact below_drewN hb2 _
                have kX3 : Blk W3 BX #[.int .i64 y1, .int .i64 FF, .int .i64 y3, .int .u8 y4, .bool true] 125 := by rw [← hW3]; exact kX2.drewN
                have HA3 := Lib.hid (HA.out W3 hb3)
                rw [hW3]
                clear hW3 aW bW yW aX bX yX kX2 kW2 hb2 HA
                obtain ⟨aX, bX⟩ := kX3.read; have yX := kX3.lt
                go_wp2_with (at_builtin; (refine wpList_append_row rfl _ _ _ _ rfl _ _ rfl rfl (HA3.out _) ?_); (rintro r w5 ⟨hO5, hb5⟩))
                go_roundw
                case rel => exact ⟨i + 1, hlt, by go_num, hO5, hb5⟩
                case measure => simp [intOf]; omega
          · have b2 : decide (DD ≤ g) = false := decide_eq_false q2
            clear HI HG
            cases y5
            · have HMv2 : movT g U o (y1, y2, y3, y4, false) = (y1, FF, y3, y4, false) := HM.out _ (by rw [b1, b2]; rfl)
              clear q1 q2
              go_wp2_with fail
              go_quiet (fail)
              go_wp2_with fail
              obtain ⟨W2, hW2⟩ : ∃ W, (W1.drewN nq) = W := ⟨_, rfl⟩
              have hb2 : Below wr.heap.size wr W2 := by rw [← hW2]; exact below_drewN hb1 _
              have kX2 : Blk W2 BX #[.int .i64 y1, .int .i64 FF, .int .i64 y3, .int .u8 y4, .bool false] 125 := by rw [← hW2]; exact kX.drewN
              have kW2 := Blk.later hb2 kW0
              rw [hW2]
              clear hW2 aW bW yW aX bX yX hb1 kX kW kW0
              obtain ⟨aW, bW⟩ := kW2.read; have yW := kW2.lt
              obtain ⟨aX, bX⟩ := kX2.read; have yX := kX2.lt
              have hMv := HMv2
              have HA : Hid (∀ wA, Below wr.heap.size wr wA → ∀ ty, ∃ r w', (Builtin.append_ #[87, 87] ty #[u9, .slice (some ⟨wA.heap.size, 0, none⟩) 1 1]).run Try.prog (wA.alloc (.cells #[.int .i64 y1, .int .i64 FF, .int .i64 y3, .int .u8 y4, .bool false] 125)) = .ok r w' ∧ (Hid (OwnK 125 5 th1 WL.heap.size w' r (LL (i + 1))) ∧ Below WL.heap.size WL w')) := fun wA hA ty => by
                obtain ⟨r, w', h1, h2, h3⟩ := run_append_1t ty (y1, FF, y3, y4, false) (OwnK.later hA hO.out) (by have := HLL.out i; omega) (Nat.le_trans hW.size hA.size)
                refine ⟨r, w', h1, ?_, (belowThru hW hA).trans h3⟩
                rw [HLi.out HYI.out, hMv]
                exact h2
              clear hMv
              go_wp2_with fail
              go_quiet (fail)
              obtain ⟨W3, hW3⟩ : ∃ W, W2.drewN nq = W := ⟨_, rfl⟩
              have hb3 : Below wr.heap.size wr W3 := by rw [← hW3]; exact below_drewN hb2 _
              have kX3 : Blk W3 BX #[.int .i64 y1, .int .i64 FF, .int .i64 y3, .int .u8 y4, .bool false] 125 := by rw [← hW3]; exact kX2.drewN
              have HA3 := Lib.hid (HA.out W3 hb3)
              rw [hW3]
              clear hW3 aW bW yW aX bX yX kX2 kW2 hb2 HA
              obtain ⟨aX, bX⟩ := kX3.read; have yX := kX3.lt
              go_wp2_with (at_builtin; (refine wpList_append_row rfl _ _ _ _ rfl _ _ rfl rfl (HA3.out _) ?_); (rintro r w5 ⟨hO5, hb5⟩))
              go_roundw
              case rel => exact ⟨i + 1, hlt, by go_num, hO5, hb5⟩
              case measure => simp [intOf]; omega
            · have HMv2 : movT g U o (y1, y2, y3, y4, true) = (y1, FF, y3, y4, true) := HM.out _ (by rw [b1, b2]; rfl)
              clear q1 q2
              go_wp2_with fail
              go_quiet (fail)
              go_wp2_with fail
              obtain ⟨W2, hW2⟩ : ∃ W, (W1.drewN nq) = W := ⟨_, rfl⟩
              have hb2 : Below wr.heap.size wr W2 := by rw [← hW2]; exact below_drewN hb1 _
              have kX2 : Blk W2 BX #[.int .i64 y1, .int .i64 FF, .int .i64 y3, .int .u8 y4, .bool true] 125 := by rw [← hW2]; exact kX.drewN
              have kW2 := Blk.later hb2 kW0
              rw [hW2]
              clear hW2 aW bW yW aX bX yX hb1 kX kW kW0
              obtain ⟨aW, bW⟩ := kW2.read; have yW := kW2.lt
              obtain ⟨aX, bX⟩ := kX2.read; have yX := kX2.lt
              have hMv := HMv2
              have HA : Hid (∀ wA, Below wr.heap.size wr wA → ∀ ty, ∃ r w', (Builtin.append_ #[87, 87] ty #[u9, .slice (some ⟨wA.heap.size, 0, none⟩) 1 1]).run Try.prog (wA.alloc (.cells #[.int .i64 y1, .int .i64 FF, .int .i64 y3, .int .u8 y4, .bool true] 125)) = .ok r w' ∧ (Hid (OwnK 125 5 th1 WL.heap.size w' r (LL (i + 1))) ∧ Below WL.heap.size WL w')) := fun wA hA ty => by
                obtain ⟨r, w', h1, h2, h3⟩ := run_append_1t ty (y1, FF, y3, y4, true) (OwnK.later hA hO.out) (by have := HLL.out i; omega) (Nat.le_trans hW.size hA.size)
                refine ⟨r, w', h1, ?_, (belowThru hW hA).trans h3⟩
                rw [HLi.out HYI.out, hMv]
                exact h2
              clear hMv
              go_wp2_with fail
              go_quiet (fail)
              obtain ⟨W3, hW3⟩ : ∃ W, W2.drewN nq = W := ⟨_, rfl⟩
              have hb3 : Below wr.heap.size wr W3 := by rw [← hW3]; exact below_drewN hb2 _
              have kX3 : Blk W3 BX #[.int .i64 y1, .int .i64 FF, .int .i64 y3, .int .u8 y4, .bool true] 125 := by rw [← hW3]; exact kX2.drewN
              have HA3 := Lib.hid (HA.out W3 hb3)
              rw [hW3]
              clear hW3 aW bW yW aX bX yX kX2 kW2 hb2 HA
              obtain ⟨aX, bX⟩ := kX3.read; have yX := kX3.lt
              go_wp2_with (at_builtin; (refine wpList_append_row rfl _ _ _ _ rfl _ _ rfl rfl (HA3.out _) ?_); (rintro r w5 ⟨hO5, hb5⟩))
              go_roundw
              case rel => exact ⟨i + 1, hlt, by go_num, hO5, hb5⟩
              case measure => simp [intOf]; omega
        · have b1 : decide (g ≤ FF) = false := decide_eq_false q1
          clear HI HG
          cases y5
          · have HMv2 : movT g U o (y1, y2, y3, y4, false) = (y1, FF, y3, y4, false) := HM.out _ (by rw [b1]; rfl)
            clear q1
            go_wp2_with fail
            go_quiet (fail)
            go_wp2_with fail
            obtain ⟨W2, hW2⟩ : ∃ W, (W1.drewN nq) = W := ⟨_, rfl⟩
            have hb2 : Below wr.heap.size wr W2 := by rw [← hW2]; exact below_drewN hb1 _
            have kX2 : Blk W2 BX #[.int .i64 y1, .int .i64 FF, .int .i64 y3, .int .u8 y4, .bool false] 125 := by rw [← hW2]; exact kX.drewN
            have kW2 := Blk.later hb2 kW0
            rw [hW2]
            clear hW2 aW bW yW aX bX yX hb1 kX kW kW0
            obtain ⟨aW, bW⟩ := kW2.read; have yW := kW2.lt
            obtain ⟨aX, bX⟩ := kX2.read; have yX := kX2.lt
            have hMv := HMv2
            have HA : Hid (∀ wA, Below wr.heap.size wr wA → ∀ ty, ∃ r w', (Builtin.append_ #[87, 87] ty #[u9, .slice (some ⟨wA.heap.size, 0, none⟩) 1 1]).run Try.prog (wA.alloc (.cells #[.int .i64 y1, .int .i64 FF, .int .i64 y3, .int .u8 y4, .bool false] 125)) = .ok r w' ∧ (Hid (OwnK 125 5 th1 WL.heap.size w' r (LL (i + 1))) ∧ Below WL.heap.size WL w')) := fun wA hA ty => by
              obtain ⟨r, w', h1, h2, h3⟩ := run_append_1t ty (y1, FF, y3, y4, false) (OwnK.later hA hO.out) (by have := HLL.out i; omega) (Nat.le_trans hW.size hA.size)
              refine ⟨r, w', h1, ?_, (belowThru hW hA).trans h3⟩
              rw [HLi.out HYI.out, hMv]
              exact h2
            clear hMv
            go_wp2_with fail
            go_quiet (fail)
            obtain ⟨W3, hW3⟩ : ∃ W, W2.drewN nq = W := ⟨_, rfl⟩
            have hb3 : Below wr.heap.size wr W3 := by rw [← hW3]; exact below_drewN hb2 _
            have kX3 : Blk W3 BX #[.int .i64 y1, .int .i64 FF, .int .i64 y3, .int .u8 y4, .bool false] 125 := by rw [← hW3]; exact kX2.drewN
            have HA3 := Lib.hid (HA.out W3 hb3)
            rw [hW3]
            clear hW3 aW bW yW aX bX yX kX2 kW2 hb2 HA
            obtain ⟨aX, bX⟩ := kX3.read; have yX := kX3.lt
            go_wp2_with (at_builtin; (refine wpList_append_row rfl _ _ _ _ rfl _ _ rfl rfl (HA3.out _) ?_); (rintro r w5 ⟨hO5, hb5⟩))
            go_roundw
            case rel => exact ⟨i + 1, hlt, by go_num, hO5, hb5⟩
            case measure => simp [intOf]; omega
          · have HMv2 : movT g U o (y1, y2, y3, y4, true) = (y1, FF, y3, y4, true) := HM.out _ (by rw [b1]; rfl)
            clear q1
            go_wp2_with fail
            go_quiet (fail)
            go_wp2_with fail
            obtain ⟨W2, hW2⟩ : ∃ W, (W1.drewN nq) = W := ⟨_, rfl⟩
            have hb2 : Below wr.heap.size wr W2 := by rw [← hW2]; exact below_drewN hb1 _
            have kX2 : Blk W2 BX #[.int .i64 y1, .int .i64 FF, .int .i64 y3, .int .u8 y4, .bool true] 125 := by rw [← hW2]; exact kX.drewN
            have kW2 := Blk.later hb2 kW0
            rw [hW2]
            clear hW2 aW bW yW aX bX yX hb1 kX kW kW0
            obtain ⟨aW, bW⟩ := kW2.read; have yW := kW2.lt
            obtain ⟨aX, bX⟩ := kX2.read; have yX := kX2.lt
            have hMv := HMv2
            have HA : Hid (∀ wA, Below wr.heap.size wr wA → ∀ ty, ∃ r w', (Builtin.append_ #[87, 87] ty #[u9, .slice (some ⟨wA.heap.size, 0, none⟩) 1 1]).run Try.prog (wA.alloc (.cells #[.int .i64 y1, .int .i64 FF, .int .i64 y3, .int .u8 y4, .bool true] 125)) = .ok r w' ∧ (Hid (OwnK 125 5 th1 WL.heap.size w' r (LL (i + 1))) ∧ Below WL.heap.size WL w')) := fun wA hA ty => by
              obtain ⟨r, w', h1, h2, h3⟩ := run_append_1t ty (y1, FF, y3, y4, true) (OwnK.later hA hO.out) (by have := HLL.out i; omega) (Nat.le_trans hW.size hA.size)
              refine ⟨r, w', h1, ?_, (belowThru hW hA).trans h3⟩
              rw [HLi.out HYI.out, hMv]
              exact h2
            clear hMv
            go_wp2_with fail
            go_quiet (fail)
            obtain ⟨W3, hW3⟩ : ∃ W, W2.drewN nq = W := ⟨_, rfl⟩
            have hb3 : Below wr.heap.size wr W3 := by rw [← hW3]; exact below_drewN hb2 _
            have kX3 : Blk W3 BX #[.int .i64 y1, .int .i64 FF, .int .i64 y3, .int .u8 y4, .bool true] 125 := by rw [← hW3]; exact kX2.drewN
            have HA3 := Lib.hid (HA.out W3 hb3)
            rw [hW3]
            clear hW3 aW bW yW aX bX yX kX2 kW2 hb2 HA
            obtain ⟨aX, bX⟩ := kX3.read; have yX := kX3.lt
            go_wp2_with (at_builtin; (refine wpList_append_row rfl _ _ _ _ rfl _ _ rfl rfl (HA3.out _) ?_); (rintro r w5 ⟨hO5, hb5⟩))
            go_roundw
            case rel => exact ⟨i + 1, hlt, by go_num, hO5, hb5⟩
            case measure => simp [intOf]; omega
      · obtain rfl : i = nY := by omega
        have hln : ysF.length = nZ := HLF.out
        rw [HLN.out] at hO
        have HOw := Lib.hid (OwnK.mono hB.size hO.out)
        obtain ⟨av, cv, ev, -⟩ := HOw.out.row elem_th
        rw [hln] at ev
        subst ev
        have hB2 : Below w0.heap.size w0 wr := belowThru hB hW
        replace kW := Blk.later hW kW; replace kT := Blk.later hW kT
        have hZ2 := Lib.hid (OwnK.later hW hZ)
        have z1 : IntKind.i64.wrap ((nZ : Int)) = i := by have h := HZN.out; rw [show ((nZ : Int)) = (i : Int) by omega]; exact IntWalk.i64_in _ (by omega)
        have z2 : ((i : Int) != (i : Int)) = false := by simp
        have hgk0 := Lib.hid hle
        clear hO hW hB hZ hln hY hi hlt
        obtain ⟨aW, bW⟩ := kW.read; have yW := kW.lt
        obtain ⟨aT, bT⟩ := kT.read; have yT := kT.lt
        go_wp2_with fail
        go_region
        all_goals go_wp2_with fail
        go_ret
        have hgr := grownBy_set2 (grownBy_set2 (grownBy_set2 (grownBy_set2 (grownBy_set2 (grownBy_set2 (grownBy_set2 (grownBy_set (w := wr) BW 7 (.slice av nZ cv)) 0 (.int .i64 s)) 1 (.int .i64 p)) 2 (.int .i64 g)) 3 (.int .i64 l)) 4 (.int .i64 (c + 1))) 5 (.int .i64 nx)) 6 (.slice az nZ cz)
        rw [HLF.out]
        refine ⟨rfl, az, cz, av, cv, ?_, ?_, ?_, ?_⟩
        · have k7 : Blk (wr.setCell ⟨BW, 7, none⟩ (.slice av nZ cv)) BW #[.int .i64 s, .int .i64 p, .int .i64 g, .int .i64 l, .int .i64 c, .int .i64 nx, .slice ax nX cx, .slice av nZ cv, .slice am nm cm, .int .i64 (c + 1), .int .i64 l] 89 := Blk.set (i := 7) kW
          exact Blk.drew1 (Blk.w7 k7 (.int .i64 s) (.int .i64 p) (.int .i64 g) (.int .i64 l) (.int .i64 (c + 1)) (.int .i64 nx) (.slice az nZ cz))
        · exact (OwnK.past hZ2.out kW (by decide) hgr).drew
        · exact (OwnK.past (OwnK.later (Below.refl _ _) HOw.out) kW (by decide) hgr).drew
        · exact ((((((((hB2.setCell hle _).setCell hle _).setCell hle _).setCell hle _).setCell hle _).setCell hle _).setCell hle _).setCell hle _).drew
end Go.Proofs.Ytbcnoklaaigclaa
