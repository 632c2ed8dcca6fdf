/-
  Layer 9: an act at the true belt: a part at the sensor.
-/
import Derived.Test.YtbcnoklaaigclaaVCaA
import Derived.Deep.AppendLies
import Derived.Deep.RegionLaw
namespace Go.Proofs.Ytbcnoklaaigclaa
open Go.RowKit Go.Shelf
set_option linter.unusedVariables false
set_option linter.unusedSimpArgs false


theorem step_append_row {P : Program} {ops : Array Oper} {o : Oper} {act : Act} {K : Act → World → Prop} {Q : Exit → Act → World → Prop} {w : World} {E : Prop} (hgd : o.guard = none) (s x : Operand) (t : TypeId) (R : Value → World → Prop)
    (ho : o.op = .call { callee := .builtin .append, args := #[s, x], argTypes := #[t, t] }) (v u : Value) (hs : act.eval s = v) (hx : act.eval x = u)
    (hr : ∃ r w', (Builtin.append_ #[t, t] o.type #[v, u]).run P w = .ok r w' ∧ R r w')
    (h : ∀ r w', R r w' → K (act.put o.dst r) w') : if Region.wanted o (yielded ops act.tmps) = true then Oper.wp P o act w K Q else E := by
  rw [if_pos (show Region.wanted o (yielded ops act.tmps) = true by simp [Region.wanted, hgd])]
  exact wp_append_row s x t R ho v u hs hx hr h
set_option maxRecDepth 100000 in
set_option maxHeartbeats 16000000 in
theorem act_one (s p g l c nx : Int) (am : Option Addr) (nm cm BW : Nat) (w0 : World) (us : List Int) (xs : List Sn) (ys : List Th) (ho : okT s p g l c nx xs) (hr : relL s p l c xs ys) (hc : c ≤ 90000) (hnx : nx ≤ 1000) (hnm : nm ≤ maxLen) (hu : ∀ u ∈ us, 0 ≤ u ∧ u ≤ 255) (hR : RowK 1 u81 w0 am nm us) (kd N vd : Int) (hkd : 0 ≤ kd ∧ kd ≤ 255) (hN : 0 ≤ N ∧ N ≤ 255) (hvd : 0 ≤ vd ∧ vd ≤ 255) (hk : kd.tmod 3 = 1) (w : World) (hS : StW s p g l am nm cm BW w0 c nx xs ys w) :
    Calls Try.prog 48 #[.pointer (some ⟨BW, 0, none⟩), .agg #[.int .u8 kd, .int .u8 N, .int .u8 vd]] w fun e w' => e = .returned (.bool true) ∧ ∃ c' nx' xs' ys', (c' ≤ c + 20 ∧ nx' ≤ nx + 1) ∧ okT s p g l c' nx' xs' ∧ relL s p l c' xs' ys' ∧ StW s p g l am nm cm BW w0 c' nx' xs' ys' w' := by
  obtain ⟨N1, N2⟩ := hN
  have hl := ho.1.2.2.2
  have hB0 := ho.2.1
  obtain ⟨l1, l2⟩ := hl
  have hnx0 := ho.2.2.1.1
  obtain ⟨r, hrl⟩ : ∃ r, N.tmod (l + 1) = r := ⟨_, rfl⟩
  have hrb : 0 ≤ r ∧ r ≤ l := by
    rw [← hrl, Int.tmod_eq_emod_of_nonneg N1]
    have h1 := Int.emod_nonneg N (show l + 1 ≠ 0 by omega)
    have h2 := Int.emod_lt_of_pos N (show 0 < l + 1 by omega)
    omega
  have e1 : IntKind.i64.wrap N = N := IntWalk.i64_in _ (by omega)
  have e2 : IntKind.i64.wrap r = r := IntWalk.i64_in _ (by omega)
  have e3 : IntKind.i64.wrap (l + 1) = l + 1 := IntWalk.i64_in _ (by omega)
  have e4 : (l + 1 == 0) = false := by simp; omega
  have e5 : ¬ (l + 1 = 0) := by omega
  have e6 : (l + 1 = 0) = False := eq_false e5
  have HRel := Lib.hid (sense_rel (nx := nx) hrb hr)
  have hx32 := ho.2.2.2.1
  have hly := hr.1
  obtain ⟨ax, cx, ay, cy, kW, hX, hY, hB, hle⟩ := hS
  obtain ⟨nX, hnX⟩ : ∃ k, xs.length = k := ⟨_, rfl⟩
  obtain ⟨nY, hnY⟩ : ∃ k, ys.length = k := ⟨_, rfl⟩
  have HSt : Hid (∀ w', Below w.heap.size w w' → StW s p g l am nm cm BW w0 c nx xs ys w') := fun w' hb => StW.later ⟨ax, cx, ay, cy, kW, hX, hY, hB, hle⟩ hb
  rw [hnX] at hX kW
  rw [hnY] at hY kW
  have hcap : nX ≤ cx := by
    obtain ⟨a', c', e, -, hc', -⟩ := hX.row elem_sn
    rw [hnX] at e hc'
    cases e
    exact hc'
  have HSe := Lib.hid (fun w hR => sense_any s p g l c nx ax nX cx xs hcap (by unfold maxLen; omega) w hR)
  have HO := Lib.hid ho; have HR0 := Lib.hid hr
  have HNX := Lib.hid hnX; have HNY := Lib.hid hnY; have HY32 : Hid (nY ≤ 32) := by unfold Hid; omega
  clear hrb ho hr hR hu hnm N1 N2 hcap hx32 hly hB0 hnX hnY
  go_enter Try.func48, Try.ntmps48
  have kA : Blk (w.alloc (.cells #[.int .u8 kd, .int .u8 N, .int .u8 vd] 91)) w.heap.size #[.int .u8 kd, .int .u8 N, .int .u8 vd] 91 := Blk.new rfl
  have hb0 : Below w.heap.size w (w.alloc (.cells #[.int .u8 kd, .int .u8 N, .int .u8 vd] 91)) := belowAlloc (Below.refl _ _)
  replace kW := Blk.later hb0 kW; replace hX := OwnK.later hb0 hX; replace hY := OwnK.later hb0 hY; replace hB := belowThru hB hb0
  obtain ⟨aA, bA⟩ := kA.read; have yA := kA.lt
  obtain ⟨aW, bW⟩ := kW.read; have yW := kW.lt
  go_wp2_with fail
  refine (HSe.out _ (rowOf' hX)).mono ?_
  rintro e w2 ⟨⟨E, hE0, hE, rfl⟩ | ⟨-, ho, ho2, v, rfl, hZ⟩, hb⟩
  · have hb1 := Lib.hid (belowThru hb0 hb)
    have hE9 := senE_ok HO.out
    rw [hE0] at hE9
    clear aA bA yA aW bW yW kA kW hX hY hB hb0 hb hE0
    rcases hE9 with rfl | rfl | rfl
    · simp at hE
    · clear hE
      go_wp2_with fail
      go_ret
      exact ⟨rfl, c, nx, xs, ys, ⟨by omega, by omega⟩, HO.out, HR0.out, HSt.out _ (belowAlloc hb1.out)⟩
    · clear hE
      go_wp2_with fail
      go_ret
      exact ⟨rfl, c, nx, xs, ys, ⟨by omega, by omega⟩, HO.out, HR0.out, HSt.out _ (belowAlloc hb1.out)⟩
  · clear aA bA yA aW bW yW hX
    have hsz : w0.heap.size ≤ (w.alloc (.cells #[.int .u8 kd, .int .u8 N, .int .u8 vd] 91)).heap.size := hB.size
    replace hZ := Lib.hid (OwnK.mono hsz hZ)
    replace kA := Blk.later hb kA; replace kW := Blk.later hb kW; replace hY := OwnK.later hb hY; replace hB := belowThru hB hb
    clear hb hb0 hsz
    obtain ⟨az, cz, ez, -⟩ := hZ.out.row elem_sn
    obtain ⟨nZ, hnZ⟩ : ∃ k, (xs ++ [(nx, c, 0, false)]).length = k := ⟨_, rfl⟩
    rw [hnZ] at ez
    subst ez
    obtain ⟨aA, bA⟩ := kA.read; have yA := kA.lt
    obtain ⟨aW, bW⟩ := kW.read; have yW := kW.lt
    go_wp2_with fail
    have hgr := grownBy_set2 (grownBy_set2 (grownBy_set2 (grownBy_set2 (grownBy_set2 (grownBy_set2 (grownBy_set (w := w2) BW 0 (.int .i64 s)) 1 (.int .i64 p)) 2 (.int .i64 g)) 3 (.int .i64 l)) 4 (.int .i64 c)) 5 (.int .i64 (nx + 1))) 6 (.slice az nZ cz)
    have kW7 := Blk.w7 kW (.int .i64 s) (.int .i64 p) (.int .i64 g) (.int .i64 l) (.int .i64 c) (.int .i64 (nx + 1)) (.slice az nZ cz)
    have hY7 := OwnK.past hY kW (by decide) hgr
    have hZ7 := OwnK.past hZ.out kW (by decide) hgr
    have kA7 : Blk _ w.heap.size #[.int .u8 kd, .int .u8 N, .int .u8 vd] 91 := Blk.but kA hgr (by intro h; cases h; exact absurd (Blk.ne kA kW (by decide)) (by simp))
    have hB7 : Below w0.heap.size w0 (((((((w2.setCell ⟨BW, 0, none⟩ (.int .i64 s)).setCell ⟨BW, 1, none⟩ (.int .i64 p)).setCell ⟨BW, 2, none⟩ (.int .i64 g)).setCell ⟨BW, 3, none⟩ (.int .i64 l)).setCell ⟨BW, 4, none⟩ (.int .i64 c)).setCell ⟨BW, 5, none⟩ (.int .i64 (nx + 1))).setCell ⟨BW, 6, none⟩ (.slice az nZ cz)) := ((((((hB.setCell hle _).setCell hle _).setCell hle _).setCell hle _).setCell hle _).setCell hle _).setCell hle _
    clear aA bA yA aW bW yW kA kW hY hZ hB
    obtain ⟨WA, hWA⟩ : ∃ W, (((((((w2.setCell ⟨BW, 0, none⟩ (.int .i64 s)).setCell ⟨BW, 1, none⟩ (.int .i64 p)).setCell ⟨BW, 2, none⟩ (.int .i64 g)).setCell ⟨BW, 3, none⟩ (.int .i64 l)).setCell ⟨BW, 4, none⟩ (.int .i64 c)).setCell ⟨BW, 5, none⟩ (.int .i64 (nx + 1))).setCell ⟨BW, 6, none⟩ (.slice az nZ cz)) = W := ⟨_, rfl⟩
    rw [hWA] at hgr kW7 hY7 hZ7 kA7 hB7 ⊢
    clear hWA hgr
    obtain ⟨WB, hWB⟩ : ∃ W, WA.alloc (.cells #[.int .i64 s, .int .i64 p, .int .i64 g, .int .i64 l, .int .i64 c, .int .i64 (nx + 1), .slice az nZ cz] 36) = W := ⟨_, rfl⟩
    replace kW7 := (kW7.alloc : Blk (WA.alloc (.cells #[.int .i64 s, .int .i64 p, .int .i64 g, .int .i64 l, .int .i64 c, .int .i64 (nx + 1), .slice az nZ cz] 36)) _ _ _); rw [hWB] at kW7
    replace kA7 := (kA7.alloc : Blk (WA.alloc (.cells #[.int .i64 s, .int .i64 p, .int .i64 g, .int .i64 l, .int .i64 c, .int .i64 (nx + 1), .slice az nZ cz] 36)) _ _ _); rw [hWB] at kA7
    replace hY7 := (hY7.alloc : OwnK _ _ _ _ (WA.alloc (.cells #[.int .i64 s, .int .i64 p, .int .i64 g, .int .i64 l, .int .i64 c, .int .i64 (nx + 1), .slice az nZ cz] 36)) _ _); rw [hWB] at hY7
    replace hZ7 := (hZ7.alloc : OwnK _ _ _ _ (WA.alloc (.cells #[.int .i64 s, .int .i64 p, .int .i64 g, .int .i64 l, .int .i64 c, .int .i64 (nx + 1), .slice az nZ cz] 36)) _ _); rw [hWB] at hZ7
    replace hB7 := (hB7.alloc hB7.size _ : Below _ _ (WA.alloc (.cells #[.int .i64 s, .int .i64 p, .int .i64 g, .int .i64 l, .int .i64 c, .int .i64 (nx + 1), .slice az nZ cz] 36))); rw [hWB] at hB7
    rw [hWB]
    clear hWB
    obtain ⟨aA, bA⟩ := kA7.read; have yA := kA7.lt
    obtain ⟨aW, bW⟩ := kW7.read; have yW := kW7.lt
    have HA : Hid (∀ ty, ∃ r' w', (Builtin.append_ #[87, 87] ty #[.slice ay nY cy, .slice (some ⟨WB.drew.heap.size, 0, none⟩) 1 1]).run Try.prog (WB.drew.alloc (.cells #[.int .i64 nx, .int .i64 0, .int .i64 r, .int .u8 0, .bool false] 125)) = .ok r' w' ∧ (Hid (OwnK 125 5 th1 w0.heap.size w' r' (ys ++ [(nx, 0, r, 0, false)])) ∧ Below w0.heap.size w0 w' ∧ Blk w' BW #[.int .i64 s, .int .i64 p, .int .i64 g, .int .i64 l, .int .i64 c, .int .i64 (nx + 1), .slice az nZ cz, .slice ay nY cy, .slice am nm cm, .int .i64 c, .int .i64 l] 89 ∧ Hid (OwnK 68 4 sn1 w0.heap.size w' (.slice az nZ cz) (xs ++ [(nx, c, 0, false)])))) := fun ty => by
      obtain ⟨r', w', h1, h2, h3, h4, -⟩ := run_append_1 elem_th ty (nx, 0, r, 0, false) (OwnK.drew hY7) (by have := HNY.out; have := HY32.out; omega) hB7.size
      refine ⟨r', w', h1, h2, hB7.drew.trans h4, ?_, ?_⟩
      · exact Blk.but (Blk.alloc (Blk.drew1 kW7)) h3 (by intro h; exact OwnK.ne hY7 kW7 (by decide) h.symm)
      · exact OwnK.but (OwnK.alloc (OwnK.drew hZ7)) h3 (OwnK.apart hZ7 hY7 (by decide))
    go_region_law ((refine step_append_row rfl _ _ _ _ rfl _ _ rfl rfl (HA.out _) ?_); (rintro r5 w5 ⟨hO5, hB5, kW5, hZ5⟩); (obtain ⟨ar, cr, er, -⟩ := hO5.out.row elem_th); (subst er); (obtain ⟨aW5, bW5⟩ := kW5.read); (have yW5 := kW5.lt))
    all_goals go_wp2_with fail
    all_goals go_ret
    all_goals refine ⟨rfl, c, nx + 1, xs ++ [(nx, c, 0, false)], ys ++ [(nx, 0, r, 0, false)], ⟨by omega, by omega⟩, ho2, HRel.out, az, cz, ar, cr, ?_, ?_, ?_, ?_, hle⟩
    all_goals try rw [hnZ]
    all_goals have hl2 : (ys ++ [(nx, 0, r, 0, false)]).length = ys.length + 1 := by simp
    all_goals have hO6 := hO5.out
    all_goals rw [hl2] at hO6
    all_goals try rw [hl2]
    all_goals first
      | exact Blk.set (i := 7) kW5
      | exact OwnK.past hZ5.out kW5 (by decide) (grownBy_set BW 7 _)
      | exact OwnK.past hO6 kW5 (by decide) (grownBy_set BW 7 _)
      | exact Below.setCell (p := ⟨BW, 7, none⟩) hB5 hle _
end Go.Proofs.Ytbcnoklaaigclaa
