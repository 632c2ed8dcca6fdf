/-
  Proved: BeltTrue returns true for every input. Conditions: none. (From the walk of its text to the claim.)
-/
import Derived.Test.YtbcnoklaaigclaaVOpU
import Derived.Test.YtbcnoklaaigclaaVTru
namespace Go.Proofs.Ytbcnoklaaigclaa.beltTrue
open Go.ChangeShapes Go.WideShapes Go.ChangeAt Go.RowKit
set_option linter.unusedVariables false
set_option linter.unusedSimpArgs false

set_option maxRecDepth 100000 in
theorem contract (H : Type) (enc : TypeId × Value → H) (W : World) (base : Nat) (args : Array Value) (ds gs : List (DataW H)) (before : List MemPlace)
    (hval : ∀ (j : Nat) t v, Try.f14.params[j]? = some t → args[j]? = some v → Value.okWide Try.prog W .any base t v)
    (hW : DataW.Whole enc Try.prog Try.f14.params.toList Rows.beltTrueSpec.vars false W args.toList ds gs before)
    (hsz : (DataW.weightsEach Try.prog (Try.f14.params.toList ++ (OpenSpec.ofChange Rows.beltTrueSpec).bare.plain.varTypes Try.prog) (ds ++ gs)).all (· ≤ reachBytes) = true) :
    Calls Try.prog 14 args W fun e W' => ∃ v, e = .returned v ∧ Rows.beltTrueSpec.post enc Try.prog Try.f14 false true false false W args v W' := by
  have hW' := hW
  obtain ⟨p, q, hA0, hV, rfl, hfz, hnd⟩ := hW
  have hA : DataW.TrodAll enc Try.prog W 0 (fun _ => true) true Try.f14.params.toList args.toList ds p := hA0
  rw [Try.params14] at hA hval hsz
  obtain ⟨v0, vs0, d0, ds0, p0, q0, hargs0, rfl, rfl, h0, r0⟩ := trodAll_cons hA
  obtain ⟨v1, vs1, d1, ds1, p1, q1, hargs1, rfl, rfl, h1, r1⟩ := trodAll_cons r0
  obtain ⟨v2, vs2, d2, ds2, p2, q2, hargs2, rfl, rfl, h2, r2⟩ := trodAll_cons r1
  obtain ⟨v3, vs3, d3, ds3, p3, q3, hargs3, rfl, rfl, h3, r3⟩ := trodAll_cons r2
  obtain ⟨v4, vs4, d4, ds4, p4, q4, hargs4, rfl, rfl, h4, r4⟩ := trodAll_cons r3
  obtain ⟨v5, vs5, d5, ds5, p5, q5, hargs5, rfl, rfl, h5, r5⟩ := trodAll_cons r4
  obtain ⟨v6, vs6, d6, ds6, p6, q6, hargs6, rfl, rfl, h6, r6⟩ := trodAll_cons r5
  obtain ⟨rfl, rfl, rfl⟩ := trodAll_nil r6
  obtain rfl : args = #[v0, v1, v2, v3, v4, v5, v6] := by cases args; simp_all
  obtain ⟨rfl, rfl⟩ := trodVars_none hV
  clear hA0
  simp only [List.append_nil, List.cons_append, List.nil_append, DataW.weightsEach, List.all_append, Bool.and_eq_true] at hsz
  obtain ⟨l0, hl0, rfl, wl0⟩ := open_nums Try.underlying3 Try.underlying26 (by kernel_rfl) (by kernel_rfl) (by kernel_rfl) (hval 0 26 v0 rfl rfl) h0
  obtain ⟨p0_0, p0_1, p0_2, p0_3, rfl⟩ : ∃ p0_0 p0_1 p0_2 p0_3, l0 = [p0_0, p0_1, p0_2, p0_3] := by
    match l0, hl0 with
    | [p0_0, p0_1, p0_2, p0_3], _ => exact ⟨p0_0, p0_1, p0_2, p0_3, rfl⟩
  have q0_0 := bounds_i64 (wl0 p0_0 (by simp))
  have q0_1 := bounds_i64 (wl0 p0_1 (by simp))
  have q0_2 := bounds_i64 (wl0 p0_2 (by simp))
  have q0_3 := bounds_i64 (wl0 p0_3 (by simp))
  obtain ⟨a1, m1, c1, z1, rfl, hc1, hx1, R1, hz1⟩ := open_u16s (hval 1 100 v1 rfl rfl) h1
  have hm1 : m1 ≤ maxLen := Nat.le_trans hc1 hx1
  obtain ⟨a2, m2, c2, z2, rfl, hc2, hx2, R2, hz2⟩ := open_u8s (hval 2 81 v2 rfl rfl) h2
  have hm2 : m2 ≤ maxLen := Nat.le_trans hc2 hx2
  obtain ⟨a3, m3, c3, z3, rfl, hc3, hx3, R3, hz3⟩ := open_u8s (hval 3 81 v3 rfl rfl) h3
  have hm3 : m3 ≤ maxLen := Nat.le_trans hc3 hx3
  obtain ⟨n4, rfl, hd4, -, wf4⟩ := open_int Try.underlying101 (hval 4 101 v4 rfl rfl) h4
  have b4 := bounds_u16 wf4
  obtain ⟨n5, rfl, hd5, -, wf5⟩ := open_int Try.underlying101 (hval 5 101 v5 rfl rfl) h5
  have b5 := bounds_u16 wf5
  obtain ⟨n6, rfl, hd6, -, wf6⟩ := open_int Try.underlying101 (hval 6 101 v6 rfl rfl) h6
  have b6 := bounds_u16 wf6
  refine (tru_true p0_0 p0_1 p0_2 p0_3 a1 a2 a3 m1 m2 m3 c1 c2 c3 n4 n5 n6 z1 z2 z3 hz1 hz2 hz3 b4 b5 b6 W R1 R2 R3).mono fun e W' ⟨he, hg⟩ => ?_
  subst he
  exact ⟨_, rfl, post_keep hW' rfl rfl rfl (by kernel_rfl) hg⟩

theorem laid_met (os : Os) : laidMet Try.prog Rows.beltTrueRow.laid ((World.laidAll Try.prog os Rows.beltTrueRow.laid).forCall (fun _ _ => 0) ⟨#[], #[.agg #[.int .i64 0, .int .i64 0, .int .i64 0, .int .i64 0], .slice none 0 0, .slice none 0 0, .slice none 0 0, .int .u16 0, .int .u16 0, .int .u16 0], []⟩).memory :=
  laidMet_laidAll _ (by kernel_rfl) (by kernel_rfl)
theorem reads (os : Os) {H : Type} (enc : TypeId × Value → H) : ∃ places, DataW.whole enc Try.prog ((World.laidAll Try.prog os Rows.beltTrueRow.laid).forCall (fun _ _ => 0) ⟨#[], #[.agg #[.int .i64 0, .int .i64 0, .int .i64 0, .int .i64 0], .slice none 0 0, .slice none 0 0, .slice none 0 0, .int .u16 0, .int .u16 0, .int .u16 0], []⟩).memory Try.f14.params.toList Rows.beltTrueSpec.vars false (#[.agg #[.int .i64 0, .int .i64 0, .int .i64 0, .int .i64 0], .slice none 0 0, .slice none 0 0, .slice none 0 0, .int .u16 0, .int .u16 0, .int .u16 0] : Array Value).toList 8 = some ([.agg [.lit (.int .i64 0), .lit (.int .i64 0), .lit (.int .i64 0), .lit (.int .i64 0)], .nil, .nil, .nil, .lit (.int .u16 0), .lit (.int .u16 0), .lit (.int .u16 0)], [], places) :=
  ⟨[], by kernel_rfl⟩

set_option maxRecDepth 100000 in
theorem lifted (os : Os) (started : os.Started) (H : Type) (enc : TypeId × Value → H) (F : Stop.Interp) :
    ReturnsInHanded {} Try.checked os 14 .any ((OpenSpec.ofChange Rows.beltTrueSpec).preRow enc Try.prog Try.f14 Rows.beltTrueRow.domain false Rows.beltTrueRow.laid) (((OpenSpec.ofChange Rows.beltTrueSpec).at F).post enc Try.prog Try.f14 false true false false) := by
  obtain ⟨places, hx⟩ := reads os enc
  refine returnsInHanded_of_row (C := Try.checked) (s := OpenSpec.ofChange Rows.beltTrueSpec) own started (by kernel_rfl) Try.func14
    (witness_row_at (enc := enc) (C := Try.checked) false (World.laidAll Try.prog os Rows.beltTrueRow.laid) #[.agg #[.int .i64 0, .int .i64 0, .int .i64 0, .int .i64 0], .slice none 0 0, .slice none 0 0, .slice none 0 0, .int .u16 0, .int .u16 0, .int .u16 0] (World.laidAll_os _ _ _) (by kernel_rfl) (by kernel_rfl) (by kernel_rfl)
      (OpenSpec.preRow_of_cond 8 hx (by kernel_rfl) (fun k hk => by cases hk) (by kernel_rfl) (laid_met os))) ?_
  intro W base args ds gs before hval hW _ _ hsz _ _ _
  exact contract H enc W base args ds gs before hval hW hsz

theorem said : Rows.BeltTrueSaid :=
  OpenClaim.holds_of_cond 14 Try.f14 rfl rfl rfl rfl rfl rfl rfl ⟨rfl, rfl, rfl, rfl, rfl⟩ rfl rfl rfl rfl rfl (by kernel_rfl) Try.func14 (by kernel_rfl)
    (of_decide_eq_true (by kernel_rfl)) (by unfold Func.isWrapper; first | (rw [if_pos (by decide +kernel)]; kernel_rfl) | (rw [if_neg (by decide +kernel)]; exact ⟨rfl, rfl⟩))
    (fun os started H enc _ F => by rw [OpenClaim.pre_eq_preRow]; exact lifted os started H enc F)
end Go.Proofs.Ytbcnoklaaigclaa.beltTrue
