/-
  Proved: GaugeTrue returns true for every input. Conditions: none. (From the walk of its text to the claim.)
-/
import Derived.Test.YtbcgebobfnclnaaM1
import Derived.Test.YtbcgebobfnclnaaM2
import Derived.Test.YtbcgebobfnclnaaM3
import Derived.Test.YtbcgebobfnclnaaM4
import Derived.Test.YtbcgebobfnclnaaM5
import Derived.Test.YtbcgebobfnclnaaM6
import Derived.Test.YtbcgebobfnclnaaM7
import Derived.Test.YtbcgebobfnclnaaM8
import Derived.Test.YtbcgebobfnclnaaM9
import Derived.Test.YtbcgebobfnclnaaQGLawTru2
namespace Go.Proofs.Ytbcgebobfnclnaa.gaugeTrue
open Go.ChangeShapes Go.WideShapes Go.ChangeAt Go.RowKit
set_option linter.unusedVariables false
set_option linter.unusedSimpArgs false

set_option maxRecDepth 100000 in
theorem contract (H : Type) (enc : TypeId × Value → H) (W : World) (base : Nat) (args : Array Value) (ds gs : List (DataW H)) (before : List MemPlace)
    (hval : ∀ (j : Nat) t v, Try.f13.params[j]? = some t → args[j]? = some v → Value.okWide Try.prog W .any base t v)
    (hW : DataW.Whole enc Try.prog Try.f13.params.toList Rows.gaugeTrueSpec.vars false W args.toList ds gs before)
    (hsz : (DataW.weightsEach Try.prog (Try.f13.params.toList ++ (OpenSpec.ofChange Rows.gaugeTrueSpec).bare.plain.varTypes Try.prog) (ds ++ gs)).all (· ≤ reachBytes) = true) :
    Calls Try.prog 13 args W fun e W' => ∃ v, e = .returned v ∧ Rows.gaugeTrueSpec.post enc Try.prog Try.f13 false true false false W args v W' := by
  have hW' := hW
  obtain ⟨p, q, hA0, hV, rfl, hfz, hnd⟩ := hW
  have hA : DataW.TrodAll enc Try.prog W 0 (fun _ => true) true Try.f13.params.toList args.toList ds p := hA0
  rw [Try.params13] at hA hval hsz
  obtain ⟨v0, vs0, d0, ds0, p0, q0, hargs0, rfl, rfl, h0, r0⟩ := trodAll_cons hA
  obtain ⟨v1, vs1, d1, ds1, p1, q1, hargs1, rfl, rfl, h1, r1⟩ := trodAll_cons r0
  obtain ⟨v2, vs2, d2, ds2, p2, q2, hargs2, rfl, rfl, h2, r2⟩ := trodAll_cons r1
  obtain ⟨v3, vs3, d3, ds3, p3, q3, hargs3, rfl, rfl, h3, r3⟩ := trodAll_cons r2
  obtain ⟨rfl, rfl, rfl⟩ := trodAll_nil r3
  obtain rfl : args = #[v0, v1, v2, v3] := by cases args; simp_all
  obtain ⟨rfl, rfl⟩ := trodVars_none hV
  clear hA0
  simp only [List.append_nil, List.cons_append, List.nil_append, DataW.weightsEach, List.all_append, Bool.and_eq_true] at hsz
  obtain ⟨p0_0, p0_1, p0_2, p0_3, p0_4, p0_5, p0_6, p0_7, p0_8, p0_9, rfl, w0_0, w0_1, w0_2, w0_3, w0_4, w0_5, w0_6, w0_7, w0_8, w0_9⟩ := open_gauge (hval 0 41 v0 rfl rfl) h0
  have q0_0 := bounds_i64 w0_0
  have q0_1 := bounds_i64 w0_1
  have q0_2 := bounds_i64 w0_2
  have q0_3 := bounds_i64 w0_3
  have q0_4 := bounds_i64 w0_4
  have q0_5 := bounds_i64 w0_5
  have q0_6 := bounds_i64 w0_6
  have q0_7 := bounds_i64 w0_7
  have q0_8 := bounds_i64 w0_8
  have q0_9 := bounds_i64 w0_9
  obtain ⟨a1, m1, c1, z1, rfl, hc1, hx1, R1, hr1⟩ := open_list (hval 1 27 v1 rfl rfl) h1
  have hm1 : m1 ≤ maxLen := Nat.le_trans hc1 hx1
  have h81 := hr1 hsz.2.1
  obtain ⟨a2, m2, c2, z2, rfl, hc2, hx2, R2, hz2⟩ := open_i16s (hval 2 76 v2 rfl rfl) h2
  have hm2 : m2 ≤ maxLen := Nat.le_trans hc2 hx2
  obtain ⟨n3, rfl, hd3, -⟩ := open_bool Try.underlying4 (hval 3 4 v3 rfl rfl) h3
  refine (true_true p0_0 p0_1 p0_2 p0_3 p0_4 p0_5 p0_6 p0_7 p0_8 p0_9 a1 m1 c1 z1 a2 m2 c2 z2 n3 W hm1 hm2 hz2 q0_2 q0_4 q0_6 q0_8 R1 R2).mono fun e W' ⟨he, hg⟩ => ?_
  subst he
  exact ⟨_, rfl, post_keep hW' rfl rfl rfl (by kernel_rfl) hg⟩

theorem laid_met (os : Os) : laidMet Try.prog Rows.gaugeTrueRow.laid ((World.laidAll Try.prog os Rows.gaugeTrueRow.laid).forCall (fun _ _ => 0) ⟨#[], #[.agg #[.int .i64 0, .int .i64 0, .int .i64 0, .int .i64 0, .int .i64 0, .int .i64 0, .int .i64 0, .int .i64 0, .int .i64 0, .int .i64 0], .slice none 0 0, .slice none 0 0, .bool false], []⟩).memory :=
  laidMet_laidAll _ (by kernel_rfl) (by kernel_rfl)
theorem reads (os : Os) {H : Type} (enc : TypeId × Value → H) : ∃ places, DataW.whole enc Try.prog ((World.laidAll Try.prog os Rows.gaugeTrueRow.laid).forCall (fun _ _ => 0) ⟨#[], #[.agg #[.int .i64 0, .int .i64 0, .int .i64 0, .int .i64 0, .int .i64 0, .int .i64 0, .int .i64 0, .int .i64 0, .int .i64 0, .int .i64 0], .slice none 0 0, .slice none 0 0, .bool false], []⟩).memory Try.f13.params.toList Rows.gaugeTrueSpec.vars false (#[.agg #[.int .i64 0, .int .i64 0, .int .i64 0, .int .i64 0, .int .i64 0, .int .i64 0, .int .i64 0, .int .i64 0, .int .i64 0, .int .i64 0], .slice none 0 0, .slice none 0 0, .bool false] : Array Value).toList 8 = some ([.agg [.lit (.int .i64 0), .lit (.int .i64 0), .agg [.agg [.lit (.int .i64 0), .lit (.int .i64 0)], .agg [.lit (.int .i64 0), .lit (.int .i64 0)]], .agg [.lit (.int .i64 0), .lit (.int .i64 0)], .agg [.lit (.int .i64 0), .lit (.int .i64 0)]], .nil, .nil, .lit (.bool false)], [], places) :=
  ⟨[], by kernel_rfl⟩

set_option maxRecDepth 100000 in
theorem lifted (os : Os) (started : os.Started) (H : Type) (enc : TypeId × Value → H) (F : Stop.Interp) :
    ReturnsInHanded {} Try.checked os 13 .any ((OpenSpec.ofChange Rows.gaugeTrueSpec).preRow enc Try.prog Try.f13 Rows.gaugeTrueRow.domain false Rows.gaugeTrueRow.laid) (((OpenSpec.ofChange Rows.gaugeTrueSpec).at F).post enc Try.prog Try.f13 false true false false) := by
  obtain ⟨places, hx⟩ := reads os enc
  refine returnsInHanded_of_row (C := Try.checked) (s := OpenSpec.ofChange Rows.gaugeTrueSpec) own started (by kernel_rfl) Try.func13
    (witness_row_at (enc := enc) (C := Try.checked) false (World.laidAll Try.prog os Rows.gaugeTrueRow.laid) #[.agg #[.int .i64 0, .int .i64 0, .int .i64 0, .int .i64 0, .int .i64 0, .int .i64 0, .int .i64 0, .int .i64 0, .int .i64 0, .int .i64 0], .slice none 0 0, .slice none 0 0, .bool false] (World.laidAll_os _ _ _) (by kernel_rfl) (by kernel_rfl) (by kernel_rfl)
      (OpenSpec.preRow_of_cond 8 hx (by kernel_rfl) (fun k hk => by cases hk) (by kernel_rfl) (laid_met os))) ?_
  intro W base args ds gs before hval hW _ _ hsz _ _ _
  exact contract H enc W base args ds gs before hval hW hsz

theorem said : Rows.GaugeTrueSaid :=
  OpenClaim.holds_of_cond 13 Try.f13 rfl rfl rfl rfl rfl rfl rfl ⟨rfl, rfl, rfl, rfl, rfl⟩ rfl rfl rfl rfl rfl (by kernel_rfl) Try.func13 (by kernel_rfl)
    (of_decide_eq_true (by kernel_rfl)) (by unfold Func.isWrapper; first | (rw [if_pos (by decide +kernel)]; kernel_rfl) | (rw [if_neg (by decide +kernel)]; exact ⟨rfl, rfl⟩))
    (fun os started H enc _ F => by rw [OpenClaim.pre_eq_preRow]; exact lifted os started H enc F)
end Go.Proofs.Ytbcgebobfnclnaa.gaugeTrue
