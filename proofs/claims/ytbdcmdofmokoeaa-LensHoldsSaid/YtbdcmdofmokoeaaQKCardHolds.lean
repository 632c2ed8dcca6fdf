/-
  Proved: LensHolds returns true for every input. Conditions: none. (From the walk of its text to the claim.)
-/
import Derived.Test.YtbdcmdofmokoeaaQKLawOpV
import Derived.Test.YtbdcmdofmokoeaaQKLawAdd2
import Derived.Test.YtbdcmdofmokoeaaQKLawHol2
namespace Go.Proofs.Ytbdcmdofmokoeaa.lensHolds
open Go.ChangeShapes Go.WideShapes Go.ChangeAt Go.RowKit
set_option linter.unusedVariables false
set_option linter.unusedSimpArgs false

set_option maxRecDepth 100000 in
theorem contract (H : Type) (enc : TypeId × Value → H) (W : World) (base : Nat) (args : Array Value) (ds gs : List (DataW H)) (before : List MemPlace)
    (hval : ∀ (j : Nat) t v, Try.f8.params[j]? = some t → args[j]? = some v → Value.okWide Try.prog W .any base t v)
    (hW : DataW.Whole enc Try.prog Try.f8.params.toList Rows.lensHoldsSpec.vars false W args.toList ds gs before)
    (hsz : (DataW.weightsEach Try.prog (Try.f8.params.toList ++ (OpenSpec.ofChange Rows.lensHoldsSpec).bare.plain.varTypes Try.prog) (ds ++ gs)).all (· ≤ reachBytes) = true) :
    Calls Try.prog 8 args W fun e W' => ∃ v, e = .returned v ∧ Rows.lensHoldsSpec.post enc Try.prog Try.f8 false true false false W args v W' := by
  have hW' := hW
  obtain ⟨p, q, hA0, hV, rfl, hfz, hnd⟩ := hW
  have hA : DataW.TrodAll enc Try.prog W 0 (fun _ => true) true Try.f8.params.toList args.toList ds p := hA0
  rw [Try.params8] at hA hval hsz
  obtain ⟨v0, vs0, d0, ds0, p0, q0, hargs0, rfl, rfl, h0, r0⟩ := trodAll_cons hA
  obtain ⟨v1, vs1, d1, ds1, p1, q1, hargs1, rfl, rfl, h1, r1⟩ := trodAll_cons r0
  obtain ⟨v2, vs2, d2, ds2, p2, q2, hargs2, rfl, rfl, h2, r2⟩ := trodAll_cons r1
  obtain ⟨v3, vs3, d3, ds3, p3, q3, hargs3, rfl, rfl, h3, r3⟩ := trodAll_cons r2
  obtain ⟨v4, vs4, d4, ds4, p4, q4, hargs4, rfl, rfl, h4, r4⟩ := trodAll_cons r3
  obtain ⟨v5, vs5, d5, ds5, p5, q5, hargs5, rfl, rfl, h5, r5⟩ := trodAll_cons r4
  obtain ⟨rfl, rfl, rfl⟩ := trodAll_nil r5
  obtain rfl : args = #[v0, v1, v2, v3, v4, v5] := by cases args; simp_all
  obtain ⟨rfl, rfl⟩ := trodVars_none hV
  clear hA0
  simp only [List.append_nil, List.cons_append, List.nil_append, DataW.weightsEach, List.all_append, Bool.and_eq_true] at hsz
  obtain ⟨a0, m0, c0, z0, rfl, hc0, hx0, R0⟩ := open_views (hval 0 38 v0 rfl rfl) h0
  have hm0 : m0 ≤ maxLen := Nat.le_trans hc0 hx0
  obtain ⟨n1, rfl, hd1, -, wf1⟩ := open_int Try.underlying73 (hval 1 73 v1 rfl rfl) h1
  have b1 := bounds_i16 wf1
  obtain ⟨n2, rfl, hd2, -, wf2⟩ := open_int Try.underlying73 (hval 2 73 v2 rfl rfl) h2
  have b2 := bounds_i16 wf2
  obtain ⟨n3, rfl, hd3, -, wf3⟩ := open_int Try.underlying73 (hval 3 73 v3 rfl rfl) h3
  have b3 := bounds_i16 wf3
  obtain ⟨n4, rfl, hd4, -, wf4⟩ := open_int Try.underlying3 (hval 4 3 v4 rfl rfl) h4
  have b4 := bounds_i64 wf4
  obtain ⟨n5, rfl, hd5, -, wf5⟩ := open_int Try.underlying3 (hval 5 3 v5 rfl rfl) h5
  have b5 := bounds_i64 wf5
  refine (lawHol_true a0 m0 c0 z0 n1 n2 n3 n4 n5 hc0 b1 b2 b3 W R0).mono fun e W' ⟨he, hg⟩ => ?_
  subst he
  exact ⟨_, rfl, post_keep hW' rfl rfl rfl (by kernel_rfl) hg⟩

theorem laid_met (os : Os) : laidMet Try.prog Rows.lensHoldsRow.laid ((World.laidAll Try.prog os Rows.lensHoldsRow.laid).forCall (fun _ _ => 0) ⟨#[], #[.slice none 0 0, .int .i16 0, .int .i16 0, .int .i16 0, .int .i64 0, .int .i64 0], []⟩).memory :=
  laidMet_laidAll _ (by kernel_rfl) (by kernel_rfl)
theorem reads (os : Os) {H : Type} (enc : TypeId × Value → H) : ∃ places, DataW.whole enc Try.prog ((World.laidAll Try.prog os Rows.lensHoldsRow.laid).forCall (fun _ _ => 0) ⟨#[], #[.slice none 0 0, .int .i16 0, .int .i16 0, .int .i16 0, .int .i64 0, .int .i64 0], []⟩).memory Try.f8.params.toList Rows.lensHoldsSpec.vars false (#[.slice none 0 0, .int .i16 0, .int .i16 0, .int .i16 0, .int .i64 0, .int .i64 0] : Array Value).toList 8 = some ([.nil, .lit (.int .i16 0), .lit (.int .i16 0), .lit (.int .i16 0), .lit (.int .i64 0), .lit (.int .i64 0)], [], places) :=
  ⟨[], by kernel_rfl⟩

set_option maxRecDepth 100000 in
theorem lifted (os : Os) (started : os.Started) (H : Type) (enc : TypeId × Value → H) (F : Stop.Interp) :
    ReturnsInHanded {} Try.checked os 8 .any ((OpenSpec.ofChange Rows.lensHoldsSpec).preRow enc Try.prog Try.f8 Rows.lensHoldsRow.domain false Rows.lensHoldsRow.laid) (((OpenSpec.ofChange Rows.lensHoldsSpec).at F).post enc Try.prog Try.f8 false true false false) := by
  obtain ⟨places, hx⟩ := reads os enc
  refine returnsInHanded_of_row (C := Try.checked) (s := OpenSpec.ofChange Rows.lensHoldsSpec) own started (by kernel_rfl) Try.func8
    (witness_row_at (enc := enc) (C := Try.checked) false (World.laidAll Try.prog os Rows.lensHoldsRow.laid) #[.slice none 0 0, .int .i16 0, .int .i16 0, .int .i16 0, .int .i64 0, .int .i64 0] (World.laidAll_os _ _ _) (by kernel_rfl) (by kernel_rfl) (by kernel_rfl)
      (OpenSpec.preRow_of_cond 8 hx (by kernel_rfl) (fun k hk => by cases hk) (by kernel_rfl) (laid_met os))) ?_
  intro W base args ds gs before hval hW _ _ hsz _ _ _
  exact contract H enc W base args ds gs before hval hW hsz

theorem said : Rows.LensHoldsSaid :=
  OpenClaim.holds_of_cond 8 Try.f8 rfl rfl rfl rfl rfl rfl rfl ⟨rfl, rfl, rfl, rfl, rfl⟩ rfl rfl rfl rfl rfl (by kernel_rfl) Try.func8 (by kernel_rfl)
    (of_decide_eq_true (by kernel_rfl)) (by unfold Func.isWrapper; first | (rw [if_pos (by decide +kernel)]; kernel_rfl) | (rw [if_neg (by decide +kernel)]; exact ⟨rfl, rfl⟩))
    (fun os started H enc _ F => by rw [OpenClaim.pre_eq_preRow]; exact lifted os started H enc F)
end Go.Proofs.Ytbdcmdofmokoeaa.lensHolds
