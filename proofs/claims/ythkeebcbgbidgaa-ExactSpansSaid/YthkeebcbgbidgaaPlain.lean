/-
  What every plain law of the seat asks beside its walk: the answer true in its world.
-/
import Derived.Test.YthkeebcbgbidgaaRows
import Derived.ProofKit
import Derived.OpenShut
import Derived.ChangeSame
import Derived.Deep.DeepHandedRow
import Derived.LaidSub
import Derived.Lay
import Derived.Test.YthkeebcbgbidgaaBlk
namespace Go.Proofs.Ythkeebcbgbidgaa
open Go.ChangeShapes Go.WideShapes Go.ChangeAt Go.RowKit

theorem own : ownKnob Try.prog.godebug = none := by kernel_rfl

set_option maxRecDepth 100000 in
/-- The answer is true, and nothing has turned. -/
theorem post_true {H : Type} {enc : TypeId × Value → H} {fn : Func} {s : ChangeSpec} {apart : Bool} {W W' : World} {args : Array Value} {ds : List (DataW H)}
    (hW : DataW.Whole enc Try.prog fn.params.toList s.vars apart W args.toList ds [] []) (hv : s.vars = []) (hr : fn.resultTypes = #[4])
    (hs : s.fn H ds = { results := [.lit (.bool true)], args := ds })
    (ha : ∀ sp : Nat → Bool, DataW.TrodAll enc Try.prog W' 0 sp true fn.params.toList args.toList ds [])
    (hb : Below W.heap.size W W') : s.post enc Try.prog fn apart true false false W args (.bool true) W' := by
  have hbool : Try.prog.underlying 4 = some .bool := by kernel_rfl
  have hres : ∀ (b : Nat) (sp : Nat → Bool) (hd : Bool), DataW.TrodAll enc Try.prog W' b sp hd fn.resultTypes.toList ((Value.bool true).resultList fn.resultTypes.size) (s.fn H (ds ++ [])).results [] := by
    intro b sp hd
    rw [List.append_nil, hs, hr]
    exact trodAll_cons_mk (shut_bool hbool _) trodAll_mk0
  have hargs : ∀ sp : Nat → Bool, DataW.TrodAll enc Try.prog W' 0 sp true fn.params.toList args.toList (s.fn H (ds ++ [])).args [] := by
    intro sp
    rw [List.append_nil, hs]
    exact ha sp
  have hvars : ∀ sp : Nat → Bool, DataW.TrodVars enc Try.prog W' sp s.vars (s.fn H (ds ++ [])).vars [] := by
    intro sp
    rw [hv, List.append_nil, hs]
    exact rfl
  have hk : Value.okWide Try.prog W' .any 0 4 (.bool true) := okWide_bool_mk hbool true
  have hok := ok_one (P := Try.prog) (W' := W') (f := fn) (v := .bool true) hr (by simp [Value.resultList]) hk
  refine ⟨ds, [], [], [], [], [], hW, hres _ _ _, hargs _, hvars _, hb.frame _, fun _ => ?_⟩
  refine ⟨hok, _, _, [], ⟨[], [], trodAll_append (hargs _) (hres _ _ _), hvars _, rfl, ?_, ?_⟩, ?_⟩
  · intro b off hp; cases hp
  · intro _; exact List.nodup_nil
  · intro p hp _; cases hp
end Go.Proofs.Ythkeebcbgbidgaa
