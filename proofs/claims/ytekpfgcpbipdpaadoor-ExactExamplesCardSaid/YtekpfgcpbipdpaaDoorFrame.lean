/-
  What every law of the seat asks beside its walk: the table from the row's list, the world of the witness, the answer true in its world.
-/
import Derived.Test.YtekpfgcpbipdpaaDoorCards
import Derived.Test.YtekpfgcpbipdpaaDoorTie
import Derived.ProofKit
import Derived.OpenShut
import Derived.ChangeSame
import Derived.Deep.DeepHandedRow
import Derived.Lib.LaidTab
import Derived.LaidSub
import Derived.Lay
import Derived.Test.YtekpfgcpbipdpaaDoorText
namespace Go.Proofs.YtekpfgcpbipdpaaDoor
open Go.ChangeShapes Go.WideShapes Go.ChangeAt Go.RowKit

theorem own : ownKnob Tryd.prog.godebug = none := by kernel_rfl

/-- WHAT A ROW's LIST GIVES: the table of powers of ten. -/
theorem Tab.laid {l : List (String × DataW Unit)} {W : World} (h : laidMet Tryd.prog l W)
    (hl : (l.filter fun x => x.1 == "internal/strconv.uint64pow10") = [("internal/strconv.uint64pow10", Lib.tabData .u64 Lib.pow10Tab)]) : Tab W := by
  have h' := laidMet.filter (fun x => x.1 == "internal/strconv.uint64pow10") h
  rw [hl] at h'
  exact Lib.tabIs_of_head (rest := []) (g := 5) (by kernel_rfl) (by kernel_rfl) (t := 153) (e := 60) (n := 20) (by kernel_rfl) (by kernel_rfl) (by kernel_rfl) (by kernel_rfl) h'

set_option maxRecDepth 100000 in
/-- The answer is true, and nothing has turned. -/
theorem post_true {H : Type} {enc : TypeId × Value → H} {fn : Func} {s : ChangeSpec} {apart : Bool} {W W' : World} {args : Array Value} {ds : List (DataW H)}
    (hW : DataW.Whole enc Tryd.prog fn.params.toList s.vars apart W args.toList ds [] []) (hv : s.vars = []) (hr : fn.resultTypes = #[4])
    (hs : s.fn H ds = { results := [.lit (.bool true)], args := ds })
    (ha : ∀ sp : Nat → Bool, DataW.TrodAll enc Tryd.prog W' 0 sp true fn.params.toList args.toList ds [])
    (hb : Below W.heap.size W W') : s.post enc Tryd.prog fn apart true false false W args (.bool true) W' := by
  have hbool : Tryd.prog.underlying 4 = some .bool := by kernel_rfl
  have hres : ∀ (b : Nat) (sp : Nat → Bool) (hd : Bool), DataW.TrodAll enc Tryd.prog W' b sp hd fn.resultTypes.toList ((Value.bool true).resultList fn.resultTypes.size) (s.fn H (ds ++ [])).results [] := by
    intro b sp hd
    rw [List.append_nil, hs, hr]
    exact trodAll_cons_mk (shut_bool hbool _) trodAll_mk0
  have hargs : ∀ sp : Nat → Bool, DataW.TrodAll enc Tryd.prog W' 0 sp true fn.params.toList args.toList (s.fn H (ds ++ [])).args [] := by
    intro sp
    rw [List.append_nil, hs]
    exact ha sp
  have hvars : ∀ sp : Nat → Bool, DataW.TrodVars enc Tryd.prog W' sp s.vars (s.fn H (ds ++ [])).vars [] := by
    intro sp
    rw [hv, List.append_nil, hs]
    exact rfl
  have hk : Value.okWide Tryd.prog W' .any 0 4 (.bool true) := okWide_bool_mk hbool true
  have hok := ok_one (P := Tryd.prog) (W' := W') (f := fn) (v := .bool true) hr (by simp [Value.resultList]) hk
  refine ⟨ds, [], [], [], [], [], hW, hres _ _ _, hargs _, hvars _, hb.frame _, fun _ => ?_⟩
  refine ⟨hok, _, _, [], ⟨[], [], trodAll_append (hargs _) (hres _ _ _), hvars _, rfl, ?_, ?_⟩, ?_⟩
  · intro b off hp; cases hp
  · intro _; exact List.nodup_nil
  · intro p hp _; cases hp
end Go.Proofs.YtekpfgcpbipdpaaDoor
