/-
  What a law over Parse asks beside its walk: the library's errors from the row's list, its bound from the world's shape; a witness by its shape.
-/
import Derived.Test.YtekpfgcpbipdpaaDoorFrame
import Derived.Test.YtekpfgcpbipdpaaDoorParse
import Derived.Stop.LaidErr
import Derived.Shelf.Vars
namespace Go.Proofs.YtekpfgcpbipdpaaDoor
open Go.ChangeShapes Go.WideShapes Go.ChangeAt Go.RowKit

theorem gES : Tryd.prog.globalNamed "strconv.ErrSyntax" = some 3 := by kernel_rfl
theorem gER : Tryd.prog.globalNamed "strconv.ErrRange" = some 4 := by kernel_rfl
theorem gEST : (Tryd.prog.globals[3]?).map (·.type) = some 78 := by kernel_rfl
theorem gERT : (Tryd.prog.globals[4]?).map (·.type) = some 78 := by kernel_rfl
theorem cellsES : Tryd.prog.cellsOf 151 = 1 := by kernel_rfl
theorem cellsStr : Tryd.prog.cellsOf 9 = 1 := by kernel_rfl
theorem starES : "*" ++ "errors.errorString" = "*errors.errorString" := by decide
theorem rowES (u : TypeId) (h : Tryd.prog.typeName? 3 u = some "*errors.errorString") : u = 149 :=
  typeName_ptr_named (nm := "errors.errorString") (by rw [starES]; kernel_rfl) (by kernel_rfl) (by decide) u (by rw [starES]; exact h)
def esLaid : String × DataW Unit := ("strconv.ErrSyntax", Rows.laid_strconv_ErrSyntax)
def erLaid : String × DataW Unit := ("strconv.ErrRange", Rows.laid_strconv_ErrRange)

/-- WHAT A ROW's LIST AND THE WORLD's SHAPE GIVE: what Parse reads. -/
theorem PEnv.laid {l : List (String × DataW Unit)} {W : World} (h : laidMet Tryd.prog l W) (hsh : W.ShapedOpen Tryd.prog)
    (hl : (l.filter fun x => x.1 == "internal/strconv.uint64pow10") = [("internal/strconv.uint64pow10", Lib.tabData .u64 Lib.pow10Tab)])
    (hs : (l.filter fun x => x.1 == "strconv.ErrSyntax") = [esLaid]) (hr : (l.filter fun x => x.1 == "strconv.ErrRange") = [erLaid]) : PEnv W := by
  have h1 := laidMet.filter (fun x => x.1 == "strconv.ErrSyntax") h
  have h2 := laidMet.filter (fun x => x.1 == "strconv.ErrRange") h
  rw [hs] at h1
  rw [hr] at h2
  obtain ⟨a0, s0, hv0, -, -, -⟩ := laid_sentinel h1 gES gEST Tryd.underlying78 rowES Tryd.underlying149 Tryd.underlying151 rfl rfl Tryd.underlying9 cellsES cellsStr
  obtain ⟨a1, s1, hv1, -, -, -⟩ := laid_sentinel h2 gER gERT Tryd.underlying78 rowES Tryd.underlying149 Tryd.underlying151 rfl rfl Tryd.underlying9 cellsES cellsStr
  exact ⟨Tab.laid h hl, cell_of_shapedOpen_int (P := Tryd.prog) (g := 2) (t := 3) (zero := #[.int .i64 0]) hsh (of_decide_eq_true (by kernel_rfl)) (by kernel_rfl) rfl (by kernel_rfl) (by kernel_rfl) Tryd.underlying3,
    ⟨_, by have h0 := World.var?_cell gES hv0 0; simpa using h0, .inr ⟨_, _, rfl⟩⟩, ⟨_, by have h0 := World.var?_cell gER hv1 0; simpa using h0, .inr ⟨_, _, rfl⟩⟩⟩

theorem witness_row_shaped {H : Type} {enc : TypeId × Value → H} {C : Checked} {os : Os} {f : FuncId} {fn : Func} {s : OpenSpec} {conds : List PathCond} {apart : Bool} {laid : List (String × DataW Unit)} (w0 : World) (args : Array Value) (hos : w0.os = os)
    (hsh : (w0.forCall (fun _ _ => 0) ⟨#[], args, []⟩).Shaped C.prog)
    (hok : Input.okWideB C.prog (w0.forCall (fun _ _ => 0) ⟨#[], args, []⟩) f ⟨#[], args, []⟩ = true)
    (hrow : s.preRow enc C.prog fn conds apart laid (w0.forCall (fun _ _ => 0) ⟨#[], args, []⟩).memory args) :
    ∃ (w : World) (tape : Tape) (i : Input), w.os = os ∧ (w.forCall tape i).Shaped C.prog ∧ i.vars = [] ∧ Input.okWide C.prog (w.forCall tape i) .any w.heap.size f i ∧
      s.preRow enc C.prog fn conds apart laid (w.forCall tape i).memory i.args ∧ ({} : Assume).holds C.prog (lone (Frame.enter C.prog f i.args .normal) [] (w.forCall tape i)) :=
  ⟨w0, fun _ _ => 0, ⟨#[], args, []⟩, hos, hsh, (Input.okWide_of_okWideB (base := 0) hok).1, (Input.okWide_of_okWideB hok).2, hrow, by
    simp only [Assume.holds]
    exact ⟨by simp, by simp, fun _ => Modest.zero, by simp, by simp⟩⟩
end Go.Proofs.YtekpfgcpbipdpaaDoor
