/-
  Views that came in.
-/
import Derived.Test.YtbdcmdofmokoeaaQJOpenK
import Derived.Test.YtbdcmdofmokoeaaQKLawAdd3
namespace Go.Proofs.Ytbdcmdofmokoeaa
open Go.ChangeShapes Go.WideShapes Go.ChangeAt Go.RowKit
set_option linter.unusedVariables false
set_option linter.unusedSimpArgs false
section
variable {H : Type} {enc : TypeId × Value → H}
set_option maxRecDepth 100000 in
theorem open_views {W : World} {b0 : Nat} {r : Reach} {v : Value} {d : DataW H} {p : List MemPlace} (hval : Value.okWide Try.prog W r b0 38 v) (h : DataW.Trod enc Try.prog W 0 (fun _ => true) true 38 v d p) :
    ∃ (a : Option Addr) (n c : Nat) (vs : List Vw), v = .slice a n c ∧ n ≤ c ∧ c ≤ maxLen ∧ VRow W a n vs := by
  obtain ⟨a, n, c, zss, rfl, h1, h2, h3, h4, h5⟩ := open_recs Try.underlying3 Try.underlying38 Try.underlying45 (by kernel_rfl) (by kernel_rfl) (by kernel_rfl) (by decide) hval h
  refine ⟨a, n, c, zss.map fun zs => (zs[0]?.getD 0, zs[1]?.getD 0, zs[2]?.getD 0, zs[3]?.getD 0), rfl, h1, h2, by simpa using h3, fun hn => ?_⟩
  obtain ⟨b, off, rfl, hb, hc⟩ := h5 hn
  refine ⟨b, off, rfl, hb, fun j v hv => ?_⟩
  have hj : j < n := by have := (List.getElem?_eq_some_iff.1 hv).1; simp at this; omega
  have hz : zss[j]? = some zss[j] := List.getElem?_eq_getElem (by omega)
  have h6 : zss[j].length = 4 := (h4 _ (List.getElem_mem _)).1
  rw [List.getElem?_map, hz] at hv
  have hv' : ((zss[j])[0]?.getD 0, (zss[j])[1]?.getD 0, (zss[j])[2]?.getD 0, (zss[j])[3]?.getD 0) = v := by simpa using hv
  subst hv'
  have c0 := hc j hj 0 (by decide)
  have c1 := hc j hj 1 (by decide)
  have c2 := hc j hj 2 (by decide)
  have c3 := hc j hj 3 (by decide)
  rw [hz] at c0 c1 c2 c3
  simp only [Option.getD_some, List.getElem?_map] at c0 c1 c2 c3
  rw [List.getElem?_eq_getElem (by omega)] at c0 c1 c2 c3
  refine ⟨?_, ?_, ?_, ?_⟩
  · refine (show W.cell? ⟨b, off + j * 4, none⟩ = W.cell? ⟨b, off + j * 4 + 0, none⟩ from rfl).trans (c0.trans ?_)
    simp [List.getElem?_eq_getElem (show 0 < zss[j].length by omega)]
  · refine c1.trans ?_
    simp [List.getElem?_eq_getElem (show 1 < zss[j].length by omega)]
  · refine c2.trans ?_
    simp [List.getElem?_eq_getElem (show 2 < zss[j].length by omega)]
  · refine c3.trans ?_
    simp [List.getElem?_eq_getElem (show 3 < zss[j].length by omega)]
end
end Go.Proofs.Ytbdcmdofmokoeaa
