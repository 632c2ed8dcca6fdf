/-
  A list of structs of whole numbers among the arguments of a law.
-/
import Derived.Deep.Slices
import Derived.Test.YtbdcmdofmokoeaaQKLawAdd3
namespace Go.Proofs.Ytbdcmdofmokoeaa
open Go.ChangeShapes Go.WideShapes Go.ChangeAt Go.RowKit
set_option linter.unusedVariables false
set_option linter.unusedSimpArgs false

section
variable {H : Type} {enc : TypeId × Value → H}
theorem rec_in {P : Program} {ti : TypeId} (hti : P.underlying ti = some (.int .i64)) {fs : Array Field} {t : TypeId} (hs : P.underlying t = some (.struct fs)) (hone : Deep.oneCellFields P fs = true) (hC : P.cellsOf t = fs.size) (hty : (fs.all fun f => f.type == ti) = true)
    {W : World} {base : Nat} {sp : Nat → Bool} {held : Bool} {fuel : Nat} {cs : List Value} {x : DataW H × List MemPlace} (h : DataW.trod enc P W base sp held fuel t cs = some x) :
    ∃ zs : List Int, zs.length = fs.size ∧ cs = zs.map (Value.int .i64) ∧ ∀ z ∈ zs, (Lit.int .i64 z).wf = true := by
  obtain ⟨xs, n, _, hx, hcl, hlen, hg⟩ := DataW.trod_struct hs h
  rw [hC] at hcl
  have each : ∀ j, j < cs.length → ∃ z, cs[j]? = some (.int .i64 z) ∧ (Lit.int .i64 z).wf = true := by
    intro j hj
    have hjf : j < fs.size := by omega
    have hfj : fs[j]? = some fs[j] := Array.getElem?_eq_getElem hjf
    obtain ⟨ho, hk⟩ := Deep.hone_of hone j fs[j] hfj
    have h1 := hg j fs[j] hfj
    have ht : fs[j].type = ti := by simpa using (Array.all_eq_true.1 hty) j hjf
    rw [ho, hk, ht] at h1
    have e : (cs.drop j).take 1 = [cs[j]] := by
      rw [List.drop_eq_getElem_cons hj]; rfl
    rw [e, List.getElem?_eq_getElem (show j < xs.length by omega)] at h1
    obtain ⟨z, hz, -, wz⟩ := DataW.trod_int hti h1
    simp only [List.cons.injEq, and_true] at hz
    exact ⟨z, by rw [List.getElem?_eq_getElem hj, hz], wz⟩
  refine ⟨cs.map numV, by simp; omega, ?_, ?_⟩
  · apply List.ext_getElem?
    intro j
    simp only [List.getElem?_map]
    by_cases hj : j < cs.length
    · obtain ⟨z, hz, -⟩ := each j hj
      rw [hz]; rfl
    · rw [List.getElem?_eq_none (by omega)]; rfl
  · intro z hz
    obtain ⟨u, hu, rfl⟩ := List.mem_map.1 hz
    obtain ⟨j, hj, rfl⟩ := List.mem_iff_getElem.1 hu
    obtain ⟨z, hz', wz⟩ := each j hj
    have : cs[j] = .int .i64 z := by
      rw [List.getElem?_eq_getElem hj] at hz'; exact Option.some.inj hz'
    rw [this]; exact wz
theorem spot_none {w : World} {a : Addr} {v : Value} (h : w.cell? (a.add 0) = some v) : ∃ b off, a = ⟨b, off, none⟩ := by
  obtain ⟨b, off, spot⟩ := a
  have hs : spot = none := by simpa [Addr.add] using World.cell?_spot h
  subst hs
  exact ⟨b, off, rfl⟩
set_option maxRecDepth 100000 in
/-- A list of structs of whole numbers that came in. -/
theorem open_recs {P : Program} {ti : TypeId} (hti : P.underlying ti = some (.int .i64)) {fs : Array Field} {t l : TypeId} (hl : P.underlying l = some (.slice t)) (hs : P.underlying t = some (.struct fs)) (hone : Deep.oneCellFields P fs = true) (hC : P.cellsOf t = fs.size) (hty : (fs.all fun f => f.type == ti) = true) (hpos : 0 < fs.size)
    {W : World} {b0 : Nat} {r : Reach} {v : Value} {d : DataW H} {p : List MemPlace} (hval : Value.okWide P W r b0 l v) (h : DataW.Trod enc P W 0 (fun _ => true) true l v d p) :
    ∃ (a : Option Addr) (n c : Nat) (zss : List (List Int)), v = .slice a n c ∧ n ≤ c ∧ c ≤ maxLen ∧ zss.length = n ∧ (∀ zs ∈ zss, zs.length = fs.size ∧ ∀ z ∈ zs, (Lit.int .i64 z).wf = true) ∧
      (0 < n → ∃ b off, a = some ⟨b, off, none⟩ ∧ b < W.heap.size ∧ ∀ j, j < n → ∀ i, i < fs.size → W.cell? ⟨b, off + j * fs.size + i, none⟩ = ((zss[j]?.getD []).map (Value.int .i64))[i]?) := by
  obtain ⟨a0, n0, c0, rfl⟩ := okWide_slice hl hval
  obtain ⟨fuel, hf⟩ := h
  rcases Deep.open_slice hl hf with ⟨hcs, _⟩ | ⟨a, len, cap, m, n, D, Pl, hcs, _, hle, hmx, hm, _, hi⟩
  · have hcs' : Value.slice a0 n0 c0 = .slice none 0 0 := by simpa [Value.cells] using hcs
    cases hcs'
    exact ⟨none, 0, 0, [], rfl, Nat.le_refl _, Nat.zero_le _, rfl, (fun zs h => by cases h), (fun h => absurd h (Nat.lt_irrefl 0))⟩
  · have hcs' : Value.slice a0 n0 c0 = .slice (some a) len cap := by simpa [Value.cells] using hcs
    cases hcs'
    have hm' : m = c0 := hm
    subst hm'
    rw [hC] at hi
    have each : ∀ i, i < n0 → ∃ zs : List Int, (zs.length = fs.size ∧ ∀ z ∈ zs, (Lit.int .i64 z).wf = true) ∧ ∀ j, j < fs.size → W.cell? ((a.add (i * fs.size)).add j) = (zs.map (Value.int .i64))[j]? := by
      intro i hil
      obtain ⟨cs', h1, h2⟩ := hi i (by omega)
      obtain ⟨_, _, h3⟩ := World.cells?_some h1
      obtain ⟨zs, e1, rfl, e3⟩ := rec_in hti hs hone hC hty h2
      exact ⟨zs, ⟨e1, e3⟩, h3⟩
    obtain ⟨f, hf'⟩ : ∃ f : Nat → List Int, ∀ i, i < n0 → ((f i).length = fs.size ∧ ∀ z ∈ f i, (Lit.int .i64 z).wf = true) ∧ ∀ j, j < fs.size → W.cell? ((a.add (i * fs.size)).add j) = ((f i).map (Value.int .i64))[j]? :=
      ⟨fun i => if h : i < n0 then (each i h).choose else [], fun i hil => by simp only [dif_pos hil]; exact (each i hil).choose_spec⟩
    refine ⟨some a, n0, m, (List.range n0).map f, rfl, hle, hmx, by simp, ?_, ?_⟩
    · intro zs hz
      obtain ⟨i, hir, rfl⟩ := List.mem_map.1 hz
      exact (hf' i (List.mem_range.1 hir)).1
    · intro h0
      obtain ⟨⟨q1, q2⟩, q3⟩ := hf' 0 h0
      have c0 := q3 0 hpos
      rw [List.getElem?_map, List.getElem?_eq_getElem (by omega)] at c0
      rw [Go.Deep.add_add, Nat.zero_mul] at c0
      obtain ⟨b, off, rfl⟩ := spot_none c0
      refine ⟨b, off, rfl, ?_, fun j hj i hi' => ?_⟩
      · by_cases hb : b < W.heap.size
        · exact hb
        · simp [World.cell?, Addr.add, Array.getElem?_eq_none (show W.heap.size ≤ b by omega)] at c0
      · have := (hf' j hj).2 i hi'
        rw [add_plain, add_plain] at this
        have e : ((List.range n0).map f)[j]? = some (f j) := by rw [List.getElem?_map, List.getElem?_range hj]; rfl
        rw [this, e]
        rfl
set_option maxRecDepth 100000 in
/-- A table that came in. -/
theorem open_knots {W : World} {b0 : Nat} {r : Reach} {v : Value} {d : DataW H} {p : List MemPlace} (hval : Value.okWide Try.prog W r b0 27 v) (h : DataW.Trod enc Try.prog W 0 (fun _ => true) true 27 v d p) :
    ∃ (a : Option Addr) (n c : Nat) (ks : List (Int × Int)), v = .slice a n c ∧ n ≤ c ∧ c ≤ maxLen ∧ KRow W a n ks := by
  obtain ⟨a, n, c, zss, rfl, h1, h2, h3, h4, h5⟩ := open_recs Try.underlying3 Try.underlying27 Try.underlying98 (by kernel_rfl) (by kernel_rfl) (by kernel_rfl) (by decide) hval h
  refine ⟨a, n, c, zss.map fun zs => (zs[0]?.getD 0, zs[1]?.getD 0), rfl, h1, h2, by simpa using h3, fun hn => ?_⟩
  obtain ⟨b, off, rfl, hb, hc⟩ := h5 hn
  refine ⟨b, off, rfl, hb, fun j hj => ?_⟩
  have hz : zss[j]? = some zss[j] := List.getElem?_eq_getElem (by omega)
  have h6 : zss[j].length = 2 := (h4 _ (List.getElem_mem _)).1
  have c0 := hc j hj 0 (by decide)
  have c1 := hc j hj 1 (by decide)
  rw [hz] at c0 c1
  simp only [Option.getD_some, List.getElem?_map] at c0 c1
  rw [List.getElem?_eq_getElem (by omega)] at c0 c1
  have e2 : off + j * 2 = off + j * 2 + 0 := rfl
  refine ⟨?_, ?_⟩
  · refine (show W.cell? ⟨b, off + j * 2, none⟩ = W.cell? ⟨b, off + j * 2 + 0, none⟩ from rfl).trans (c0.trans ?_)
    simp [hz, List.getElem?_eq_getElem (show 0 < zss[j].length by omega)]
  · refine c1.trans ?_
    simp [hz, List.getElem?_eq_getElem (show 1 < zss[j].length by omega)]
end
end Go.Proofs.Ytbdcmdofmokoeaa
