/-
  Tracks and lists of structs among the arguments of a law.
-/
import Derived.Deep.Slices
import Derived.Test.YtnkpejinnbiocaaJFrame
import Derived.Test.YtnkpejinnbiocaaVRow
namespace Go.Proofs.Ytnkpejinnbiocaa
open Go.ChangeShapes Go.WideShapes Go.ChangeAt Go.RowKit
set_option linter.unusedVariables false
set_option linter.unusedSimpArgs false

section
variable {H : Type} {enc : TypeId × Value → H}
theorem spot_none {w : World} {a : Addr} {v : Value} (h : w.cell? (a.add 0) = some v) : ∃ b off, a = ⟨b, off, none⟩ := by
  obtain ⟨b, off, spot⟩ := a
  have hs : spot = none := by simpa [Addr.add] using World.cell?_spot h
  subst hs
  exact ⟨b, off, rfl⟩
/-- A list that came in, element by element. -/
theorem row_els {α : Type} [Inhabited α] {P : Program} {k : Nat} {en : α → List Value} {wf : α → Prop} {t l : TypeId} (hl : P.underlying l = some (.slice t)) (hC : P.cellsOf t = k) (hk : ∀ x, (en x).length = k) (hpos : 0 < k)
    {W : World} (hin : ∀ (fuel : Nat) (cs : List Value) (x : DataW H × List MemPlace), DataW.trod enc P W 0 (fun _ => true) true fuel t cs = some x → ∃ x : α, cs = en x ∧ wf x)
    {fuel : Nat} {v : Value} {y : DataW H × List MemPlace} (hv : ∃ a n c, v = .slice a n c) (h : DataW.trod enc P W 0 (fun _ => true) true fuel l [v] = some y) :
    ∃ (a : Option Addr) (n c : Nat) (xs : List α), v = .slice a n c ∧ n ≤ c ∧ c ≤ maxLen ∧ RowK k en W a n xs ∧ ∀ x ∈ xs, wf x := by
  obtain ⟨a0, n0, c0, rfl⟩ := hv
  rcases Deep.open_slice hl h with ⟨hcs, _⟩ | ⟨a, len, cap, m, n, D, Pl, hcs, _, hle, hmx, hm, _, hi⟩
  · have hcs' : Value.slice a0 n0 c0 = .slice none 0 0 := by simpa [Value.cells] using hcs
    cases hcs'
    exact ⟨none, 0, 0, [], rfl, Nat.le_refl _, Nat.zero_le _, RowK.nil _ _, fun x h => by cases h⟩
  · have hcs' : Value.slice a0 n0 c0 = .slice (some a) len cap := by simpa [Value.cells] using hcs
    cases hcs'
    have hm' : m = c0 := hm
    subst hm'
    rw [hC] at hi
    have each : ∀ i, i < n0 → ∃ x : α, wf x ∧ ∀ j v, (en x)[j]? = some v → W.cell? ((a.add (i * k)).add j) = some v := by
      intro i hil
      obtain ⟨cs', h1, h2⟩ := hi i (by omega)
      obtain ⟨_, _, h3⟩ := World.cells?_some h1
      obtain ⟨x, rfl, e3⟩ := hin _ _ _ h2
      refine ⟨x, e3, fun j v hj => ?_⟩
      have hjl := (List.getElem?_eq_some_iff.1 hj).1
      rw [hk] at hjl
      rw [h3 j hjl, hj]
    obtain ⟨f, hf'⟩ : ∃ f : Nat → α, ∀ i, i < n0 → wf (f i) ∧ ∀ j v, (en (f i))[j]? = some v → W.cell? ((a.add (i * k)).add j) = some v :=
      ⟨fun i => if h : i < n0 then (each i h).choose else default, fun i hil => by simp only [dif_pos hil]; exact (each i hil).choose_spec⟩
    refine ⟨some a, n0, m, (List.range n0).map f, rfl, hle, hmx, ⟨by simp, fun h0 => ?_⟩, ?_⟩
    · obtain ⟨-, q3⟩ := hf' 0 h0
      have h00 : (en (f 0))[0]? = some ((en (f 0))[0]'(by rw [hk]; exact hpos)) := List.getElem?_eq_getElem _
      have c0 := q3 0 _ h00
      rw [Go.Deep.add_add, Nat.zero_mul] at c0
      obtain ⟨b, off, rfl⟩ := spot_none c0
      refine ⟨b, off, rfl, ?_, fun j x hx i v hv => ?_⟩
      · by_cases hb : b < W.heap.size
        · exact hb
        · simp [World.cell?, Addr.add, Array.getElem?_eq_none (show W.heap.size ≤ b by omega)] at c0
      · have hj : j < n0 := by
          have := (List.getElem?_eq_some_iff.1 hx).1
          simpa using this
        have e : ((List.range n0).map f)[j]? = some (f j) := by rw [List.getElem?_map, List.getElem?_range hj]; rfl
        rw [e] at hx
        cases hx
        have := (hf' j hj).2 i v hv
        rw [add_plain, add_plain] at this
        exact this
    · intro x hx
      obtain ⟨i, hir, rfl⟩ := List.mem_map.1 hx
      exact (hf' i (List.mem_range.1 hir)).1
instance snInh : Inhabited Sn := ⟨(0, 0, 0, false)⟩
/-- The numbers of a part that came in. -/
def wfS (x : Sn) : Prop := ((-9223372036854775808 ≤ x.1 ∧ x.1 ≤ 9223372036854775807) ∧ (-9223372036854775808 ≤ x.2.1 ∧ x.2.1 ≤ 9223372036854775807)) ∧ 0 ≤ x.2.2.1 ∧ x.2.2.1 ≤ 255
set_option maxRecDepth 100000 in
theorem seen_in {W : World} {base : Nat} {sp : Nat → Bool} {held : Bool} {fuel : Nat} {cs : List Value} {x : DataW H × List MemPlace} (h : DataW.trod enc Try.prog W base sp held fuel 43 cs = some x) :
    ∃ x : Sn, cs = sn1 x ∧ wfS x := by
  obtain ⟨y0, y1, y2, y3, n, rfl, hl, h0, h1, h2, h3⟩ := Joins.trod_struct4 Try.underlying43 h
  have e4 : Try.prog.cellsOf 43 = 4 := by kernel_rfl
  have e1 : Try.prog.cellsOf 3 = 1 := by kernel_rfl
  have e2 : Try.prog.cellsOf 5 = 1 := by kernel_rfl
  have e3 : Try.prog.cellsOf 4 = 1 := by kernel_rfl
  rw [e4] at hl
  match cs, hl with
  | [c0, c1, c2, c3], _ =>
    have h0' : DataW.trod enc Try.prog W base sp held n 3 [c0] = some y0 := by simpa [e1] using h0
    have h1' : DataW.trod enc Try.prog W base sp held n 3 [c1] = some y1 := by simpa [e1] using h1
    have h2' : DataW.trod enc Try.prog W base sp held n 5 [c2] = some y2 := by simpa [e2] using h2
    have h3' : DataW.trod enc Try.prog W base sp held n 4 [c3] = some y3 := by simpa [e3] using h3
    obtain ⟨a, ha, -, wa⟩ := DataW.trod_int Try.underlying3 h0'
    obtain ⟨b, hb, -, wb⟩ := DataW.trod_int Try.underlying3 h1'
    obtain ⟨c, hc, -, wc⟩ := DataW.trod_int Try.underlying5 h2'
    obtain ⟨d, hd, -⟩ := DataW.trod_bool Try.underlying4 h3'
    obtain rfl : c0 = .int .i64 a := by simpa using ha
    obtain rfl : c1 = .int .i64 b := by simpa using hb
    obtain rfl : c2 = .int .u8 c := by simpa using hc
    obtain rfl : c3 = .bool d := by simpa using hd
    exact ⟨(a, b, c, d), rfl, ⟨bounds_i64 wa, bounds_i64 wb⟩, bounds_u8 wc⟩
set_option maxRecDepth 100000 in
theorem belt_in {W : World} {base : Nat} {sp : Nat → Bool} {held : Bool} {fuel : Nat} {cs : List Value} {x : DataW H × List MemPlace} (h : DataW.trod enc Try.prog W base sp held fuel 23 cs = some x) :
    ∃ a b c d : Int, cs = [.int .i64 a, .int .i64 b, .int .i64 c, .int .i64 d] ∧ (Lit.int .i64 a).wf = true ∧ (Lit.int .i64 b).wf = true ∧ (Lit.int .i64 c).wf = true ∧ (Lit.int .i64 d).wf = true := by
  obtain ⟨y0, y1, y2, y3, n, rfl, hl, h0, h1, h2, h3⟩ := Joins.trod_struct4 Try.underlying23 h
  have e4 : Try.prog.cellsOf 23 = 4 := by kernel_rfl
  have e1 : Try.prog.cellsOf 3 = 1 := by kernel_rfl
  rw [e4] at hl
  match cs, hl with
  | [c0, c1, c2, c3], _ =>
    have h0' : DataW.trod enc Try.prog W base sp held n 3 [c0] = some y0 := by simpa [e1] using h0
    have h1' : DataW.trod enc Try.prog W base sp held n 3 [c1] = some y1 := by simpa [e1] using h1
    have h2' : DataW.trod enc Try.prog W base sp held n 3 [c2] = some y2 := by simpa [e1] using h2
    have h3' : DataW.trod enc Try.prog W base sp held n 3 [c3] = some y3 := by simpa [e1] using h3
    obtain ⟨a, ha, -, wa⟩ := DataW.trod_int Try.underlying3 h0'
    obtain ⟨b, hb, -, wb⟩ := DataW.trod_int Try.underlying3 h1'
    obtain ⟨c, hc, -, wc⟩ := DataW.trod_int Try.underlying3 h2'
    obtain ⟨d, hd, -, wd⟩ := DataW.trod_int Try.underlying3 h3'
    obtain rfl : c0 = .int .i64 a := by simpa using ha
    obtain rfl : c1 = .int .i64 b := by simpa using hb
    obtain rfl : c2 = .int .i64 c := by simpa using hc
    obtain rfl : c3 = .int .i64 d := by simpa using hd
    exact ⟨a, b, c, d, rfl, wa, wb, wc, wd⟩
theorem slice_of_cells {a b : TypeId} {W : World} {fuel : Nat} {v : Value} {x : DataW H × List MemPlace} (hl : Try.prog.underlying a = some (.slice b)) (h : DataW.trod enc Try.prog W 0 (fun _ => true) true fuel a [v] = some x) : ∃ a n c, v = .slice a n c := by
  rcases Deep.open_slice hl h with ⟨hcs, _⟩ | ⟨a, len, cap, m, n, D, Pl, hcs, _⟩
  · exact ⟨none, 0, 0, by simpa using hcs⟩
  · exact ⟨some a, len, cap, by simpa using hcs⟩
set_option maxRecDepth 100000 in
/-- A track that came in. -/
theorem open_track {W : World} {b0 : Nat} {r : Reach} {v : Value} {d : DataW H} {p : List MemPlace} (hval : Value.okWide Try.prog W r b0 26 v) (h : DataW.Trod enc Try.prog W 0 (fun _ => true) true 26 v d p) :
    ∃ (s q g l c nx : Int) (a : Option Addr) (n cap : Nat) (xs : List Sn), v = .agg #[.int .i64 s, .int .i64 q, .int .i64 g, .int .i64 l, .int .i64 c, .int .i64 nx, .slice a n cap] ∧ (((Lit.int .i64 s).wf = true ∧ (Lit.int .i64 q).wf = true) ∧ (Lit.int .i64 g).wf = true ∧ (Lit.int .i64 l).wf = true) ∧ (Lit.int .i64 c).wf = true ∧ (Lit.int .i64 nx).wf = true ∧ n ≤ cap ∧ cap ≤ maxLen ∧ RowK 4 sn1 W a n xs ∧ ∀ x ∈ xs, wfS x := by
  obtain ⟨cs, rfl, hsz⟩ := okWide_struct Try.underlying26 hval
  obtain ⟨fuel, hf⟩ := h
  obtain ⟨y0, y1, y2, y3, n, hx0, hl, h0, h1, h2, h3⟩ := Joins.trod_struct4 Try.underlying26 hf
  have e7 : Try.prog.cellsOf 26 = 7 := by kernel_rfl
  have e4 : Try.prog.cellsOf 23 = 4 := by kernel_rfl
  have e1 : Try.prog.cellsOf 3 = 1 := by kernel_rfl
  have e2 : Try.prog.cellsOf 24 = 1 := by kernel_rfl
  rw [e7] at hl
  obtain ⟨v0, v1, v2, v3, v4, v5, v6, hcs⟩ : ∃ v0 v1 v2 v3 v4 v5 v6, cs.toList = [v0, v1, v2, v3, v4, v5, v6] := by
    match cs.toList, (show cs.toList.length = 7 from hl) with
    | [v0, v1, v2, v3, v4, v5, v6], _ => exact ⟨v0, v1, v2, v3, v4, v5, v6, rfl⟩
  replace h0 : DataW.trod enc Try.prog W 0 (fun _ => true) true n 23 ((cs.toList.drop 0).take (Try.prog.cellsOf 23)) = some y0 := h0
  replace h1 : DataW.trod enc Try.prog W 0 (fun _ => true) true n 3 ((cs.toList.drop 4).take (Try.prog.cellsOf 3)) = some y1 := h1
  replace h2 : DataW.trod enc Try.prog W 0 (fun _ => true) true n 3 ((cs.toList.drop 5).take (Try.prog.cellsOf 3)) = some y2 := h2
  replace h3 : DataW.trod enc Try.prog W 0 (fun _ => true) true n 24 ((cs.toList.drop 6).take (Try.prog.cellsOf 24)) = some y3 := h3
  rw [hcs] at h0 h1 h2 h3
  simp only [e1, e2, e4, List.drop_zero, List.drop_succ_cons, List.take_succ_cons, List.take_zero] at h0 h1 h2 h3
  obtain ⟨a0, a1, a2, a3, hb, w0, w1, w2, w3⟩ := belt_in h0
  obtain ⟨a4, ha4, -, w4⟩ := DataW.trod_int Try.underlying3 h1
  obtain ⟨a5, ha5, -, w5⟩ := DataW.trod_int Try.underlying3 h2
  obtain ⟨a, m, c, xs, rfl, q1, q2, q3, q4⟩ := row_els (k := 4) (en := sn1) (wf := wfS) Try.underlying24 (by kernel_rfl) (fun _ => rfl) (by decide) (fun _ _ _ h => seen_in h) (slice_of_cells Try.underlying24 h3) h3
  simp only [List.cons.injEq, and_true] at hb ha4 ha5
  obtain ⟨rfl, rfl, rfl, rfl⟩ := hb
  subst ha4 ha5
  refine ⟨a0, a1, a2, a3, a4, a5, a, m, c, xs, ?_, ⟨⟨w0, w1⟩, w2, w3⟩, w4, w5, q1, q2, q3, q4⟩
  cases cs; simp_all
end
end Go.Proofs.Ytnkpejinnbiocaa
