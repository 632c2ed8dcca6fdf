/-
  Layer 9: the chapter's examples, by the code (alive).
-/
import Derived.Test.YtnkpejinnbiocaaVAl1
import Derived.Test.YtnkpejinnbiocaaVSam
namespace Go.Proofs.Ytnkpejinnbiocaa
open Go.RowKit Go.Shelf
set_option linter.unusedVariables false
set_option linter.unusedSimpArgs false


theorem run_n (M : Nat) (NI : Int) (q3 : Int) (q4 : Bool) (hM : (M : Int) = NI) (h1 : 1 ≤ M ∧ M ≤ 1000) (hy : (adB 5 11 M 0 [(0, 0, 0, false)]).1 = [(0, 0, q3, q4)]) :
    Hid (∀ w, Calls Try.prog 55 #[.int .i64 NI] w fun e w' => (∃ a cap, e = .returned (.agg #[.int .i64 10, .int .i64 2, .int .i64 60, .int .i64 20, .int .i64 NI, .int .i64 1, .slice a 1 cap]) ∧ OwnK 43 4 sn1 w.heap.size w' (.slice a 1 cap) [(0, 0, q3, q4)]) ∧ Below w.heap.size w w') := fun w => by
  refine run_walk NI [(0, 0, q3, q4)] w (decide_eq_true (by omega)) rfl (fun a cap w hR => ?_)
  have h := adv_ok (s := 10) (p := 2) (g := 60) (l := 20) (c := 0) (nx := 1) M (cap := cap) (by decide : okT 10 2 60 20 0 1 [(0, 0, 0, false)]) h1 (by omega) w hR
  rw [hM, Int.zero_add, show fiB 10 2 60 = 5 from rfl, show laB 10 2 20 60 = 11 from rfl, hy] at h
  exact h.mono fun e w' ⟨⟨v, uf, h1, h2, h3⟩, h4⟩ => ⟨⟨v, uf, h1, h2⟩, h4⟩
theorem adv_n (M : Nat) (NI c cN nx : Int) (xs ys : List Sn) (fs : List Ft) (hM : (M : Int) = NI) (hc : c + NI = cN) (h1 : 1 ≤ M ∧ M ≤ 1000) (hcN : cN ≤ 1099511627776) (hT : okT 10 2 60 20 c nx xs) (hy : adB 5 11 M c xs = (ys, fs)) :
    Hid (∀ (a : Option Addr) (n cap : Nat) (w : World), RowK 4 sn1 w a n xs → Calls Try.prog 19 #[.agg #[.int .i64 10, .int .i64 2, .int .i64 60, .int .i64 20, .int .i64 c, .int .i64 nx, .slice a n cap], .int .i64 NI] w fun e w' => (∃ v uf, e = .returned (.tuple #[.agg #[.int .i64 10, .int .i64 2, .int .i64 60, .int .i64 20, .int .i64 cN, .int .i64 nx, v], uf, .int .i64 0]) ∧ OwnK 43 4 sn1 w.heap.size w' v ys ∧ OwnK 74 3 ft1 w.heap.size w' uf fs) ∧ Below w.heap.size w w') := fun a n cap w hR => by
  have h := adv_ok (cap := cap) M hT h1 (by omega) w hR
  rw [hM, hc, show fiB 10 2 60 = 5 from rfl, show laB 10 2 20 60 = 11 from rfl, hy] at h
  exact h
theorem open_n (c nx : Int) (xs : List Sn) (r : Bool) (hT : okT 10 2 60 20 c nx xs) (hr : opB 5 11 (c + 1) xs = r) :
    Hid (∀ (a : Option Addr) (n cap : Nat) (w : World), RowK 4 sn1 w a n xs → Calls Try.prog 17 #[.agg #[.int .i64 10, .int .i64 2, .int .i64 60, .int .i64 20, .int .i64 c, .int .i64 nx, .slice a n cap]] w fun e w' => e = .returned (.tuple #[.bool r, .int .i64 0]) ∧ Below w.heap.size w w') := fun a n cap w hR => by
  have h := open_ok (cap := cap) hT w hR
  rw [show fiB 10 2 60 = 5 from rfl, show laB 10 2 20 60 = 11 from rfl, hr] at h
  exact h
theorem ownRow1 {w : World} {B : Nat} {a : Option Addr} {cap : Nat} {x : Sn} (h : OwnK 43 4 sn1 B w (.slice a 1 cap) [x]) : RowK 4 sn1 w a 1 [x] := by
  obtain ⟨a', c, e, hr, -⟩ := h.row elem_sn
  have e : Value.slice a 1 cap = Value.slice a' 1 c := e
  cases e
  exact hr
theorem rdL_lit {w : World} {g g1 g2 : Nat} {c1 c2 : Nat} {y z : List Int} (k : Blk w g #[.slice (some ⟨g1, 0, none⟩) y.length c1, .slice (some ⟨g2, 0, none⟩) z.length c2] 56) (k1 : Blk w g1 (ints y) 3) (k2 : Blk w g2 (ints z) 3) : RdL w (some ⟨g, 0, none⟩) 2 [y, z] := by
  refine ⟨[(some ⟨g1, 0, none⟩, y.length, c1), (some ⟨g2, 0, none⟩, z.length, c2)], ⟨rfl, fun _ => ⟨g, 0, rfl, k.lt, fun j x hx i v hv => ?_⟩⟩, rfl, fun i h y' hi hy => ?_⟩
  · have hi : i = 0 := by
      rcases i with _ | i
      · rfl
      · simp [sl1] at hv
    subst hi
    rcases j with _ | _ | j
    · simp at hx; subst hx
      rw [k.cells]; simpa [sl1, slv] using hv
    · simp at hx; subst hx
      rw [k.cells]; simpa [sl1, slv] using hv
    · simp at hx
  · rcases i with _ | _ | i
    · simp at hi hy; subst hi; subst hy
      exact rowC k1
    · simp at hi hy; subst hi; subst hy
      exact rowC k2
    · simp at hi

theorem f_asg : asgB 10 2 [0, 10, 30] [100, 129] 3 2 [] 0 0 = [[0, 2], [1, 2]] := by decide
theorem f_w : wiF 10 2 60 20 60 = 5 ∧ wiL 10 2 60 20 60 = 11 ∧ wiE 10 2 60 20 60 = 0 := by decide
theorem f_c : clN 10 2 60 20 = 7 ∧ ckB 10 2 60 20 = 0 := by decide
theorem f_3 : (adB 5 11 3 0 [(0, 0, 0, false)]).1 = [(0, 0, 0, false)] := by decide
theorem f_4 : (adB 5 11 4 0 [(0, 0, 0, false)]).1 = [(0, 0, 0, false)] := by decide
theorem f_5 : (adB 5 11 5 0 [(0, 0, 0, false)]).1 = [(0, 0, 0, true)] := by decide
theorem f_o3 : okT 10 2 60 20 3 1 [(0, 0, 0, false)] ∧ opB 5 11 (3 + 1) [(0, 0, 0, false)] = false := by decide
theorem f_o4 : okT 10 2 60 20 4 1 [(0, 0, 0, false)] ∧ opB 5 11 (4 + 1) [(0, 0, 0, false)] = true := by decide
theorem f_a1 : adB 5 11 7 4 [(0, 0, 0, false)] = ([], [(0, 0, true)]) := by decide
theorem f_a2 : okT 10 2 60 20 4 1 [(0, 0, 1, false)] ∧ adB 5 11 7 4 [(0, 0, 1, false)] = ([], [(0, 1, false)]) := by decide
theorem f_t5 : okT 10 2 60 20 5 1 [(0, 0, 0, true)] := by decide
end Go.Proofs.Ytnkpejinnbiocaa
