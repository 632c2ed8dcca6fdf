/-
  Layer 9: the calls over valid tracks.
-/
import Derived.Test.YtnkpejinnbiocaaVMtc
namespace Go.Proofs.Ytnkpejinnbiocaa
open Go.RowKit Go.Shelf
set_option linter.unusedVariables false
set_option linter.unusedSimpArgs false


theorem okPs_at {f z nx c i a : Int} {xs : List Sn} (h : okPs f z nx c i a xs) (ha : -1 ≤ a) : ∀ x ∈ xs, 0 ≤ x.2.1 ∧ x.2.1 ≤ c := by
  induction xs generalizing i a with
  | nil => intro x hx; cases hx
  | cons y ys ih =>
    intro x hx
    obtain ⟨⟨h1, h2, h3⟩, h4⟩ := h
    rcases List.mem_cons.1 hx with rfl | hx
    · omega
    · exact ih h4 (by omega) x hx
theorem okT_at {s p g l c nx : Int} {xs : List Sn} (h : okT s p g l c nx xs) : ∀ x ∈ xs, 0 ≤ x.2.1 ∧ x.2.1 ≤ 1099511627776 := fun x hx => by
  have q := okPs_at h.2.2.2.2 (by omega) x hx
  have := h.2.1.2
  omega
theorem ckT_yes {s p g l c nx : Int} {xs : List Sn} (h : okT s p g l c nx xs) : ckT s p g l c nx xs = 0 := (if_pos h.1).trans (if_pos h)
theorem okT_ck {s p g l c nx : Int} {xs : List Sn} (h : ckT s p g l c nx xs = 0) : okT s p g l c nx xs := by
  unfold ckT at h
  by_cases h1 : okB s p g l
  · rw [if_pos h1] at h
    by_cases h2 : okT s p g l c nx xs
    · exact h2
    · rw [if_neg h2] at h; omega
  · rw [if_neg h1] at h; omega
theorem HWo {s p g l : Int} (h : okB s p g l) : Hid (∀ w, Calls Try.prog 34 #[.agg #[.int .i64 s, .int .i64 p, .int .i64 g, .int .i64 l], .int .i64 g] w fun e w' => e = .returned (.agg #[.int .i64 (fiB s p g), .int .i64 (laB s p l g)]) ∧ Below w.heap.size w w') := windowOf_any s p g l g h h.2.2.1.1 h.2.2.1.2
/-- Advance, from a valid track. -/
theorem adv_ok {s p g l c nx : Int} (M : Nat) {a : Option Addr} {n cap : Nat} {xs : List Sn} (h : okT s p g l c nx xs) (hM : 1 ≤ M ∧ M ≤ 1000) (hf : c + (M : Int) ≤ 1099511627776) (w : World) (hR : RowK 4 sn1 w a n xs) :
    Calls Try.prog 19 #[.agg #[.int .i64 s, .int .i64 p, .int .i64 g, .int .i64 l, .int .i64 c, .int .i64 nx, .slice a n cap], .int .i64 (M : Int)] w fun e w' => (∃ v uf, e = .returned (.tuple #[.agg #[.int .i64 s, .int .i64 p, .int .i64 g, .int .i64 l, .int .i64 (c + (M : Int)), .int .i64 nx, v], uf, .int .i64 0]) ∧ OwnK 43 4 sn1 w.heap.size w' v (adB (fiB s p g) (laB s p l g) M c xs).1 ∧ OwnK 74 3 ft1 w.heap.size w' uf (adB (fiB s p g) (laB s p l g) M c xs).2) ∧ Below w.heap.size w w' := by
  have hn : n ≤ 32 := by rw [← hR.1]; exact h.2.2.2.1
  exact adv_yes s p g l c nx _ _ M a n cap xs (fiB_la h.1).1 (fiB_la h.1).2 (okT_at h) hn h.2.1 hM hf w hR (HCt s p g l c nx a n cap xs (by unfold maxLen; omega) 0 (ckT_yes h)) (HWo h.1)
theorem open_ok {s p g l c nx : Int} {a : Option Addr} {n cap : Nat} {xs : List Sn} (h : okT s p g l c nx xs) (w : World) (hR : RowK 4 sn1 w a n xs) :
    Calls Try.prog 17 #[.agg #[.int .i64 s, .int .i64 p, .int .i64 g, .int .i64 l, .int .i64 c, .int .i64 nx, .slice a n cap]] w fun e w' => e = .returned (.tuple #[.bool (opB (fiB s p g) (laB s p l g) (c + 1) xs), .int .i64 0]) ∧ Below w.heap.size w w' := by
  have hn : n ≤ 32 := by rw [← hR.1]; exact h.2.2.2.1
  exact open_yes s p g l c nx _ _ a n cap xs (fiB_la h.1).1 (fiB_la h.1).2 (okT_at h) (by unfold maxLen; omega) h.2.1 w hR (HCt s p g l c nx a n cap xs (by unfold maxLen; omega) 0 (ckT_yes h)) (HWo h.1)
/-- Sense, from a valid track with room. -/
theorem sense_ok {s p g l c nx : Int} {a : Option Addr} {n cap : Nat} {xs : List Sn} (h : okT s p g l c nx xs) (hn : n < 32) (hnx : nx < 1099511627776) (hl : ∀ x, xs[n - 1]? = some x → x.2.1 ≠ c) (hcap : n ≤ cap) (w : World) (hR : RowK 4 sn1 w a n xs) :
    Calls Try.prog 10 #[.agg #[.int .i64 s, .int .i64 p, .int .i64 g, .int .i64 l, .int .i64 c, .int .i64 nx, .slice a n cap]] w fun e w' => (∃ v, e = .returned (.tuple #[.agg #[.int .i64 s, .int .i64 p, .int .i64 g, .int .i64 l, .int .i64 c, .int .i64 (nx + 1), v], .int .i64 nx, .int .i64 0]) ∧ OwnK 43 4 sn1 w.heap.size w' v (xs ++ [(nx, c, 0, false)])) ∧ Below w.heap.size w w' := by
  have hf : (nx == 1099511627776) = false := by simp; omega
  have HC := HCt s p g l c nx a n cap xs (by unfold maxLen; omega) 0 (ckT_yes h)
  rcases Nat.eq_zero_or_pos n with h0 | h0
  · exact sense_yes_z s p g l c nx a n cap xs h0 hf ⟨h.2.2.1.1, hnx⟩ hcap w hR HC
  · exact sense_yes_a s p g l c nx a n cap xs ⟨h0, hn⟩ hl hf ⟨h.2.2.1.1, hnx⟩ hcap w hR HC
theorem tell_ok {s p g l c nx : Int} {a : Option Addr} {n cap : Nat} {xs : List Sn} (h : okT s p g l c nx xs) (id vd : Int) (hv : 1 ≤ vd ∧ vd ≤ 3) (k : Nat) (q1 q2 q3 : Int) (q4 : Bool) (hx : xs[k]? = some (q1, q2, q3, q4)) (hid : fxB (fun x => x.1 == id) xs = k) (hl : (q3 != 0) = false) (hl2 : c < q2 + fiB s p g) (w : World) (hR : RowK 4 sn1 w a n xs) :
    Calls Try.prog 12 #[.agg #[.int .i64 s, .int .i64 p, .int .i64 g, .int .i64 l, .int .i64 c, .int .i64 nx, .slice a n cap], .int .i64 id, .int .u8 vd] w fun e w' => (∃ v, e = .returned (.tuple #[.agg #[.int .i64 s, .int .i64 p, .int .i64 g, .int .i64 l, .int .i64 c, .int .i64 nx, v], .int .i64 0]) ∧ OwnK 43 4 sn1 w.heap.size w' v (xs.set k (q1, q2, vd, q4))) ∧ Below w.heap.size w w' := by
  have hn : n ≤ 32 := by rw [← hR.1]; exact h.2.2.2.1
  have hk : k < n := by rw [← hR.1]; exact (List.getElem?_eq_some_iff.1 hx).1
  exact tell_yes s p g l c nx a n cap id vd xs hv k q1 q2 q3 _ _ q4 hk hx (fiB_la h.1).1 (fiB_la h.1).2 (okT_at h _ (List.mem_of_getElem? hx)) hl hl2 hn w hR (HCt s p g l c nx a n cap xs (by unfold maxLen; omega) 0 (ckT_yes h)) (tellIx a n cap xs id k (by unfold maxLen; omega) hid) (HWo h.1)
theorem tell_no {s p g l c nx : Int} {a : Option Addr} {n cap : Nat} {xs : List Sn} (h : okT s p g l c nx xs) (id vd : Int) (hv : 1 ≤ vd ∧ vd ≤ 3) (k : Nat) (q1 q2 q3 : Int) (q4 : Bool) (hx : xs[k]? = some (q1, q2, q3, q4)) (hid : fxB (fun x => x.1 == id) xs = k) (hl : (q3 != 0) = true ∨ (q3 != 0) = false ∧ q2 + fiB s p g ≤ c) (w : World) (hR : RowK 4 sn1 w a n xs) :
    Calls Try.prog 12 #[.agg #[.int .i64 s, .int .i64 p, .int .i64 g, .int .i64 l, .int .i64 c, .int .i64 nx, .slice a n cap], .int .i64 id, .int .u8 vd] w fun e w' => e = .returned (.tuple #[.agg #[.int .i64 0, .int .i64 0, .int .i64 0, .int .i64 0, .int .i64 0, .int .i64 0, .slice none 0 0], .int .i64 91]) ∧ Below w.heap.size w w' := by
  have hn : n ≤ 32 := by rw [← hR.1]; exact h.2.2.2.1
  have hk : k < n := by rw [← hR.1]; exact (List.getElem?_eq_some_iff.1 hx).1
  exact tell_late s p g l c nx a n cap id vd xs hv k q1 q2 q3 _ _ q4 hk hx (fiB_la h.1).1 (fiB_la h.1).2 (okT_at h _ (List.mem_of_getElem? hx)) hl w hR (HCt s p g l c nx a n cap xs (by unfold maxLen; omega) 0 (ckT_yes h)) (tellIx a n cap xs id k (by unfold maxLen; omega) hid) (HWo h.1)
/-- Match, of counts that increase. -/
theorem match_ok {s p g l : Int} {a1 a2 : Option Addr} {n m c1 c2 : Nat} {zs us : List Int} (h : okB s p g l) (hn : n ≤ 10) (hm : m ≤ 10) (hz : cntF (-1) zs) (hu : cntF (-1) us) (w : World) (hR1 : Row w a1 n (iv zs)) (hR2 : Row w a2 m (iv us)) :
    Calls Try.prog 22 #[.agg #[.int .i64 s, .int .i64 p, .int .i64 g, .int .i64 l], .slice a1 n c1, .slice a2 m c2] w fun e w' => (∃ av cv, (asgB s p zs us n m [] 0 0 = [] ∧ e = .returned (.tuple #[.slice none 0 0, .int .i64 6]) ∨ 0 < (asgB s p zs us n m [] 0 0).length ∧ e = .returned (.tuple #[.slice av (asgB s p zs us n m [] 0 0).length cv, .int .i64 0])) ∧ AllR w.heap.size w' (.slice av (asgB s p zs us n m [] 0 0).length cv) (asgB s p zs us n m [] 0 0)) ∧ Below w.heap.size w w' :=
  match_walk s p g l a1 a2 n m c1 c2 zs us _ 0 0 (Int.lt_or_le _ _) w hn hm hR1 hR2 h.1 h.2.1 (cntF_all hz) (cntF_all hu) rfl (HCk s p g l 0 (if_pos h))
    (fun w hR => by have := areCounts_any a1 n c1 zs (by unfold maxLen; omega) w hR; rwa [decide_eq_true hz] at this)
    (fun w hR => by have := areCounts_any a2 m c2 us (by unfold maxLen; omega) w hR; rwa [decide_eq_true hu] at this)
end Go.Proofs.Ytnkpejinnbiocaa
