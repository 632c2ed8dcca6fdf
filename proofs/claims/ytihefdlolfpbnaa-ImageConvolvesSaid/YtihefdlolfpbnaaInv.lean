/-
  A region that draws its order, by what holds whichever operations have come up: one step an operation, whatever the orders.
-/
import Derived.Orders
import Derived.Lib.Hide
import Derived.Test.YtihefdlolfpbnaaBlk
namespace Go.Proofs.Ytihefdlolfpbnaa
open Go.RowKit

variable {P : Program} {ops : Array Oper} {Q : Exit → Act → World → Prop}

theorem inv_mem {L : Array Bool} {i : Nat} (h : i ∈ Region.ready .any ops L) : i < ops.size ∧ L.getD i true = false ∧ ∃ o, ops[i]? = some o ∧ ∀ e ∈ o.after, Region.binds .any e = true → L.getD e.on false = true := by
  unfold Region.ready at h
  rw [List.mem_filter, List.mem_range, Bool.and_eq_true] at h
  obtain ⟨h1, h2, h3⟩ := h
  refine ⟨h1, by simpa using h2, ops[i], by simp [h1], fun e he hb => ?_⟩
  rw [Array.getElem?_eq_getElem h1] at h3
  simp only [Option.map_some, Option.getD_some, Array.all_eq_true_iff_forall_mem] at h3
  have := h3 e he
  rw [hb] at this
  simpa using this
theorem inv_ready {L : Array Bool} {i : Nat} {o : Oper} (h1 : L.getD i true = false) (h2 : ops[i]? = some o) (h3 : ∀ e ∈ o.after, Region.binds .any e = true → L.getD e.on false = true) : i ∈ Region.ready .any ops L := by
  unfold Region.ready
  have hi : i < ops.size := by
    rcases Nat.lt_or_ge i ops.size with h | h
    · exact h
    · rw [Array.getElem?_eq_none h] at h2; cases h2
  rw [List.mem_filter, List.mem_range, Bool.and_eq_true]
  refine ⟨hi, by simp [h1], ?_⟩
  rw [h2]
  simp only [Option.map_some, Option.getD_some, Array.all_eq_true_iff_forall_mem]
  intro e he
  cases hb : Region.binds .any e
  · rfl
  · simp [h3 e he hb]

/-- What an operation waits for has come up. -/
theorem inv_dep {L : Array Bool} {i : Nat} {o : Oper} (ho : ops[i]? = some o) (hall : ∀ e ∈ o.after, Region.binds .any e = true → L.getD e.on false = true) (j : Nat)
    (hd : ((ops[i]?).map (·.after.any fun e => Region.binds .any e && e.on == j)).getD false = true) : L.getD j false = true := by
  rw [ho] at hd
  simp only [Option.map_some, Option.getD_some, Array.any_eq_true'] at hd
  obtain ⟨e, he, hb⟩ := hd
  rw [Bool.and_eq_true] at hb
  have := hall e he hb.1
  rwa [show e.on = j by simpa using hb.2] at this
/-- Every operation waits for earlier ones only. -/
def Upward (ops : Array Oper) : Bool := (List.range ops.size).all fun i => ((ops[i]?).map (·.after.all fun e => !Region.binds .any e || decide (e.on < i))).getD false
theorem inv_all (hup : Upward ops = true) {L : Array Bool} (hs : L.size = ops.size) (hr : Region.ready .any ops L = []) : L = Array.replicate ops.size true := by
  have key : ∀ i, i < ops.size → L.getD i true = true := by
    intro i
    induction i using Nat.strongRecOn with
    | _ i ih =>
      intro hi
      cases hL : L.getD i true
      · exfalso
        have hm : i ∈ Region.ready .any ops L := by
          refine inv_ready hL (o := ops[i]) (by simp [hi]) fun e he hbd => ?_
          have hu := List.all_eq_true.1 hup i (List.mem_range.2 hi)
          rw [Array.getElem?_eq_getElem hi] at hu
          simp only [Option.map_some, Option.getD_some, Array.all_eq_true_iff_forall_mem] at hu
          have hlt : e.on < i := by have := hu e he; rw [hbd] at this; simpa using this
          have h1 := ih e.on hlt (by omega)
          have h2 : e.on < L.size := by omega
          simpa [Array.getD, h2] using h1
        rw [hr] at hm; cases hm
      · rfl
  apply Array.ext
  · simp [hs]
  · intro i h1 h2
    have := key i (by omega)
    simpa [Array.getD, h1] using this

theorem wpAny_inv (I : Array Bool → Act → World → Prop) (hup : Upward ops = true) (hsz : ∀ L a w, I L a w → L.size = ops.size)
    (step : ∀ L a w, I L a w → ∀ i, i ∈ Region.ready .any ops L → wpOp P ops Q i (fun a' w' => I (L.setIfInBounds i true) a' w') a w)
    (fin : ∀ a w, I (Array.replicate ops.size true) a w → Q .normal a w) :
    ∀ (fuel : Nat) (L : Array Bool) (a : Act) (w : World), I L a w → L.toList.count false ≤ fuel → wpAny P .any ops Q fuel L a w := by
  have done : ∀ L a w, I L a w → Region.ready .any ops L = [] → Q .normal a w := fun L a w h hr => fin a w (by rw [← inv_all hup (hsz L a w h) hr]; exact h)
  intro fuel
  induction fuel with
  | zero =>
    intro L a w h hc
    have hr : Region.ready .any ops L = [] := by
      apply List.eq_nil_iff_forall_not_mem.2
      intro i hi
      obtain ⟨h1, h2, -⟩ := inv_mem hi
      have hl : i < L.size := by rw [hsz L a w h]; exact h1
      have : L[i] = false := by simpa [Array.getD, hl] using h2
      have hm : false ∈ L.toList := by rw [← this]; simp
      have := List.count_pos_iff.2 hm
      omega
    exact ⟨hr, done L a w h hr⟩
  | succ fuel ih =>
    intro L a w h hc
    refine ⟨fun hr => done L a w h hr, fun i hi => ?_⟩
    obtain ⟨h1, h2, -⟩ := inv_mem hi
    have hl : i < L.size := by rw [hsz L a w h]; exact h1
    have hf : L[i] = false := by simpa [Array.getD, hl] using h2
    refine wpOp_mono (fun a' w' h' => ih _ a' w' h' ?_) (step L a w h i hi)
    have e : (L.setIfInBounds i true).toList = L.toList.set i true := by simp
    rw [e, List.count_set (by simpa using hl)]
    have hf' : L.toList[i]'(by simpa using hl) = false := by simpa using hf
    have hm : false ∈ L.toList := by rw [← hf']; exact List.getElem_mem _
    have := List.count_pos_iff.2 hm
    rw [hf']
    show L.toList.count false - 1 + 0 ≤ fuel
    omega

theorem wp_region_inv {id : Nat} {a0 : Act} {w : World} (I : Act → Array Bool → Act → World → Prop) (hm : P.follows .mixedOrders = true) (hup : Upward ops = true)
    (hsz : ∀ L a w, I a0 L a w → L.size = ops.size)
    (start : I a0 (Array.replicate ops.size false) a0 w.drew)
    (step : ∀ L a w, I a0 L a w → ∀ i, i ∈ Region.ready .any ops L → wpOp P ops Q i (fun a' w' => I a0 (L.setIfInBounds i true) a' w') a w)
    (fin : ∀ a w, I a0 (Array.replicate ops.size true) a w → Q .normal a w) : (Code.region id ops true).wp P Q a0 w :=
  wp_region_any hm (wpAny_inv (I a0) hup hsz step fin _ _ _ _ start (by simp))

theorem inv_op {i : Nat} {o : Oper} {K0 : Act → World → Prop} {a : Act} {w : World} (ho : ops[i]? = some o) (hw : Region.wanted o (yielded ops a.tmps) = true)
    (h : ∀ K, Hid (∀ a' w', K0 a' w' → K a' w') → o.wp P a w K Q) : wpOp P ops Q i K0 a w := by
  unfold wpOp
  rw [ho]
  simp only [hw, if_true]
  exact .inl (h K0 (Lib.hid fun _ _ h => h))
end Go.Proofs.Ytihefdlolfpbnaa
