/-
  The texts that the laws of this seat share, merged: part 6.
-/
import Derived.BigQuiet
import Derived.Deep.CutBlock
import Derived.Deep.CutRange
import Derived.Deep.DeepCutAuto
import Derived.Deep.Draws
import Derived.Deep.LoopGhost
import Derived.Deep.QuietTactic
import Derived.Deep.RegionHeld3
import Derived.IntWalk
import Derived.Laws.AppendOwn
import Derived.Laws.Bits64b
import Derived.Laws.BitsAll
import Derived.Laws.BitsAllLaws
import Derived.Lib.Hide
import Derived.Lib.ItoaNum
import Derived.LoopIn
import Derived.LoopNIn
import Derived.LoopTactic
import Derived.OneCell
import Derived.Orders
import Derived.OwnWalkIn
import Derived.RangeFuncBound
import Derived.RangeFuncCalls
import Derived.RangeFuncLeaves
import Derived.RangeFuncNested
import Derived.Shelf.Abstract
import Derived.Shelf.AbstractIn
import Derived.Shelf.Bits.Mul64
import Derived.Shelf.RegionOpen
import Derived.Shelf.Small.Bits
import Derived.Shelf.Spec.BitsCarry
import Derived.Shelf.Strconv.Itoa0
import Derived.StillTailTactics
import Derived.TacticsInMore
import Derived.Test.YtbdcmdofmokoeaaProg
import Derived.WalkKit
import Derived.WalkLawsBesides
import Derived.WalkSmall
import Derived.WalkSpells
import Derived.Test.YtbdcmdofmokoeaaR1
import Derived.Test.YtbdcmdofmokoeaaR5
/-
  Loops over iterators that have loops of their own: the law.
-/
namespace Go.Proofs.Ytbdcmdofmokoeaa
open Go.RowKit
set_option linter.unusedVariables false
set_option linter.unusedSimpArgs false

/-- What is said of a world is said of each that has the same blocks ahead of B. -/
def Firm {β : Type} (B : Nat) (J : β → World → Prop) : Prop := ∀ s A C, Below B A C → J s A → J s C
/-- The blocks behind l lie as they lay. -/
structure Above (l : Nat) (A C : World) : Prop where
  os : C.os = A.os
  tape : C.tape = A.tape
  output : C.output = A.output
  size : A.heap.size ≤ C.heap.size
  block : ∀ k, l < k → k < A.heap.size → C.heap[k]? = A.heap[k]?
theorem Above.refl (l : Nat) (A : World) : Above l A A := ⟨rfl, rfl, rfl, Nat.le_refl _, fun _ _ _ => rfl⟩
theorem Above.trans {l : Nat} {A B C : World} (h : Above l A B) (k : Above l B C) : Above l A C :=
  ⟨k.os.trans h.os, k.tape.trans h.tape, k.output.trans h.output, Nat.le_trans h.size k.size, fun i hi hl => (k.block i hi (Nat.lt_of_lt_of_le hl h.size)).trans (h.block i hi hl)⟩
theorem Above.put {l : Nat} {A : World} (o : Obj) (_ : l < A.heap.size) : Above l A (A.putObj l o) :=
  ⟨rfl, rfl, rfl, by simp [World.putObj], fun k hk _ => World.putObj_heap_other (by omega)⟩
theorem Above.of_below {l : Nat} {A C : World} (h : Below A.heap.size A C) : Above l A C := ⟨h.os, h.tape, h.output, h.size, fun k _ hk => h.block k hk⟩
/-- What an iterator that has loops of its own promises: it yields the elements of some list, whatever a round does to what lay ahead of the loop. -/
def SeqDeep {α : Type} (F : Fence) (n : Nat) (P : Program) (g : Nat) (lb : Array Value) (encs : α → Array Value) (Lay : World → Prop) (S Sp : List α → Prop) (N : Nat) : Prop :=
  ∀ (l : Nat) (J Jx : List α → World → Prop) (W : World), l < W.heap.size → Firm W.heap.size J → Firm W.heap.size Jx → (∀ s A, J s A → Lay A) →
    (∀ pre x W1, J pre W1 → pre.length < N → W.heap.size ≤ W1.heap.size → YieldAt F (n - 1) P l (encs x) W1 fun e W' =>
      (e = .returned (.bool true) ∧ J (pre ++ [x]) W' ∧ Above l W1 W') ∨ (e = .returned (.bool false) ∧ Jx (pre ++ [x]) W' ∧ Above l W1 W')) →
    J [] W →
    CallsIn F n P g (#[.func (.yield l) #[] #[]] ++ lb) W fun e W' => (∃ v, e = .returned v) ∧ ((∃ xs, S xs ∧ J xs W') ∨ (∃ pre, Sp pre ∧ Jx pre W'))
/-- Three, and four facts. (Of their own, so that nobody looks behind them.) -/
structure Three (a b c : Prop) : Prop where
  fst : a
  snd : b
  thd : c
structure Four (a b c d : Prop) : Prop where
  fst : a
  snd : b
  thd : c
  fth : d
/-- What a round's body leaves. -/
def deepPost {α : Type} (l : Nat) (I : List α → World → Prop) (Ix : Code → List α → World → Prop) (xs : List α) (W : World) : Exit → Act → World → Prop
  | .normal, _, W' => Four (W'.heap[l]? = W.heap[l]?) (W'.heap[l - 1]? = W.heap[l - 1]?) (Above l W W') (I xs W')
  | .ret, _, W' => Four (W'.heap[l]? = W.heap[l]?) (W'.heap[l - 1]? = W.heap[l - 1]?) (Above l W W') (Ix .ret xs W')
  | .exit id, _, W' => Four (W'.heap[l]? = W.heap[l]?) (W'.heap[l - 1]? = W.heap[l - 1]?) (Above l W W') (Ix (.exit id) xs W')
  | _, _, _ => False
variable {F : Fence} {n : Nat} {P : Program}
/-- A loop over such an iterator. -/
theorem wpIn_rangeFunc_deep {α : Type} {g : Operand} {ps : Array Tmp} {assign body : Code} {Q : Exit → Act → World → Prop} {a : Act} {w : World}
    (hro : F.round = none) (h1 : 1 ≤ n) {gf : Nat} {lb : Array Value} (hg : a.eval g = .func (.func gf) #[] lb) (hFg : F.fn gf) (eg : ∀ args w, (callFunc gf args).run P w = .ok (.enter gf args) w)
    {encs : α → Array Value} {Lay : World → Prop} {S Sp : List α → Prop} {N : Nat} (hseq : SeqDeep F (n - 1) P gf lb encs Lay S Sp N) (hps : ∀ x, (encs x).size = ps.size)
    (I : List α → World → Prop) (Ix : Code → List α → World → Prop) (hI : Firm w.heap.size I) (hIx : ∀ c, Firm w.heap.size (Ix c)) (hL : ∀ s A, I s A → Lay A) (h0 : I [] w)
    (Ax : α → Act → World → World → Prop)
    (hassign : ∀ (pre : List α) (x : α) (W : World) (K : Act → World → Prop), I pre W → w.heap.size + 2 ≤ W.heap.size → (∀ a' W', Below W.heap.size W W' → Ax x a' W W' → K a' W') →
      assign.wpIn (F.inRound (w.heap.size + 1)) (n - 1 - 1) P (Exit.then K (fun _ _ _ => False)) { tmps := (ps.zip (encs x)).foldl (fun t (p, v) => t.setIfInBounds p v) a.tmps, defers := [] } W)
    (hAx : ∀ (x : α) (a' : Act) (A B : World) (o : Obj), w.heap.size + 2 ≤ A.heap.size → Ax x a' A B → Ax x a' A (B.putObj (w.heap.size + 1) o))
    (hbody : ∀ (pre : List α) (x : α) (a' : Act) (W0 W : World), I pre W → w.heap.size + 2 ≤ W0.heap.size → Ax x a' W0 W → W0.heap.size ≤ W.heap.size → (∃ r, W.heap[w.heap.size + 1]? = some (.loop r)) → pre.length < N →
      body.wpIn (F.inRound (w.heap.size + 1)) (n - 1 - 1) P (deepPost (w.heap.size + 1) I Ix (pre ++ [x]) W) a' W)
    (hdone : ∀ (D : Nat) (xs : List α) (W : World), w.heap.size ≤ D → S xs → I xs W → W.heap[D]? = some (.deferred (some [])) → Q .normal { a with defers := { target := .collected D, args := #[] } :: a.defers } W)
    (hstop : ∀ (D : Nat) (c : Code) (pre : List α) (W : World), w.heap.size ≤ D → Sp pre → Ix c pre W → W.heap[D]? = some (.deferred (some [])) → c.wpIn F n P Q { a with defers := { target := .collected D, args := #[] } :: a.defers } W) :
    (Code.rangeFunc g ps assign body).wpIn F n P Q a w := by
  refine wpIn_rangeFunc ?_
  intro fn hfn
  rw [hro]
  obtain ⟨rec, hrec⟩ : ∃ rec : LoopState → Option Code → Loop, rec = fun st pe => { state := st, pending := pe, fn, tmps := a.tmps, params := ps, assign, body, defers := w.heap.size } := ⟨_, rfl⟩
  obtain ⟨l, hl⟩ : ∃ l, w.heap.size + 1 = l := ⟨_, rfl⟩
  have hl1 : l - 1 = w.heap.size := by omega
  obtain ⟨W1, hW1⟩ : ∃ W1, (w.alloc (.deferred (some []))).alloc (.loop (rec .ready none)) = W1 := ⟨_, rfl⟩
  have hsz : W1.heap.size = w.heap.size + 2 := by rw [← hW1]; simp
  have hL1 : W1.heap[l]? = some (.loop (rec .ready none)) := by
    rw [← hW1, ← hl]; have := World.alloc_heap_new (w.alloc (.deferred (some []))) (.loop (rec .ready none)); rwa [World.size_alloc] at this
  have hK1 : W1.heap[w.heap.size]? = some (.deferred (some [])) := by
    rw [← hW1]; exact (Below.heap_alloc _ _ _ (by simp)).trans (World.alloc_heap_new w _)
  have hb1 : Below w.heap.size w W1 := by
    rw [← hW1]; exact ((Below.refl _ w).alloc (Nat.le_refl _) _).alloc (by simp) _
  have hput : ∀ (A : World) (o : Obj), Below w.heap.size A (A.putObj l o) := fun A o => ⟨rfl, rfl, rfl, by simp [World.putObj], fun k hk => World.putObj_heap_other (by omega)⟩
  have hmono : ∀ {A C : World}, Below W1.heap.size A C → Below w.heap.size A C := fun h => h.mono (by omega)
  rw [hl] at hassign hbody hAx
  refine ⟨l, [{ target := .collected w.heap.size, args := #[] }], W1, { target := .fn (.func gf) lb, args := #[.func (.yield l) #[] #[]] }, W1, gf,
    #[.func (.yield l) #[] #[]] ++ lb, W1, ?_, ?_, ?_, ?_, fun _ => h1, ?_⟩
  · rw [← hW1, hrec, ← hl]; exact run_enterLoop_outer _ _ _ _ _
  · simp only [resolve, hg]
    simp [go_sem]
  · intro f' hf'; simp [Target.leads] at hf'; subst hf'; exact hFg
  · simp [invoke, go_sem, eg]
  · refine (hseq l
      (fun pre W => I pre W ∧ W.heap[l]? = some (.loop (rec .ready none)) ∧ W.heap[w.heap.size]? = some (.deferred (some [])))
      (fun pre W => ∃ c, Ix c pre W ∧ W.heap[l]? = some (.loop (rec .done (some c))) ∧ W.heap[w.heap.size]? = some (.deferred (some [])))
      W1 (by omega)
      (fun s A C hb hs => ⟨hI s A C (hmono hb) hs.1, (hb.block l (by omega)).trans hs.2.1, (hb.block _ (by omega)).trans hs.2.2⟩)
      (fun s A C hb hs => by
        obtain ⟨c, hc, hq, hk⟩ := hs
        exact ⟨c, hIx c s A C (hmono hb) hc, (hb.block l (by omega)).trans hq, (hb.block _ (by omega)).trans hk⟩)
      (fun s A hs => hL s A hs.1)
      ?_ ⟨hI [] w W1 hb1 h0, hL1, hK1⟩).mono ?_
    · rintro pre x W ⟨hi, hq, hk⟩ hlen hW
      have hy := run_yield (P := P) (args := encs x) hq (by rw [hrec]; exact hps x)
      rw [hrec] at hy
      refine ⟨fn, _, assign, body, hy, roundIn_of_wpIn hfn (hassign pre x W _ hi (by omega) ?_)⟩
      clear hy
      intro a' Wa hba hax
      have hqa : Wa.heap[l]? = some (.loop (rec .ready none)) := (hba.block l (by omega)).trans hq
      have hka : Wa.heap[w.heap.size]? = some (.deferred (some [])) := (hba.block _ (by omega)).trans hk
      have hia : I pre Wa := hI pre W Wa (hba.mono (by omega)) hi
      have hsa := hba.size
      have hlt : l < Wa.heap.size := by omega
      refine ⟨_, run_beginRound hqa (by rw [hrec]), ?_⟩
      have hqb : (Wa.putObj l (.loop { rec .ready none with state := .busy })).heap[l]? = some (.loop { rec .ready none with state := .busy }) := World.putObj_heap_same hlt
      have hkb : (Wa.putObj l (.loop { rec .ready none with state := .busy })).heap[w.heap.size]? = some (.deferred (some [])) := (World.putObj_heap_other (by omega)).trans hka
      refine wpIn_mono (hbody pre x a' W _ (hI pre Wa _ (hput Wa _) hia) (by omega) (hAx x a' W Wa _ (by omega) hax) (by simp [World.putObj]; omega) ⟨_, hqb⟩ hlen) ?_
      have fin : ∀ (jump : Option Code) (W3 : World), W3.heap[l]? = (Wa.putObj l (.loop { rec .ready none with state := .busy })).heap[l]? → W3.heap[l - 1]? = (Wa.putObj l (.loop { rec .ready none with state := .busy })).heap[l - 1]? →
          (Instr.endRound l jump).run P W3 = .ok (.bool jump.isNone) (W3.putObj l (.loop (rec (if jump.isNone then .ready else .done) jump))) ∧
          (W3.putObj l (.loop (rec (if jump.isNone then .ready else .done) jump))).heap[l]? = some (.loop (rec (if jump.isNone then .ready else .done) jump)) ∧
          (W3.putObj l (.loop (rec (if jump.isNone then .ready else .done) jump))).heap[w.heap.size]? = some (.deferred (some [])) ∧ l < W3.heap.size := fun jump W3 h3 h4 => by
        have hl3 := h3.trans hqb
        have := run_endRound (P := P) jump hl3
        have hlt3 := (Array.getElem?_eq_some_iff.1 hl3).1
        rw [hrec] at this ⊢
        rw [hl1] at h4
        exact ⟨this, World.putObj_heap_same hlt3, (World.putObj_heap_other (by omega)).trans (h4.trans hkb), hlt3⟩
      rintro e a3 W3 hp
      cases e with
      | normal =>
        obtain ⟨h3, h4, hA, hi3⟩ := hp
        obtain ⟨hr, hl4, hk4, hlt3⟩ := fin none W3 h3 h4
        exact ⟨_, _, hr, .inl ⟨rfl, ⟨hI _ W3 _ (hput W3 _) hi3, hl4, hk4⟩, ((Above.of_below hba).trans (Above.put _ hlt)).trans (hA.trans (Above.put _ hlt3))⟩⟩
      | ret =>
        obtain ⟨h3, h4, hA, hi3⟩ := hp
        obtain ⟨hr, hl4, hk4, hlt3⟩ := fin (some .ret) W3 h3 h4
        exact ⟨_, _, hr, .inr ⟨rfl, ⟨.ret, hIx _ _ W3 _ (hput W3 _) hi3, hl4, hk4⟩, ((Above.of_below hba).trans (Above.put _ hlt)).trans (hA.trans (Above.put _ hlt3))⟩⟩
      | exit id =>
        obtain ⟨h3, h4, hA, hi3⟩ := hp
        obtain ⟨hr, hl4, hk4, hlt3⟩ := fin (some (.exit id)) W3 h3 h4
        exact ⟨_, _, hr, .inr ⟨rfl, ⟨.exit id, hIx _ _ W3 _ (hput W3 _) hi3, hl4, hk4⟩, ((Above.of_below hba).trans (Above.put _ hlt)).trans (hA.trans (Above.put _ hlt3))⟩⟩
      | goto t => exact hp.elim
      | panic ch => exact hp.elim
      | outgrown => exact hp.elim
    · rintro e W2 ⟨⟨v, rfl⟩, (⟨xs, hS, hi, hq, hk⟩ | ⟨pre, hSp, c, hi, hq, hk⟩)⟩
      · exact ⟨none, _, by have := run_endLoop (P := P) hq (by rw [hrec]; simp); rw [hrec] at this; exact this, hdone _ xs _ (Nat.le_refl _) hS (hI _ W2 _ (hput W2 _) hi) ((World.putObj_heap_other (by omega)).trans hk)⟩
      · exact ⟨some c, _, by have := run_endLoop (P := P) hq (by rw [hrec]; simp); rw [hrec] at this; exact this, hstop _ c pre _ (Nat.le_refl _) hSp (hIx c _ W2 _ (hput W2 _) hi) ((World.putObj_heap_other (by omega)).trans hk)⟩
/-- What a round's body leaves, within another loop's round. -/
def deepPostN {α : Type} (l : Nat) (I : List α → World → Prop) (Ix : Code → List α → World → Prop) (xs : List α) (W : World) : Exit → Act → World → Prop
  | .normal, _, W' => Three (W'.heap[l]? = W.heap[l]?) (Above l W W') (I xs W')
  | .ret, _, W' => Three (W'.heap[l]? = W.heap[l]?) (Above l W W') (Ix .ret xs W')
  | .exit id, _, W' => Three (W'.heap[l]? = W.heap[l]?) (Above l W W') (Ix (.exit id) xs W')
  | _, _, _ => False
/-- A loop over such an iterator, within a round of another loop. -/
theorem wpIn_rangeFunc_deepN {α : Type} {g : Operand} {ps : Array Tmp} {assign body : Code} {Q : Exit → Act → World → Prop} {a : Act} {w : World}
    {l₀ : Nat} {r₀ : Loop} (hro : F.round = some l₀) (hl₀ : w.heap[l₀]? = some (.loop r₀)) (h1 : 1 ≤ n) {gf : Nat} {lb : Array Value} (hg : a.eval g = .func (.func gf) #[] lb) (hFg : F.fn gf) (eg : ∀ args w, (callFunc gf args).run P w = .ok (.enter gf args) w)
    {encs : α → Array Value} {Lay : World → Prop} {S Sp : List α → Prop} {N : Nat} (hseq : SeqDeep F (n - 1) P gf lb encs Lay S Sp N) (hps : ∀ x, (encs x).size = ps.size)
    (I : List α → World → Prop) (Ix : Code → List α → World → Prop) (hI : Firm w.heap.size I) (hIx : ∀ c, Firm w.heap.size (Ix c)) (hL : ∀ s A, I s A → Lay A) (h0 : I [] w)
    (Ax : α → Act → World → World → Prop)
    (hassign : ∀ (pre : List α) (x : α) (W : World) (K : Act → World → Prop), I pre W → w.heap.size + 1 ≤ W.heap.size → (∀ a' W', Below W.heap.size W W' → Ax x a' W W' → K a' W') →
      assign.wpIn (F.inRound w.heap.size) (n - 1 - 1) P (Exit.then K (fun _ _ _ => False)) { tmps := (ps.zip (encs x)).foldl (fun t (p, v) => t.setIfInBounds p v) a.tmps, defers := [] } W)
    (hAx : ∀ (x : α) (a' : Act) (A B : World) (o : Obj), w.heap.size + 1 ≤ A.heap.size → Ax x a' A B → Ax x a' A (B.putObj w.heap.size o))
    (hbody : ∀ (pre : List α) (x : α) (a' : Act) (W0 W : World), I pre W → w.heap.size + 1 ≤ W0.heap.size → Ax x a' W0 W → W0.heap.size ≤ W.heap.size → (∃ r, W.heap[w.heap.size]? = some (.loop r)) → pre.length < N →
      body.wpIn (F.inRound w.heap.size) (n - 1 - 1) P (deepPostN w.heap.size I Ix (pre ++ [x]) W) a' W)
    (hdone : ∀ (xs : List α) (W : World), S xs → I xs W → Q .normal a W)
    (hstop : ∀ (c : Code) (pre : List α) (W : World), Sp pre → Ix c pre W → c.wpIn F n P Q a W) :
    (Code.rangeFunc g ps assign body).wpIn F n P Q a w := by
  refine wpIn_rangeFunc ?_
  intro fn hfn
  rw [hro]
  obtain ⟨rec, hrec⟩ : ∃ rec : LoopState → Option Code → Loop, rec = fun st pe => { state := st, pending := pe, fn, tmps := a.tmps, params := ps, assign, body, defers := r₀.defers } := ⟨_, rfl⟩
  obtain ⟨l, hl⟩ : ∃ l, w.heap.size = l := ⟨_, rfl⟩
  obtain ⟨W1, hW1⟩ : ∃ W1, w.alloc (.loop (rec .ready none)) = W1 := ⟨_, rfl⟩
  have hsz : W1.heap.size = w.heap.size + 1 := by rw [← hW1]; simp
  have hL1 : W1.heap[l]? = some (.loop (rec .ready none)) := by
    rw [← hW1, ← hl]; exact World.alloc_heap_new w _
  have hb1 : Below w.heap.size w W1 := by
    rw [← hW1]; exact (Below.refl _ w).alloc (Nat.le_refl _) _
  have hput : ∀ (A : World) (o : Obj), Below w.heap.size A (A.putObj l o) := fun A o => ⟨rfl, rfl, rfl, by simp [World.putObj], fun k hk => World.putObj_heap_other (by omega)⟩
  have hmono : ∀ {A C : World}, Below W1.heap.size A C → Below w.heap.size A C := fun h => h.mono (by omega)
  rw [hl] at hassign hbody hAx
  refine ⟨l, [], W1, { target := .fn (.func gf) lb, args := #[.func (.yield l) #[] #[]] }, W1, gf,
    #[.func (.yield l) #[] #[]] ++ lb, W1, ?_, ?_, ?_, ?_, fun _ => h1, ?_⟩
  · rw [← hW1, hrec, ← hl]; exact run_enterLoop_inner hl₀ _ _ _ _ _
  · simp only [resolve, hg]
    simp [go_sem]
  · intro f' hf'; simp [Target.leads] at hf'; subst hf'; exact hFg
  · simp [invoke, go_sem, eg]
  · refine (hseq l
      (fun pre W => I pre W ∧ W.heap[l]? = some (.loop (rec .ready none)))
      (fun pre W => ∃ c, Ix c pre W ∧ W.heap[l]? = some (.loop (rec .done (some c))))
      W1 (by omega)
      (fun s A C hb hs => ⟨hI s A C (hmono hb) hs.1, (hb.block l (by omega)).trans hs.2⟩)
      (fun s A C hb hs => by
        obtain ⟨c, hc, hq⟩ := hs
        exact ⟨c, hIx c s A C (hmono hb) hc, (hb.block l (by omega)).trans hq⟩)
      (fun s A hs => hL s A hs.1)
      ?_ ⟨hI [] w W1 hb1 h0, hL1⟩).mono ?_
    · rintro pre x W ⟨hi, hq⟩ hlen hW
      have hy := run_yield (P := P) (args := encs x) hq (by rw [hrec]; exact hps x)
      rw [hrec] at hy
      refine ⟨fn, _, assign, body, hy, roundIn_of_wpIn hfn (hassign pre x W _ hi (by omega) ?_)⟩
      clear hy
      intro a' Wa hba hax
      have hqa : Wa.heap[l]? = some (.loop (rec .ready none)) := (hba.block l (by omega)).trans hq
      have hia : I pre Wa := hI pre W Wa (hba.mono (by omega)) hi
      have hsa := hba.size
      have hlt : l < Wa.heap.size := by omega
      refine ⟨_, run_beginRound hqa (by rw [hrec]), ?_⟩
      have hqb : (Wa.putObj l (.loop { rec .ready none with state := .busy })).heap[l]? = some (.loop { rec .ready none with state := .busy }) := World.putObj_heap_same hlt
      refine wpIn_mono (hbody pre x a' W _ (hI pre Wa _ (hput Wa _) hia) (by omega) (hAx x a' W Wa _ (by omega) hax) (by simp [World.putObj]; omega) ⟨_, hqb⟩ hlen) ?_
      have fin : ∀ (jump : Option Code) (W3 : World), W3.heap[l]? = (Wa.putObj l (.loop { rec .ready none with state := .busy })).heap[l]? →
          (Instr.endRound l jump).run P W3 = .ok (.bool jump.isNone) (W3.putObj l (.loop (rec (if jump.isNone then .ready else .done) jump))) ∧
          (W3.putObj l (.loop (rec (if jump.isNone then .ready else .done) jump))).heap[l]? = some (.loop (rec (if jump.isNone then .ready else .done) jump)) ∧
          l < W3.heap.size := fun jump W3 h3 => by
        have hl3 := h3.trans hqb
        have := run_endRound (P := P) jump hl3
        have hlt3 := (Array.getElem?_eq_some_iff.1 hl3).1
        rw [hrec] at this ⊢
        exact ⟨this, World.putObj_heap_same hlt3, hlt3⟩
      rintro e a3 W3 hp
      cases e with
      | normal =>
        obtain ⟨h3, hA, hi3⟩ := hp
        obtain ⟨hr, hl4, hlt3⟩ := fin none W3 h3
        exact ⟨_, _, hr, .inl ⟨rfl, ⟨hI _ W3 _ (hput W3 _) hi3, hl4⟩, ((Above.of_below hba).trans (Above.put _ hlt)).trans (hA.trans (Above.put _ hlt3))⟩⟩
      | ret =>
        obtain ⟨h3, hA, hi3⟩ := hp
        obtain ⟨hr, hl4, hlt3⟩ := fin (some .ret) W3 h3
        exact ⟨_, _, hr, .inr ⟨rfl, ⟨.ret, hIx _ _ W3 _ (hput W3 _) hi3, hl4⟩, ((Above.of_below hba).trans (Above.put _ hlt)).trans (hA.trans (Above.put _ hlt3))⟩⟩
      | exit id =>
        obtain ⟨h3, hA, hi3⟩ := hp
        obtain ⟨hr, hl4, hlt3⟩ := fin (some (.exit id)) W3 h3
        exact ⟨_, _, hr, .inr ⟨rfl, ⟨.exit id, hIx _ _ W3 _ (hput W3 _) hi3, hl4⟩, ((Above.of_below hba).trans (Above.put _ hlt)).trans (hA.trans (Above.put _ hlt3))⟩⟩
      | goto t => exact hp.elim
      | panic ch => exact hp.elim
      | outgrown => exact hp.elim
    · rintro e W2 ⟨⟨v, rfl⟩, (⟨xs, hS, hi, hq⟩ | ⟨pre, hSp, c, hi, hq⟩)⟩
      · exact ⟨none, _, by have := run_endLoop (P := P) hq (by rw [hrec]; simp); rw [hrec] at this; exact this, hdone xs _ hS (hI _ W2 _ (hput W2 _) hi)⟩
      · exact ⟨some c, _, by have := run_endLoop (P := P) hq (by rw [hrec]; simp); rw [hrec] at this; exact this, hstop c pre _ hSp (hIx c _ W2 _ (hput W2 _) hi)⟩
theorem Above.firm {l B : Nat} {W A C : World} (hb : Below B A C) (hB : W.heap.size ≤ B) (h : Above l W A) : Above l W C :=
  ⟨hb.os.trans h.os, hb.tape.trans h.tape, hb.output.trans h.output, Nat.le_trans h.size hb.size, fun k hk hl => (hb.block k (by omega)).trans (h.block k hk hl)⟩
theorem Above.lift {l l' : Nat} {A C : World} (h : Above l A C) (hl : l ≤ l') : Above l' A C := ⟨h.os, h.tape, h.output, h.size, fun k hk hs => h.block k (by omega) hs⟩
end Go.Proofs.Ytbdcmdofmokoeaa
/-
  Layer 4: the iterator over what views say, by the code.
-/
namespace Go.Proofs.Ytbdcmdofmokoeaa
open Go.RowKit Go.Shelf
set_option linter.unusedVariables false
set_option linter.unusedSimpArgs false

attribute [local go_sem] Oper.semAt_some

/-- A rule of a list. -/
abbrev El (R : List Rl) := {x : Rl // x ∈ R}
def elEnc {R : List Rl} (x : El R) : Array Value := #[.agg #[.int .i64 x.1.1, .int .i64 x.1.2.1, .int .i64 x.1.2.2]]
def vals {R : List Rl} (xs : List (El R)) : List Rl := xs.map (·.1)
theorem vals_snoc {R : List Rl} (xs : List (El R)) (x : El R) : vals (xs ++ [x]) = vals xs ++ [x.1] := by unfold vals; simp
theorem vals_length {R : List Rl} (xs : List (El R)) : (vals xs).length = xs.length := by unfold vals; simp
/-- What a view says, where it is read as so many of the first number, the second one, and of its ends. -/
def two2 (v : Vw) (y : Int × Int × Int) : List Rl := [(y.1, y.2.1, v.2.2.2 * y.2.2), (-y.1, -y.2.1, -v.2.2.1 * y.2.2)]
def rulesL (rd : Vw → Int × Int × Int) (vs : List Vw) : List Rl := vs.flatMap fun v => two2 v (rd v)
theorem rulesL_length (rd : Vw → Int × Int × Int) (vs : List Vw) : (rulesL rd vs).length = 2 * vs.length := by
  unfold rulesL
  induction vs with
  | nil => rfl
  | cons v vs ih => rw [List.flatMap_cons, List.length_append, ih]; simp [two2]; omega
theorem rulesL_take {rd : Vw → Int × Int × Int} {vs : List Vw} {k : Nat} {v : Vw} (h : vs[k]? = some v) : rulesL rd (vs.take (k + 1)) = rulesL rd (vs.take k) ++ two2 v (rd v) := by
  unfold rulesL
  rw [List.take_add_one, h, Option.toList_some, List.flatMap_append]; simp
theorem rulesL_prefix (rd : Vw → Int × Int × Int) (vs : List Vw) (k : Nat) : rulesL rd (vs.take k) <+: rulesL rd vs := by
  unfold rulesL
  conv => rhs; rw [← List.take_append_drop k vs, List.flatMap_append]
  exact List.prefix_append _ _
theorem rulesL_mem {rd : Vw → Int × Int × Int} {vs : List Vw} {k : Nat} {v : Vw} (h : vs[k]? = some v) {r : Rl} (hr : r ∈ two2 v (rd v)) : r ∈ rulesL rd vs := by
  unfold rulesL; exact List.mem_flatMap.2 ⟨v, List.mem_of_getElem? h, hr⟩
/-- Nothing is brought into a range where a view's rules are made. -/
def RuleOk (v : Vw) (y : Int × Int × Int) : Prop := IntKind.i64.wrap (v.2.2.2 * y.2.2) = v.2.2.2 * y.2.2 ∧ IntKind.i64.wrap (-y.1) = -y.1 ∧ IntKind.i64.wrap (-y.2.1) = -y.2.1 ∧ IntKind.i64.wrap (-v.2.2.1) = -v.2.2.1 ∧ IntKind.i64.wrap (-v.2.2.1 * y.2.2) = -v.2.2.1 * y.2.2
/-- What the iterator reads of the memory. -/
def RulesLay (Bl Br n c : Nat) (a : Option Addr) (g : FuncId) (cap : Array Value) (vs : List Vw) (RD : World → Prop) (W : World) : Prop :=
  W.cell? ⟨Bl, 0, none⟩ = some (.slice a n c) ∧ W.cell? ⟨Br, 0, none⟩ = some (.func (.func g) #[] cap) ∧ VRow W a n vs ∧ RD W
theorem Blk.above {l : Nat} {A C : World} {b : Nat} {c : Array Value} {t : TypeId} (h : Above l A C) (hl : l < b) (k : Blk A b c t) : Blk C b c t := (h.block b hl k.lt).trans k

set_option maxRecDepth 100000 in
set_option maxHeartbeats 4000000 in
theorem rules1_deep (m Bl Br n c g : Nat) (a : Option Addr) (cap : Array Value) (vs : List Vw) (rd : Vw → Int × Int × Int) (RD : World → Prop) (hm : 1 ≤ m) (hn : n ≤ 12)
    (eg : ∀ args w, (callFunc g args).run Try.prog w = .ok (.enter g args) w) (hRD : ∀ A C, Below A.heap.size A C → RD A → RD C)
    (hrd : Hid (∀ (v : Vw) (W : World), v ∈ vs → RD W → Calls Try.prog g (#[.agg #[.int .i64 v.1, .int .i64 v.2.1, .int .i64 v.2.2.1, .int .i64 v.2.2.2]] ++ cap) W fun e W' => e = .returned (.tuple #[.int .i64 (rd v).1, .int .i64 (rd v).2.1, .int .i64 (rd v).2.2]) ∧ Below W.heap.size W W'))
    (hok : Hid (∀ v ∈ vs, RuleOk v (rd v))) :
    SeqDeep Fence.wide m Try.prog 113 #[.pointer (some ⟨Bl, 0, none⟩), .pointer (some ⟨Br, 0, none⟩)] (elEnc (R := rulesL rd vs)) (RulesLay Bl Br n c a g cap vs RD) (fun xs => vals xs = rulesL rd vs) (fun pre => vals pre <+: rulesL rd vs) (rulesL rd vs).length := by
  intro l J Jx W hl hJ hJx hL hY h0
  have HY := Lib.hid hY; have HJ := Lib.hid hJ; have HL := Lib.hid hL; have HRD := Lib.hid hRD
  clear hY hJx
  obtain ⟨g0, g1, g2, g3⟩ := hL _ _ h0
  clear hL hJ hRD g1 g2 g3
  refine callsIn_of_wp Try.func113 rfl trivial ?_ rfl
  simp only [Try.ntmps113, List.size_toArray, List.length_cons, List.length_nil, Nat.reduceAdd, Nat.reduceSub, Array.replicate_succ, Array.replicate_zero, List.push_toArray, List.append_toArray, List.nil_append, List.cons_append]
  gi_wp2
  clear g0
  gi_loopw [11] (fun i wr => ∃ k : Nat, k ≤ n ∧ i = .int .i64 k ∧ ∃ pre, Hid (vals pre = rulesL rd (vs.take k)) ∧ J pre wr ∧ W.heap.size ≤ wr.heap.size) (fun i _ => n - (intOf i).toNat)
  case atStart => exact ⟨0, Nat.zero_le _, rfl, [], Lib.hid (by simp [vals, rulesL]), h0, Nat.le_refl _⟩
  case round =>
    obtain ⟨k, hk, rfl, pre, hpre, hJs, hsz⟩ := hrel
    clear h0
    by_cases hlt : k < n
    · obtain ⟨g0, g1, g2, g3⟩ := HL.out _ _ hJs
      obtain ⟨bb, oo, x, z, lo, hi, rfl, l1, h1, c1, d1, e1, f1⟩ := g2.at hlt
      have yr := lt_of_cell g1
      have q0 : (0 : Int) ≤ (k : Int) := by omega
      have q1 : (k : Int) < (n : Int) := by omega
      obtain ⟨⟨d, kk, u⟩, hy⟩ : ∃ y, rd (x, z, lo, hi) = y := ⟨_, rfl⟩
      have HT := Lib.hid (rulesL_take (rd := rd) h1)
      have HM1 : Hid ((d, kk, hi * u) ∈ rulesL rd vs) := rulesL_mem h1 (by rw [hy]; simp [two2])
      have HM2 : Hid ((-d, -kk, -lo * u) ∈ rulesL rd vs) := rulesL_mem h1 (by rw [hy]; simp [two2])
      have HP := Lib.hid (rulesL_prefix rd vs (k + 1))
      have HC := Lib.hid (fun W (h : RD W) => hrd.out (x, z, lo, hi) W (List.mem_of_getElem? h1) h)
      obtain ⟨w1, w2, w3, w4, w5⟩ := hok.out _ (List.mem_of_getElem? h1)
      have hlen : pre.length = 2 * k := by
        rw [← vals_length pre, hpre.out, rulesL_length, List.length_take]; have := g2.1; omega
      have hN : (rulesL rd vs).length = 2 * n := by rw [rulesL_length, g2.1]
      rw [hy] at HC HT w1 w2 w3 w5
      dsimp only at HC w1 w2 w3 w4 w5
      have HG3 := Lib.hid g3
      clear g2 g3 h1 hy
      gi_wp2_with ((try (refine ⟨trivial, ?_⟩)); gi_at_fn g; refine (callsIn_wide.2 (HC.out _ (HRD.out _ _ (by (repeat' (first | (with_reducible exact Below.refl _ _) | (with_reducible assumption) | (with_reducible refine belowThru ?_ (by assumption)) | (with_reducible refine belowAlloc ?_) | (with_reducible refine Below.setCell ?_ (by first | omega | (simp; done) | (simp; omega)) _) | (with_reducible refine Below.drew ?_) | (with_reducible refine below_drewN ?_ _)))) HG3.out))).mono ?_; rintro e W2 ⟨rfl, hb⟩; (have k5 : Blk W2 wr.heap.size #[.int .i64 x, .int .i64 z, .int .i64 lo, .int .i64 hi] 45 := Blk.later hb (by (repeat' (first | (with_reducible assumption) | ((with_reducible refine Blk.new ?_); first | rfl | (simp; done)) | (with_reducible refine Blk.later (by assumption) ?_) | (with_reducible refine Blk.alloc ?_) | (with_reducible refine Blk.drewN ?_) | (with_reducible refine Blk.drew ?_) | (with_reducible refine Blk.other ?_ (by first | omega | (simp; done) | (simp; omega))))))); (have hB2 : Below wr.heap.size wr W2 := by (repeat' (first | (with_reducible exact Below.refl _ _) | (with_reducible assumption) | (with_reducible refine belowThru ?_ (by assumption)) | (with_reducible refine belowAlloc ?_) | (with_reducible refine Below.setCell ?_ (by first | omega | (simp; done) | (simp; omega)) _) | (with_reducible refine Below.drew ?_) | (with_reducible refine below_drewN ?_ _)))); (have hs2 := hB2.size); (have hJ2 : J pre W2 := HJ.out _ _ _ (hB2.mono hsz) hJs); obtain ⟨a5, b5⟩ := k5.read; clear hb g0 g1 c1 d1 e1 f1; obtain ⟨fn, tmps, assign, body, hy, hR⟩ := HY.out pre ⟨_, HM1.out⟩ W2 hJ2 (by omega) (by omega); dsimp only [elEnc] at hy)
      refine hR.mono ?_
      rintro e W3 (⟨rfl, hJ3, hA3⟩ | ⟨rfl, hJx3, -⟩)
      · clear hy a5 b5
        have k6 := Blk.above hA3 (show l < wr.heap.size by omega) k5
        have hs3 := hA3.size
        obtain ⟨a5, b5⟩ := k6.read
        obtain ⟨fn2, tmps2, assign2, body2, hy2, hR2⟩ := HY.out _ ⟨_, HM2.out⟩ W3 hJ3 (by rw [List.length_append]; simp; omega) (by omega)
        dsimp only [elEnc] at hy2
        gi_wp2
        refine hR2.mono ?_
        rintro e W4 (⟨rfl, hJ4, hA4⟩ | ⟨rfl, hJx4, -⟩)
        · clear hy2
          have hs4 := hA4.size
          gi_wp2
          go_roundw
          case rel => exact ⟨k + 1, hlt, by go_num, _, Lib.hid (by rw [vals_snoc, vals_snoc, hpre.out, HT.out, List.append_assoc]; rfl), hJ4, by omega⟩
          case measure => simp [intOf]; omega
        · clear hy2
          gi_wp2
          refine bodyPost_ret (v := .tuple #[]) ?_ ?_ ?_; exact results_none rfl _ _ _; rfl
          refine ⟨⟨_, rfl⟩, .inr ⟨_, ?_, hJx4⟩⟩
          rw [vals_snoc, vals_snoc, hpre.out, List.append_assoc]
          exact (show rulesL rd (vs.take k) ++ ([(d, kk, hi * u)] ++ [(-d, -kk, -lo * u)]) = rulesL rd (vs.take (k + 1)) from HT.out.symm) ▸ HP.out
      · clear hy
        gi_wp2
        refine ⟨(fun f h => by cases h), ?_⟩
        gi_wp2
        refine bodyPost_ret (v := .tuple #[]) ?_ ?_ ?_; exact results_none rfl _ _ _; rfl
        refine ⟨⟨_, rfl⟩, .inr ⟨_, ?_, hJx3⟩⟩
        rw [vals_snoc, hpre.out]
        refine List.IsPrefix.trans ?_ HP.out
        rw [HT.out]
        exact ⟨[(-d, -kk, -lo * u)], by simp [two2]⟩
    · obtain rfl : k = n := by omega
      have hvn := (HL.out _ _ hJs).2.2.1.1
      gi_wp2
      go_end0
      refine ⟨⟨_, rfl⟩, .inl ⟨pre, ?_, hJs⟩⟩
      rw [hpre.out, List.take_of_length_le (by omega)]
set_option maxHeartbeats 1000000 in
theorem rules_any (a : Option Addr) (n c g : Nat) (cap : Array Value) (w : World) :
    Calls Try.prog 88 #[.slice a n c, .func (.func g) #[] cap] w fun e w' => e = .returned (.func (.func 113) #[] #[.pointer (some ⟨w.heap.size, 0, none⟩), .pointer (some ⟨w.heap.size + 1, 0, none⟩)]) ∧ w' = (w.alloc (.cells #[.slice a n c] 38)).alloc (.cells #[.func (.func g) #[] cap] 128) := by
  go_enter Try.func88, Try.ntmps88
  go_wp2
  go_ret
  exact ⟨rfl, rfl⟩
end Go.Proofs.Ytbdcmdofmokoeaa
/-
  Layer 4: the iterator over what rules say of one number alone, by the code.
-/
namespace Go.Proofs.Ytbdcmdofmokoeaa
open Go.RowKit Go.Shelf
set_option linter.unusedVariables false
set_option linter.unusedSimpArgs false

attribute [local go_sem] Oper.semAt_some

def elCells {R : List Rl} (x : El R) : Array Value := #[.int .i64 x.1.1, .int .i64 x.1.2.1, .int .i64 x.1.2.2]
/-- Nothing is brought into a range where two rules are added up. -/
def WoOk (a b : Rl) : Prop := IntKind.i64.wrap (a.1 * b.2.1) = a.1 * b.2.1 ∧ IntKind.i64.wrap (b.1 * a.2.1) = b.1 * a.2.1 ∧ IntKind.i64.wrap (a.1 * b.2.1 - b.1 * a.2.1) = a.1 * b.2.1 - b.1 * a.2.1 ∧ IntKind.i64.wrap (a.1 * b.2.2) = a.1 * b.2.2 ∧ IntKind.i64.wrap (b.1 * a.2.2) = b.1 * a.2.2 ∧ IntKind.i64.wrap (a.1 * b.2.2 - b.1 * a.2.2) = a.1 * b.2.2 - b.1 * a.2.2
/-- What the iterator reads of the memory. -/
def DropLay (Bd : Nat) (gf : FuncId) (lb : Array Value) (LayR : World → Prop) (W : World) : Prop := W.cell? ⟨Bd, 0, none⟩ = some (.func (.func gf) #[] lb) ∧ LayR W
theorem Blk.put {A : World} {b l : Nat} {c : Array Value} {t : TypeId} (o : Obj) (h : b ≠ l) (k : Blk A b c t) : Blk (A.putObj l o) b c t := (World.putObj_heap_other h).trans k
theorem belowPut {B l : Nat} {A : World} (o : Obj) (h : B ≤ l) : Below B A (A.putObj l o) := ⟨rfl, rfl, rfl, by simp [World.putObj], fun k hk => World.putObj_heap_other (by omega)⟩
theorem SeqDeep.inRound {F : Fence} {n : Nat} {P : Program} {α : Type} {g : Nat} {lb : Array Value} {encs : α → Array Value} {Lay : World → Prop} {S Sp : List α → Prop} {N : Nat} (l : Nat) (h : SeqDeep F n P g lb encs Lay S Sp N) : SeqDeep (F.inRound l) n P g lb encs Lay S Sp N := h
theorem RoundIn.wideIn {n l f k l' : Nat} {P : Program} {tmps : Array Value} {assign body : Code} {w : World} {R : Ending → World → Prop} (h : RoundIn Fence.wide n P l f tmps assign body w R) : RoundIn (Fence.wide.inRound l') k P l f tmps assign body w R :=
  ⟨h.1, fun c cs _ => h.2 c cs (room_wide _)⟩
theorem RoundIn.wideIn2 {n l f k l' l2 : Nat} {P : Program} {tmps : Array Value} {assign body : Code} {w : World} {R : Ending → World → Prop} (h : RoundIn Fence.wide n P l f tmps assign body w R) : RoundIn ((Fence.wide.inRound l').inRound l2) k P l f tmps assign body w R :=
  ⟨h.1, fun c cs _ => h.2 c cs (room_wide _)⟩
theorem len_alg {p R x : Nat} (hp : p < R) (hx : x ≤ p * (R + 1) + R) : x < R * (R + 1) := by
  have : (p + 1) * (R + 1) ≤ R * (R + 1) := Nat.mul_le_mul_right _ hp
  rw [Nat.add_mul, Nat.one_mul] at this; omega
theorem above_drew (l : Nat) (A : World) : Above l A A.drew := ⟨rfl, rfl, rfl, Nat.le_refl _, fun _ _ _ => rfl⟩
/-- What comes of one rule and of those others that are met first. -/
def someD (a : Rl) (bs : List Rl) : List Rl := (bs.filter fun b => decide (0 < a.1) && decide (b.1 < 0)).map (woR a)
theorem someD_snoc (a : Rl) (bs : List Rl) (b : Rl) : someD a (bs ++ [b]) = someD a bs ++ (if 0 < a.1 ∧ b.1 < 0 then [woR a b] else []) := by
  unfold someD
  rw [List.filter_append, List.map_append]
  by_cases h : 0 < a.1 ∧ b.1 < 0
  · rw [if_pos h]; simp [h.1, h.2]
  · rw [if_neg h]
    have : (decide (0 < a.1) && decide (b.1 < 0)) = false := by rw [Bool.and_eq_false_iff]; by_cases k : 0 < a.1 <;> simp [k] <;> omega
    simp [this]
theorem someD_prefix {a : Rl} {bs cs : List Rl} (h : bs <+: cs) : someD a bs <+: someD a cs := by
  unfold someD; exact (h.filter _).map _
theorem oneD_eq (R : List Rl) (a : Rl) : oneD R a = (if a.1 = 0 then [a] else []) ++ someD a R := rfl
theorem flat_prefix {α β : Type} (f : α → List β) {xs ys : List α} (h : xs <+: ys) : xs.flatMap f <+: ys.flatMap f := by
  obtain ⟨zs, rfl⟩ := h; rw [List.flatMap_append]; exact List.prefix_append _ _

set_option maxRecDepth 100000 in
set_option maxHeartbeats 8000000 in
theorem dropped1_deep (m Bd gf : Nat) (lb : Array Value) (R : List Rl) (LayR : World → Prop) (hm : 8 ≤ m)
    (ef : ∀ args w, (callFunc gf args).run Try.prog w = .ok (.enter gf args) w)
    (hseq : Hid (∀ m', 1 ≤ m' → SeqDeep Fence.wide m' Try.prog gf lb (elEnc (R := R)) LayR (fun xs => vals xs = R) (fun pre => vals pre <+: R) R.length))
    (hok : Hid (∀ a ∈ R, ∀ b ∈ R, 0 < a.1 → b.1 < 0 → WoOk a b)) :
    SeqDeep Fence.wide m Try.prog 121 #[.pointer (some ⟨Bd, 0, none⟩)] (elEnc (R := dropL R)) (DropLay Bd gf lb LayR) (fun xs => vals xs = dropL R) (fun pre => vals pre <+: dropL R) (R.length * (R.length + 1)) := by
  intro l J Jx W hl hJ hJx hL hY h0
  have HY := Lib.hid hY; have HJ := Lib.hid hJ; have HJx := Lib.hid hJx; have HL := Lib.hid hL
  obtain ⟨g0, g1⟩ := hL _ _ h0
  clear hY hJ hJx hL
  have hmx : Try.prog.follows .mixedOrders = true := by kernel_rfl
  refine callsIn_of_wp_marks Try.func121 rfl trivial ?_ rfl
  simp only [Try.ntmps121, List.size_toArray, List.length_cons, List.length_nil, Nat.reduceAdd, Nat.reduceSub, Array.replicate_succ, Array.replicate_zero, List.push_toArray, List.append_toArray, List.nil_append, List.cons_append]
  have yd := lt_of_cell g0
  have n1 : 1 ≤ m := by omega
  gi_wp2
  obtain ⟨V0, hV0⟩ : ∃ V0, W.alloc (.cells #[.func (.yield l) #[] #[]] 156) = V0 := ⟨_, rfl⟩
  have kD : Blk V0 W.heap.size #[.func (.yield l) #[] #[]] 156 := by rw [← hV0]; exact Blk.new rfl
  have hB0 : Below W.heap.size W V0 := by rw [← hV0]; exact (Below.refl _ W).alloc (Nat.le_refl _) _
  have hz0 : V0.heap.size = W.heap.size + 1 := by rw [← hV0]; simp
  rw [hV0]
  clear hV0 g0 g1
  refine wpIn_rangeFunc_deep rfl n1 (gf := gf) (lb := lb) rfl trivial ef (hseq.out (m - 1) (by omega)) (fun _ => rfl)
    (fun pre V => ∃ ds : List (El (dropL R)), Hid (vals ds = (vals pre).flatMap (oneD R)) ∧ Hid (ds.length ≤ pre.length * (R.length + 1)) ∧ J ds V ∧ Blk V W.heap.size #[.func (.yield l) #[] #[]] 156)
    (fun c pre V => c = .ret ∧ ∃ ds : List (El (dropL R)), Hid (vals ds <+: (vals pre).flatMap (oneD R)) ∧ Jx ds V)
    (fun s A C hb hs => by
      obtain ⟨ds, h1, h2, h3, h4⟩ := hs
      exact ⟨ds, h1, h2, HJ.out _ _ _ (hb.mono (by omega)) h3, Blk.below hb (by omega) h4⟩)
    (fun c s A C hb hs => by
      obtain ⟨h0, ds, h1, h2⟩ := hs
      exact ⟨h0, ds, h1, HJx.out _ _ _ (hb.mono (by omega)) h2⟩)
    (fun s A hs => by obtain ⟨ds, h1, h2, h3, h4⟩ := hs; exact (HL.out _ _ h3).2)
    ⟨[], Lib.hid rfl, Lib.hid (by simp), HJ.out _ _ _ hB0 h0, kD⟩
    (fun x a' V V' => Blk V' V.heap.size (elCells x) 154 ∧ a' = { tmps := #[.func (.yield l) #[] #[], .pointer (some ⟨Bd, 0, none⟩), .pointer (some ⟨W.heap.size, 0, none⟩), .pointer (some ⟨V.heap.size, 0, none⟩), undef, .func (.func gf) #[] lb, .agg (elCells x), undef, undef, undef, undef, undef, undef, undef, undef, undef, undef, undef, undef, undef, undef, undef, undef, undef, undef, undef, undef, undef, undef, undef, undef, undef, undef, undef], defers := [] })
    ?assign
    (fun x a' V V' o hs hx => ⟨Blk.put o (by omega) hx.1, hx.2⟩)
    ?body ?done ?stop
  case assign =>
    intro pre x V K hI hsz hK
    dsimp only [elEnc]
    gi_wp2
    exact hK _ _ ((Below.refl _ V).alloc (Nat.le_refl _) _) ⟨Blk.new rfl, rfl⟩
  case done =>
    rintro D xs V hD hxs ⟨ds, h1, h2, h3, h4⟩ hK
    gi_wp2
    refine ⟨by simp, .inl ⟨_, _, rfl, run_takeDeferred hK, ?_⟩⟩
    refine ⟨_, results_none rfl _ _ _, ⟨_, rfl⟩, .inl ⟨ds, ?_, HJ.out _ _ _ (belowPut _ (by omega)) h3⟩⟩
    rw [h1.out, hxs]; rfl
  case stop =>
    rintro D c pre V hD hpre ⟨rfl, ds, h1, h2⟩ hK
    gi_wp2
    refine ⟨by simp, .inl ⟨_, _, rfl, run_takeDeferred hK, ?_⟩⟩
    refine ⟨_, results_none rfl _ _ _, ⟨_, rfl⟩, .inr ⟨ds, ?_, HJx.out _ _ _ (belowPut _ (by omega)) h2⟩⟩
    exact h1.out.trans (flat_prefix _ hpre)
  case body =>
    rintro pre ⟨⟨d, k, mm⟩, hx⟩ a' V1 V ⟨ds, h1, h2, h3, h4⟩ hsz ⟨hk3, rfl⟩ hV ⟨r0, hr0⟩ hlen
    dsimp only [elCells] at hk3 ⊢
    have n3 : 1 ≤ m - 1 - 1 := by omega
    have n5 : 1 ≤ m - 1 - 1 - 1 - 1 := by omega
    have hlr := (Array.getElem?_eq_some_iff.1 hr0).1
    have hk3l := hk3.lt
    obtain ⟨a3, b3⟩ := hk3.read
    obtain ⟨a4, b4⟩ := h4.read
    by_cases hd : d = 0
    · subst hd
      have hmem : ((0, k, mm) : Rl) ∈ dropL R := mem_dropL.2 (.inl ⟨hx, rfl⟩)
      have hN : ds.length < R.length * (R.length + 1) := len_alg hlen (by have := h2.out; omega)
      obtain ⟨fn, tmps, assign, body, hy, hR⟩ := HY.out ds ⟨_, hmem⟩ V h3 hN (by omega)
      dsimp only [elEnc] at hy
      gi_wp2
      refine (RoundIn.wideIn hR).mono ?_
      rintro e V2 (⟨rfl, hJ3, hA3⟩ | ⟨rfl, hJx3, hA3⟩)
      · clear hy a3 b3 a4 b4
        have HD1 : Hid (vals (ds ++ [(⟨(0, k, mm), hmem⟩ : El (dropL R))]) = (vals pre).flatMap (oneD R) ++ (if (0 : Int) = 0 then [(0, k, mm)] else [])) := Lib.hid (by rw [vals_snoc, h1.out]; rfl)
        have HD2 : Hid ((ds ++ [(⟨(0, k, mm), hmem⟩ : El (dropL R))]).length ≤ pre.length * (R.length + 1) + 1) := by have := h2.out; exact Lib.hid (by simp; omega)
        obtain ⟨es0, hes0⟩ : ∃ es0, ds ++ [(⟨(0, k, mm), hmem⟩ : El (dropL R))] = es0 := ⟨_, rfl⟩
        rw [hes0] at HD1 HD2 hJ3
        clear hes0
        obtain ⟨p0, p1⟩ := HL.out _ _ hJ3
        have yb := lt_of_cell p0
        have hs2 := hA3.size
        have k32 := Blk.above hA3 (show l < V1.heap.size by omega) hk3
        have k42 := Blk.above hA3 (show l < W.heap.size by omega) h4
        have hr2 : V2.heap[V0.heap.size + 1]? = some (.loop r0) := (hA3.block _ (by omega) hlr).trans hr0
        gi_wp2
        clear p0 p1
        refine wpIn_rangeFunc_deepN (l₀ := V0.heap.size + 1) (r₀ := r0) rfl hr2 n3 (gf := gf) (lb := lb) rfl trivial ef ((hseq.out (m - 1 - 1 - 1) (by omega)).inRound _) (fun _ => rfl)
          (fun pre2 V' => ∃ es : List (El (dropL R)), Hid (vals es = vals es0 ++ someD (0, k, mm) (vals pre2)) ∧ Hid (es.length ≤ es0.length + pre2.length) ∧ J es V' ∧ Blk V' W.heap.size #[.func (.yield l) #[] #[]] 156 ∧ Blk V' V1.heap.size #[.int .i64 0, .int .i64 k, .int .i64 mm] 154 ∧ Above l V2 V')
          (fun c pre2 V' => c = .ret ∧ ∃ es : List (El (dropL R)), Hid (vals es <+: vals es0 ++ someD (0, k, mm) (vals pre2)) ∧ Jx es V' ∧ Above l V2 V')
          (fun s A C hb hs => by
            obtain ⟨es, q1, q2, q3, q4, q5, q6⟩ := hs
            exact ⟨es, q1, q2, HJ.out _ _ _ (hb.mono (by omega)) q3, Blk.below hb (by omega) q4, Blk.below hb (by omega) q5, q6.firm hb (Nat.le_refl _)⟩)
          (fun c s A C hb hs => by
            obtain ⟨q0, es, q1, q2, q6⟩ := hs
            exact ⟨q0, es, q1, HJx.out _ _ _ (hb.mono (by omega)) q2, q6.firm hb (Nat.le_refl _)⟩)
          (fun s A hs => by obtain ⟨es, q1, q2, q3, q4⟩ := hs; exact (HL.out _ _ q3).2)
          ⟨es0, Lib.hid (by simp [someD, vals]), Lib.hid (by simp), hJ3, k42, k32, Above.refl _ _⟩
          (fun y a'' U U' => Blk U' U.heap.size (elCells y) 154 ∧ a'' = { tmps := #[.func (.yield l) #[] #[], .pointer (some ⟨Bd, 0, none⟩), .pointer (some ⟨W.heap.size, 0, none⟩), .pointer (some ⟨V1.heap.size, 0, none⟩), .pointer (some ⟨U.heap.size, 0, none⟩), .func (.func gf) #[] lb, .agg #[.int .i64 0, .int .i64 k, .int .i64 mm], .pointer (some ⟨V1.heap.size, 0, none⟩), .int .i64 0, .bool true, .bool true, .func (.yield l) #[] #[], .agg #[.int .i64 0, .int .i64 k, .int .i64 mm], .bool true, .bool false, .bool false, .func (.func gf) #[] lb, .agg (elCells y), undef, undef, undef, undef, undef, undef, undef, undef, undef, undef, undef, undef, undef, undef, undef, undef], defers := [] })
          ?assign2
          (fun x a' U U' o hs hx => ⟨Blk.put o (by omega) hx.1, hx.2⟩)
          ?body2 ?done2 ?stop2
        case assign2 =>
          intro pre2 y U K hI hsz2 hK
          dsimp only [elEnc]
          gi_wp2
          exact hK _ _ ((Below.refl _ U).alloc (Nat.le_refl _) _) ⟨Blk.new rfl, rfl⟩
        case done2 =>
          rintro xs V' hxs ⟨es, q1, q2, q3, q4, q5, q6⟩
          gi_wp2
          refine ⟨(q6.block _ (by omega) (by omega)).trans (hA3.block _ (by omega) hlr), (q6.block _ (by omega) (by omega)).trans (hA3.block _ (by omega) (by omega)), (hA3.trans q6).lift (by omega), es, Lib.hid ?_, Lib.hid ?_, q3, q4⟩
          · rw [q1.out, HD1.out, hxs, vals_snoc, List.flatMap_append, List.append_assoc]
            simp [oneD_eq]
          · have z1 := q2.out
            have z2 := HD2.out
            have z3 : xs.length = R.length := by rw [← vals_length xs, hxs]
            rw [List.length_append, List.length_singleton, Nat.add_mul, Nat.one_mul]
            omega
        case stop2 =>
          rintro c pre2 V' hpre2 ⟨rfl, es, q1, q2, q6⟩
          gi_wp2
          refine ⟨(q6.block _ (by omega) (by omega)).trans (hA3.block _ (by omega) hlr), (q6.block _ (by omega) (by omega)).trans (hA3.block _ (by omega) (by omega)), (hA3.trans q6).lift (by omega), rfl, es, Lib.hid ?_, q2⟩
          refine q1.out.trans ?_
          rw [HD1.out, vals_snoc, List.flatMap_append, List.append_assoc]
          refine (List.prefix_append_right_inj _).2 ?_
          simp only [List.flatMap_cons, List.flatMap_nil, List.append_nil, oneD_eq]
          exact (List.prefix_append_right_inj _).2 (someD_prefix hpre2)
        case body2 =>
          rintro pre2 ⟨⟨d2, k2, m2⟩, hy2⟩ a'' U1 U ⟨es, q1, q2, q3, q4, q5, q6⟩ hsz2 ⟨hk4, rfl⟩ hU ⟨r1, hr1⟩ hlen2
          dsimp only [elCells] at hk4 ⊢
          have hlr2 := (Array.getElem?_eq_some_iff.1 hr1).1
          have hsU := q6.size
          obtain ⟨a5, b5⟩ := q5.read
          obtain ⟨a6, b6⟩ := hk4.read
          obtain ⟨a7, b7⟩ := q4.read
          have hJd : J es U.drew := HJ.out _ _ _ (Below.drew (Below.refl _ _)) q3
          have c1' : decide ((0 : Int) < 0) = false := rfl
          have HS1 : Hid (vals es = vals es0 ++ someD ((0 : Int), k, mm) (vals (pre2 ++ [(⟨(d2, k2, m2), hy2⟩ : El R)]))) := Lib.hid (by rw [q1.out, vals_snoc, someD_snoc, if_neg (show ¬ (0 < (0 : Int) ∧ d2 < 0) by omega), List.append_nil])
          have HS2 : Hid (es.length ≤ es0.length + (pre2 ++ [(⟨(d2, k2, m2), hy2⟩ : El R)]).length) := Lib.hid (by have := q2.out; rw [List.length_append]; omega)
          gi_wp2
          gi_region_with_o (first | (refine ⟨trivial, ?_⟩) | (refine ⟨(fun f h => by cases h), ?_⟩))
          all_goals (gi_wp2; exact ⟨rfl, above_drew _ _, es, HS1, HS2, hJd, q4, q5, q6.trans (above_drew _ _)⟩)
      · clear hy
        gi_wp2
        refine ⟨hA3.block _ (by omega) hlr, hA3.block _ (by omega) (by omega), hA3.lift (by omega), rfl, _, Lib.hid ?_, hJx3⟩
        rw [vals_snoc, vals_snoc, h1.out, List.flatMap_append]
        simp [oneD]
    · have hde : (d == 0) = false := beq_false_of_ne hd
      have HD1 : Hid (vals ds = (vals pre).flatMap (oneD R) ++ (if d = 0 then [(d, k, mm)] else [])) := Lib.hid (by rw [if_neg hd, List.append_nil]; exact h1.out)
      have HD2 : Hid (ds.length ≤ pre.length * (R.length + 1) + 1) := by have := h2.out; exact Lib.hid (by omega)
      obtain ⟨es0, hes0⟩ : ∃ es0, ds = es0 := ⟨_, rfl⟩
      rw [hes0] at HD1 HD2 h3
      clear hes0 h1 h2
      have hA3 := Above.refl l V
      have hJ3 := h3
      obtain ⟨V2, hV2⟩ : ∃ V2, V2 = V := ⟨_, rfl⟩
      rw [← hV2] at hA3 hJ3
      subst hV2
      obtain ⟨p0, p1⟩ := HL.out _ _ hJ3
      have yb := lt_of_cell p0
      have hs2 := hA3.size
      have k32 := Blk.above hA3 (show l < V1.heap.size by omega) hk3
      have k42 := Blk.above hA3 (show l < W.heap.size by omega) h4
      have hr2 : V2.heap[V0.heap.size + 1]? = some (.loop r0) := (hA3.block _ (by omega) hlr).trans hr0
      gi_wp2
      refine ⟨(fun f h => by cases h), ?_⟩
      gi_wp2
      clear p0 p1
      refine wpIn_rangeFunc_deepN (l₀ := V0.heap.size + 1) (r₀ := r0) rfl hr2 n3 (gf := gf) (lb := lb) rfl trivial ef ((hseq.out (m - 1 - 1 - 1) (by omega)).inRound _) (fun _ => rfl)
        (fun pre2 V' => ∃ es : List (El (dropL R)), Hid (vals es = vals es0 ++ someD (d, k, mm) (vals pre2)) ∧ Hid (es.length ≤ es0.length + pre2.length) ∧ J es V' ∧ Blk V' W.heap.size #[.func (.yield l) #[] #[]] 156 ∧ Blk V' V1.heap.size #[.int .i64 d, .int .i64 k, .int .i64 mm] 154 ∧ Above l V2 V')
        (fun c pre2 V' => c = .ret ∧ ∃ es : List (El (dropL R)), Hid (vals es <+: vals es0 ++ someD (d, k, mm) (vals pre2)) ∧ Jx es V' ∧ Above l V2 V')
        (fun s A C hb hs => by
          obtain ⟨es, q1, q2, q3, q4, q5, q6⟩ := hs
          exact ⟨es, q1, q2, HJ.out _ _ _ (hb.mono (by omega)) q3, Blk.below hb (by omega) q4, Blk.below hb (by omega) q5, q6.firm hb (Nat.le_refl _)⟩)
        (fun c s A C hb hs => by
          obtain ⟨q0, es, q1, q2, q6⟩ := hs
          exact ⟨q0, es, q1, HJx.out _ _ _ (hb.mono (by omega)) q2, q6.firm hb (Nat.le_refl _)⟩)
        (fun s A hs => by obtain ⟨es, q1, q2, q3, q4⟩ := hs; exact (HL.out _ _ q3).2)
        ⟨es0, Lib.hid (by simp [someD, vals]), Lib.hid (by simp), hJ3, k42, k32, Above.refl _ _⟩
        (fun y a'' U U' => Blk U' U.heap.size (elCells y) 154 ∧ a'' = { tmps := #[.func (.yield l) #[] #[], .pointer (some ⟨Bd, 0, none⟩), .pointer (some ⟨W.heap.size, 0, none⟩), .pointer (some ⟨V1.heap.size, 0, none⟩), .pointer (some ⟨U.heap.size, 0, none⟩), .func (.func gf) #[] lb, .agg #[.int .i64 d, .int .i64 k, .int .i64 mm], .pointer (some ⟨V1.heap.size, 0, none⟩), .int .i64 d, .bool false, .bool false, undef, undef, undef, undef, .bool false, .func (.func gf) #[] lb, .agg (elCells y), undef, undef, undef, undef, undef, undef, undef, undef, undef, undef, undef, undef, undef, undef, undef, undef], defers := [] })
        ?assign2
        (fun x a' U U' o hs hx => ⟨Blk.put o (by omega) hx.1, hx.2⟩)
        ?body2 ?done2 ?stop2
      case assign2 =>
        intro pre2 y U K hI hsz2 hK
        dsimp only [elEnc]
        gi_wp2
        exact hK _ _ ((Below.refl _ U).alloc (Nat.le_refl _) _) ⟨Blk.new rfl, rfl⟩
      case done2 =>
        rintro xs V' hxs ⟨es, q1, q2, q3, q4, q5, q6⟩
        gi_wp2
        refine ⟨(q6.block _ (by omega) (by omega)).trans (hA3.block _ (by omega) hlr), (q6.block _ (by omega) (by omega)).trans (hA3.block _ (by omega) (by omega)), (hA3.trans q6).lift (by omega), es, Lib.hid ?_, Lib.hid ?_, q3, q4⟩
        · rw [q1.out, HD1.out, hxs, vals_snoc, List.flatMap_append, List.append_assoc]
          simp [oneD_eq]
        · have z1 := q2.out
          have z2 := HD2.out
          have z3 : xs.length = R.length := by rw [← vals_length xs, hxs]
          rw [List.length_append, List.length_singleton, Nat.add_mul, Nat.one_mul]
          omega
      case stop2 =>
        rintro c pre2 V' hpre2 ⟨rfl, es, q1, q2, q6⟩
        gi_wp2
        refine ⟨(q6.block _ (by omega) (by omega)).trans (hA3.block _ (by omega) hlr), (q6.block _ (by omega) (by omega)).trans (hA3.block _ (by omega) (by omega)), (hA3.trans q6).lift (by omega), rfl, es, Lib.hid ?_, q2⟩
        refine q1.out.trans ?_
        rw [HD1.out, vals_snoc, List.flatMap_append, List.append_assoc]
        refine (List.prefix_append_right_inj _).2 ?_
        simp only [List.flatMap_cons, List.flatMap_nil, List.append_nil, oneD_eq]
        exact (List.prefix_append_right_inj _).2 (someD_prefix hpre2)
      case body2 =>
        rintro pre2 ⟨⟨d2, k2, m2⟩, hy2⟩ a'' U1 U ⟨es, q1, q2, q3, q4, q5, q6⟩ hsz2 ⟨hk4, rfl⟩ hU ⟨r1, hr1⟩ hlen2
        dsimp only [elCells] at hk4 ⊢
        have hlr2 := (Array.getElem?_eq_some_iff.1 hr1).1
        have hsU := q6.size
        obtain ⟨a5, b5⟩ := q5.read
        obtain ⟨a6, b6⟩ := hk4.read
        obtain ⟨a7, b7⟩ := q4.read
        have hJd : J es U.drew := HJ.out _ _ _ (Below.drew (Below.refl _ _)) q3
        by_cases c1 : 0 < d
        · have c1' : decide (0 < d) = true := decide_eq_true c1
          by_cases c2 : d2 < 0
          · have c2' : decide (d2 < 0) = true := decide_eq_true c2
            have hmem : woR (d, k, mm) (d2, k2, m2) ∈ dropL R := mem_dropL.2 (.inr ⟨_, hx, _, hy2, c1, c2, rfl⟩)
            have hN : es.length < R.length * (R.length + 1) := len_alg hlen (by have z1 := q2.out; have z2 := HD2.out; omega)
            obtain ⟨e1, e2, e3, e4, e5, e6⟩ := hok.out _ hx _ hy2 c1 c2
            dsimp only at e1 e2 e3 e4 e5 e6
            have HWo := Lib.hid (without_any d k mm d2 k2 m2 _ _ · e1 e2 e3 e4 e5 e6)
            clear e1 e2 e3 e4 e5 e6
            gi_wp2
            gi_region_with_o (first
              | ((try (refine ⟨trivial, ?_⟩)); gi_at_call 122; refine (CallsIn.inRound _ (CallsIn.inRound _ (callsIn_wide.2 (HWo.out _)))).mono ?_; rintro e U3 ⟨rfl, hb⟩; (have hAU : Above l U U3 := (above_drew l U).trans (Above.of_below hb)); (have hJ4 : J es U3 := HJ.out _ _ _ (hb.mono (by simp; omega)) hJd); (have w4 := Blk.above hAU (by omega) q4); obtain ⟨z7, y7⟩ := w4.read; (have w5 := Blk.above hAU (by omega) q5); obtain ⟨z5, y5⟩ := w5.read; (have w6 := Blk.above hAU (by omega) hk4); obtain ⟨z6, y6⟩ := w6.read; (have hs3 := hAU.size); obtain ⟨fn2, tmps2, assign2, body2, hy3, hR3⟩ := HY.out es ⟨_, hmem⟩ U3 hJ4 hN (by omega); dsimp only [elEnc, woR] at hy3; (have hR4 := hR3.mono (R' := fun e W' => ∃ gq, e = .returned (.bool gq) ∧ ((gq = true ∧ J (es ++ [(⟨_, hmem⟩ : El (dropL R))]) W' ∧ Above l U3 W') ∨ (gq = false ∧ Jx (es ++ [(⟨_, hmem⟩ : El (dropL R))]) W' ∧ Above l U3 W'))) (by rintro e W' (⟨rfl, hh⟩ | ⟨rfl, hh⟩); exact ⟨true, rfl, .inl ⟨rfl, hh⟩⟩; exact ⟨false, rfl, .inr ⟨rfl, hh⟩⟩)); clear hR3)
              | (refine (RoundIn.wideIn2 hR4).mono ?_; rintro e U4 ⟨gq, rfl, hW4⟩))
            all_goals
              rcases hW4 with ⟨rfl, hJ5, hA5⟩ | ⟨rfl, hJx5, hA5⟩
              · gi_wp2
                exact ⟨(hA5.block _ (by omega) (by omega)).trans (hAU.block _ (by omega) hlr2), (hAU.trans hA5).lift (by omega), _, Lib.hid (by rw [vals_snoc, vals_snoc, q1.out, someD_snoc, if_pos (show 0 < d ∧ d2 < 0 from ⟨c1, c2⟩), List.append_assoc]), Lib.hid (by have := q2.out; rw [List.length_append, List.length_append]; simp; omega), hJ5, Blk.above (hAU.trans hA5) (by omega) q4, Blk.above (hAU.trans hA5) (by omega) q5, q6.trans (hAU.trans hA5)⟩
              · gi_wp2
                exact ⟨(hA5.block _ (by omega) (by omega)).trans (hAU.block _ (by omega) hlr2), (hAU.trans hA5).lift (by omega), rfl, _, Lib.hid (by rw [vals_snoc, vals_snoc, q1.out, someD_snoc, if_pos (show 0 < d ∧ d2 < 0 from ⟨c1, c2⟩), List.append_assoc]; exact List.prefix_refl _), hJx5, q6.trans (hAU.trans hA5)⟩
          · have c2' : decide (d2 < 0) = false := decide_eq_false c2
            have HS1 : Hid (vals es = vals es0 ++ someD (d, k, mm) (vals (pre2 ++ [(⟨(d2, k2, m2), hy2⟩ : El R)]))) := Lib.hid (by rw [q1.out, vals_snoc, someD_snoc, if_neg (show ¬ (0 < d ∧ d2 < 0) by omega), List.append_nil])
            have HS2 : Hid (es.length ≤ es0.length + (pre2 ++ [(⟨(d2, k2, m2), hy2⟩ : El R)]).length) := Lib.hid (by have := q2.out; rw [List.length_append]; omega)
            gi_wp2
            gi_region_with_o (first | (refine ⟨trivial, ?_⟩) | (refine ⟨(fun f h => by cases h), ?_⟩))
            all_goals (gi_wp2; exact ⟨rfl, above_drew _ _, es, HS1, HS2, hJd, q4, q5, q6.trans (above_drew _ _)⟩)
        · have c1' : decide (0 < d) = false := decide_eq_false c1
          have HS1 : Hid (vals es = vals es0 ++ someD (d, k, mm) (vals (pre2 ++ [(⟨(d2, k2, m2), hy2⟩ : El R)]))) := Lib.hid (by rw [q1.out, vals_snoc, someD_snoc, if_neg (show ¬ (0 < d ∧ d2 < 0) by omega), List.append_nil])
          have HS2 : Hid (es.length ≤ es0.length + (pre2 ++ [(⟨(d2, k2, m2), hy2⟩ : El R)]).length) := Lib.hid (by have := q2.out; rw [List.length_append]; omega)
          gi_wp2
          gi_region_with_o (first | (refine ⟨trivial, ?_⟩) | (refine ⟨(fun f h => by cases h), ?_⟩))
          all_goals (gi_wp2; exact ⟨rfl, above_drew _ _, es, HS1, HS2, hJd, q4, q5, q6.trans (above_drew _ _)⟩)
end Go.Proofs.Ytbdcmdofmokoeaa
/-
  More of rational numbers: what Make makes.
-/
namespace Go.Proofs.Ytbdcmdofmokoeaa
theorem mkR_self (q : Rat) : mkR (fn q) (fd q) = q := by
  unfold mkR fn fd; exact Rat.num_divInt_den q
theorem mkR_fits' (n d : Int) (d0 : d ≠ 0) (d1 : -4611686018427387903 ≤ d) (d2 : d ≤ 4611686018427387903) (n1 : -4611686018427387903 ≤ n) (n2 : n ≤ 4611686018427387903) : fits (mkR n d) := by
  obtain ⟨g, hg⟩ : ∃ g, g = gcdI (n.natAbs : Int) (d.natAbs : Int) := ⟨_, rfl⟩
  obtain ⟨p1, p2⟩ := mkR_parts n d g d0 hg
  have g1 : 0 < g := by rw [hg]; exact gcdI_pos_right _ _ (by omega)
  have a0 := Int.ediv_nonneg (show 0 ≤ (n.natAbs : Int) by omega) (show 0 ≤ g by omega)
  have a1 := Int.ediv_le_self g (show 0 ≤ (n.natAbs : Int) by omega)
  have b1 := Int.ediv_le_self g (show 0 ≤ (d.natAbs : Int) by omega)
  unfold fits
  rw [p1, p2]
  have sn : n.sign = -1 ∨ n.sign = 0 ∨ n.sign = 1 := by
    rcases Int.lt_trichotomy n 0 with h | h | h
    · exact .inl (Int.sign_eq_neg_one_of_neg h)
    · subst h; exact .inr (.inl rfl)
    · exact .inr (.inr (Int.sign_eq_one_of_pos h))
  have sd : d.sign = -1 ∨ d.sign = 1 := by
    rcases Int.lt_trichotomy d 0 with h | h | h
    · exact .inl (Int.sign_eq_neg_one_of_neg h)
    · exact absurd h d0
    · exact .inr (Int.sign_eq_one_of_pos h)
  rcases sn with h | h | h <;> rcases sd with k | k <;> rw [h, k] <;> omega
end Go.Proofs.Ytbdcmdofmokoeaa
/-
  Layer 4: the span of the numbers that rules leave (mathematics).
-/
namespace Go.Proofs.Ytbdcmdofmokoeaa
open Go.RowKit

def MX : Rat := ((4611686018427387903 : Int) : Rat)
def limI (r : Rl) : Option (Rat × Rat) := if 0 < r.2.1 then some (-MX, mkR r.2.2 r.2.1) else if r.2.1 < 0 then some (mkR r.2.2 r.2.1, MX) else if r.2.2 < 0 then none else some (-MX, MX)
def meetI (p q : Rat × Rat) : Option (Rat × Rat) := if hiQ p.1 [q.1] ≤ loQ p.2 [q.2] then some (hiQ p.1 [q.1], loQ p.2 [q.2]) else none
def stepI (s : Option (Rat × Rat)) (r : Rl) : Option (Rat × Rat) := match s, limI r with
  | some p, some q => meetI p q
  | _, _ => none
def solveI (D : List Rl) : Option (Rat × Rat) := D.foldl stepI (some (-MX, MX))
theorem solveI_snoc (D : List Rl) (r : Rl) : solveI (D ++ [r]) = stepI (solveI D) r := by unfold solveI; rw [List.foldl_append]; rfl
theorem stepI_none (r : Rl) : stepI none r = none := rfl
theorem foldl_none (D : List Rl) : D.foldl stepI none = none := by
  induction D with
  | nil => rfl
  | cons r D ih => rw [List.foldl_cons, stepI_none, ih]
theorem solveI_prefix {A B : List Rl} (h : A <+: B) (hn : solveI A = none) : solveI B = none := by
  obtain ⟨C, rfl⟩ := h
  unfold solveI at *
  rw [List.foldl_append, hn, foldl_none]
/-- Numbers that Make takes. -/
def RB (r : Rl) : Prop := (-4611686018427387903 ≤ r.2.1 ∧ r.2.1 ≤ 4611686018427387903) ∧ (-4611686018427387903 ≤ r.2.2 ∧ r.2.2 ≤ 4611686018427387903)
def SatM (D : List Rl) (v : Rat) : Prop := (-MX ≤ v ∧ v ≤ MX) ∧ satV D v

theorem fits_MX : fits MX ∧ fits (-MX) ∧ fn MX = 4611686018427387903 ∧ fd MX = 1 ∧ fn (-MX) = -4611686018427387903 ∧ fd (-MX) = 1 := by
  have a : fn MX = 4611686018427387903 := by unfold MX fn; rfl
  have b : fd MX = 1 := by unfold MX fd; rfl
  have c : fn (-MX) = -4611686018427387903 := by unfold MX fn; rfl
  have d : fd (-MX) = 1 := by unfold MX fd; rfl
  refine ⟨?_, ?_, a, b, c, d⟩
  · unfold fits; rw [a, b]; decide
  · unfold fits; rw [c, d]; decide
theorem mkR_q (a b : Int) : mkR a b = (a : Rat) / (b : Rat) := Rat.divInt_eq_div a b
theorem fits_range {q : Rat} (h : fits q) : -MX ≤ q ∧ q ≤ MX := by
  obtain ⟨h1, h2, h3⟩ := h
  have hq : q = (fn q : Rat) / (fd q : Rat) := by rw [← mkR_q]; exact (mkR_self q).symm
  have d1 : (1 : Rat) ≤ (fd q : Rat) := by
    have : (1 : Int) ≤ fd q := by unfold fd; have := q.den_pos; omega
    exact_mod_cast this
  obtain ⟨n, hn⟩ : ∃ n : Rat, (fn q : Rat) = n := ⟨_, rfl⟩
  obtain ⟨d, hd⟩ : ∃ d : Rat, (fd q : Rat) = d := ⟨_, rfl⟩
  have n1 : -MX ≤ n := by rw [← hn]; have := Rat.intCast_le_intCast.2 h1; rwa [Rat.intCast_neg] at this
  have n2 : n ≤ MX := by rw [← hn]; exact Rat.intCast_le_intCast.2 h2
  have m0 : 0 ≤ MX := by unfold MX; decide
  rw [hn, hd] at hq
  rw [hd] at d1
  have dne : d ≠ 0 := by grind
  have dp : 0 < d := by grind
  obtain ⟨i, hi⟩ : ∃ i, d⁻¹ = i := ⟨_, rfl⟩
  have ip : 0 < i := by rw [← hi]; exact Rat.inv_pos.2 dp
  have e1 : d * i = 1 := by rw [← hi]; exact Rat.mul_inv_cancel _ dne
  have e2 : q = n * i := by rw [hq, Rat.div_def, hi]
  have i1 : i ≤ 1 := by have := mulL d1 (c := i) (Rat.le_of_lt ip); grind
  have t1 := mulL n1 (c := i) (Rat.le_of_lt ip)
  have t2 := mulL n2 (c := i) (Rat.le_of_lt ip)
  have t3 := mulR i1 m0
  rw [e2]
  constructor <;> grind
theorem div_spec {k m : Int} (hk : k ≠ 0) : mkR m k * (k : Rat) = (m : Rat) := by
  rw [mkR_q]; exact Rat.div_mul_cancel (by exact_mod_cast hk)
theorem lim_spec {r : Rl} (hb : RB r) : (∀ l h, limI r = some (l, h) → fits l ∧ fits h ∧ l ≤ h ∧ ∀ v, -MX ≤ v → v ≤ MX → ((l ≤ v ∧ v ≤ h) ↔ (r.2.1 : Rat) * v ≤ (r.2.2 : Rat))) ∧
    (limI r = none → ∀ v : Rat, ¬ (r.2.1 : Rat) * v ≤ (r.2.2 : Rat)) := by
  obtain ⟨d, k, m⟩ := r
  obtain ⟨⟨k1, k2⟩, m1, m2⟩ := hb
  obtain ⟨f1, f2, -⟩ := fits_MX
  dsimp only at *
  rcases Int.lt_trichotomy k 0 with c | c | c
  · have e : limI (d, k, m) = some (mkR m k, MX) := by unfold limI; rw [if_neg (by dsimp only; omega), if_pos c]
    have hf := mkR_fits' m k (by omega) k1 k2 m1 m2
    have hs := div_spec (m := m) (show k ≠ 0 by omega)
    have c' : (k : Rat) < 0 := by exact_mod_cast c
    rw [e]
    refine ⟨?_, fun h => by cases h⟩
    intro l h hh
    cases hh
    refine ⟨hf, f1, (fits_range hf).2, fun v v1 v2 => ?_⟩
    obtain ⟨x, hx⟩ : ∃ x, mkR m k = x := ⟨_, rfl⟩
    rw [hx] at hs ⊢
    constructor
    · rintro ⟨h1, -⟩
      have := mulRn (c := (k : Rat)) h1 (Rat.le_of_lt c')
      grind
    · intro h
      refine ⟨?_, v2⟩
      rcases Rat.le_total (a := x) (b := v) with q | q
      · exact q
      · have := mulRn (c := (k : Rat)) q (Rat.le_of_lt c')
        have e2 : (k : Rat) * v = (k : Rat) * x := by grind
        have : v = x := by
          have e3 : (k : Rat)⁻¹ * ((k : Rat) * v) = (k : Rat)⁻¹ * ((k : Rat) * x) := by rw [e2]
          rw [← Rat.mul_assoc, ← Rat.mul_assoc, Rat.inv_mul_cancel _ (by grind), Rat.one_mul, Rat.one_mul] at e3
          exact e3
        rw [this]; exact Rat.le_refl
  · subst c
    have z : ((0 : Int) : Rat) = 0 := rfl
    by_cases hm : m < 0
    · have e : limI (d, 0, m) = none := by unfold limI; rw [if_neg (by dsimp only; omega), if_neg (by dsimp only; omega), if_pos hm]
      rw [e]
      refine ⟨(fun l h hh => by cases hh), fun _ v hv => ?_⟩
      rw [z, Rat.zero_mul] at hv
      have : (m : Rat) < 0 := by exact_mod_cast hm
      grind
    · have e : limI (d, 0, m) = some (-MX, MX) := by unfold limI; rw [if_neg (by dsimp only; omega), if_neg (by dsimp only; omega), if_neg hm]
      rw [e]
      refine ⟨?_, fun h => by cases h⟩
      intro l h hh
      cases hh
      refine ⟨f2, f1, by unfold MX; decide, fun v v1 v2 => ⟨fun _ => ?_, fun _ => ⟨v1, v2⟩⟩⟩
      rw [z, Rat.zero_mul]
      exact_mod_cast (show (0 : Int) ≤ m by omega)
  · have e : limI (d, k, m) = some (-MX, mkR m k) := by unfold limI; rw [if_pos c]
    have hf := mkR_fits' m k (by omega) k1 k2 m1 m2
    have hs := div_spec (m := m) (show k ≠ 0 by omega)
    have c' : (0 : Rat) < (k : Rat) := by exact_mod_cast c
    rw [e]
    refine ⟨?_, fun h => by cases h⟩
    intro l h hh
    cases hh
    refine ⟨f2, hf, (fits_range hf).1, fun v v1 v2 => ?_⟩
    obtain ⟨x, hx⟩ : ∃ x, mkR m k = x := ⟨_, rfl⟩
    rw [hx] at hs ⊢
    constructor
    · rintro ⟨-, h1⟩
      have := mulR (c := (k : Rat)) h1 (Rat.le_of_lt c')
      grind
    · intro h
      refine ⟨v1, ?_⟩
      rcases Rat.le_total (a := v) (b := x) with q | q
      · exact q
      · have := mulR (c := (k : Rat)) q (Rat.le_of_lt c')
        have e2 : (k : Rat) * v = (k : Rat) * x := by grind
        have : v = x := by
          have e3 : (k : Rat)⁻¹ * ((k : Rat) * v) = (k : Rat)⁻¹ * ((k : Rat) * x) := by rw [e2]
          rw [← Rat.mul_assoc, ← Rat.mul_assoc, Rat.inv_mul_cancel _ (by grind), Rat.one_mul, Rat.one_mul] at e3
          exact e3
        rw [this]; exact Rat.le_refl
theorem solve_spec : ∀ (n : Nat) (D : List Rl), D.length = n → (∀ r ∈ D, RB r) → (∀ L H, solveI D = some (L, H) → fits L ∧ fits H ∧ L ≤ H ∧ ∀ v, (L ≤ v ∧ v ≤ H) ↔ SatM D v) ∧ (solveI D = none → ∀ v, ¬ SatM D v)
  | 0, D, hD, _ => by
    obtain rfl : D = [] := List.length_eq_zero_iff.1 hD
    obtain ⟨f1, f2, -⟩ := fits_MX
    refine ⟨?_, fun h => by cases h⟩
    intro L H h
    cases h
    exact ⟨f2, f1, by unfold MX; decide, fun v => ⟨fun h => ⟨h, fun r hr => by cases hr⟩, fun h => h.1⟩⟩
  | n + 1, D, hD, hb => by
    obtain ⟨E, r, rfl⟩ : ∃ E r, D = E ++ [r] := ⟨D.dropLast, D.getLast (by intro h; rw [h] at hD; cases hD), (List.dropLast_concat_getLast _).symm⟩
    obtain ⟨i1, i2⟩ := solve_spec n E (by simpa using hD) (fun x hx => hb x (by simp [hx]))
    obtain ⟨l1, l2⟩ := lim_spec (hb r (by simp))
    have hS : ∀ v, SatM (E ++ [r]) v ↔ SatM E v ∧ (r.2.1 : Rat) * v ≤ (r.2.2 : Rat) := fun v => by
      unfold SatM satV
      simp only [List.mem_append, List.mem_singleton]
      constructor
      · rintro ⟨h1, h2⟩; exact ⟨⟨h1, fun x hx => h2 x (.inl hx)⟩, h2 r (.inr rfl)⟩
      · rintro ⟨⟨h1, h2⟩, h3⟩; exact ⟨h1, fun x hx => by rcases hx with hx | rfl; exact h2 x hx; exact h3⟩
    rw [solveI_snoc]
    cases hE : solveI E with
    | none =>
      refine ⟨fun L H h => (by rw [stepI_none] at h; cases h), fun _ v hv => i2 hE v ((hS v).1 hv).1⟩
    | some p =>
      obtain ⟨L, H⟩ := p
      obtain ⟨a1, a2, a3, a4⟩ := i1 L H hE
      cases hL : limI r with
      | none =>
        have : stepI (some (L, H)) r = none := by unfold stepI; rw [hL]
        rw [this]
        exact ⟨(fun L H h => by cases h), fun _ v hv => l2 hL v ((hS v).1 hv).2⟩
      | some q =>
        obtain ⟨l, h⟩ := q
        obtain ⟨b1, b2, b3, b4⟩ := l1 l h hL
        have e : stepI (some (L, H)) r = meetI (L, H) (l, h) := by unfold stepI; rw [hL]
        rw [e]
        have hv : ∀ v, SatM (E ++ [r]) v ↔ (hiQ L [l] ≤ v ∧ v ≤ loQ H [h]) := fun v => by
          rw [hS v, ← a4 v, hi1, lo1]
          constructor
          · rintro ⟨⟨c1, c2⟩, c3⟩
            have := ((a4 v).1 ⟨c1, c2⟩).1
            have := (b4 v this.1 this.2).2 c3
            exact ⟨⟨c1, this.1⟩, c2, this.2⟩
          · rintro ⟨⟨c1, c2⟩, c3, c4⟩
            have := ((a4 v).1 ⟨c1, c3⟩).1
            exact ⟨⟨c1, c3⟩, (b4 v this.1 this.2).1 ⟨c2, c4⟩⟩
        have fL : fits (hiQ L [l]) := hiQ_fits L a1 [l] (by intro x hx; simp at hx; subst hx; exact b1)
        have fH : fits (loQ H [h]) := loQ_fits H a2 [h] (by intro x hx; simp at hx; subst hx; exact b2)
        unfold meetI
        dsimp only
        by_cases c : hiQ L [l] ≤ loQ H [h]
        · rw [if_pos c]
          refine ⟨fun L' H' hh => ?_, fun hh => by cases hh⟩
          cases hh
          exact ⟨fL, fH, c, fun v => (hv v).symm⟩
        · rw [if_neg c]
          refine ⟨(fun L' H' hh => by cases hh), fun _ v hvv => ?_⟩
          have := (hv v).1 hvv
          exact c (Rat.le_trans this.1 this.2)
end Go.Proofs.Ytbdcmdofmokoeaa
/-
  Layer 4: the span of the numbers that rules leave, by the code.
-/
namespace Go.Proofs.Ytbdcmdofmokoeaa
open Go.RowKit Go.Shelf
set_option linter.unusedVariables false
set_option linter.unusedSimpArgs false

attribute [local go_sem] Oper.semAt_some

def lz : Array Value := #[.int .i64 0, .int .i64 0, .int .i64 0, .int .i64 0]
def spC (p : Rat × Rat) : Array Value := #[.int .i64 (fn p.1), .int .i64 (fd p.1), .int .i64 (fn p.2), .int .i64 (fd p.2)]
/-- What the code says of a span that may be missing. -/
def soV (s : Option (Rat × Rat)) : Value := match s with
  | some p => .tuple #[.agg (spC p), .int .i64 0]
  | none => .tuple #[.agg lz, .int .i64 6]
theorem make_q' (n d : Int) (d0 : d ≠ 0) (d1 : -4611686018427387903 ≤ d) (d2 : d ≤ 4611686018427387903) (n1 : -4611686018427387903 ≤ n) (n2 : n ≤ 4611686018427387903) (w : World) :
    Calls Try.prog 81 #[.int .i64 n, .int .i64 d] w fun e w' => e = .returned (.tuple #[.agg #[.int .i64 (fn (mkR n d)), .int .i64 (fd (mkR n d))], .int .i64 0]) ∧ Below w.heap.size w w' := by
  have h := make_q n d w (by omega) (by omega) (by omega) (by omega) d0
  have f := mkR_fits' n d d0 d1 d2 n1 n2
  rw [rn_yes f, rd_yes f, re_yes f] at h
  exact h
theorem limit_q (r : Rl) (hb : RB r) (w : World) :
    Calls Try.prog 112 #[.agg #[.int .i64 r.1, .int .i64 r.2.1, .int .i64 r.2.2]] w fun e w' => e = .returned (soV (limI r)) ∧ Below w.heap.size w w' := by
  obtain ⟨d, k, m⟩ := r
  obtain ⟨⟨k1, k2⟩, m1, m2⟩ := hb
  obtain ⟨-, -, q1, q2, q3, q4⟩ := fits_MX
  dsimp only at *
  by_cases c1 : 0 < k
  · have e : limI (d, k, m) = some (-MX, mkR m k) := if_pos c1
    rw [e]
    refine limit_walk d k m (fn (mkR m k)) (fd (mkR m k)) 0 _ 0 w (Lib.hid (make_q' m k (by omega) k1 k2 m1 m2)) (.inl ⟨c1, ?_, rfl⟩)
    simp only [spC, q3, q4]
  · by_cases c2 : k < 0
    · have e : limI (d, k, m) = some (mkR m k, MX) := by unfold limI; rw [if_neg c1, if_pos c2]
      rw [e]
      refine limit_walk d k m (fn (mkR m k)) (fd (mkR m k)) 0 _ 0 w (Lib.hid (make_q' m k (by omega) k1 k2 m1 m2)) (.inr (.inl ⟨c2, ?_, rfl⟩))
      simp only [spC, q1, q2]
    · obtain rfl : k = 0 := by omega
      have HM : ∃ A B E : Int, ∀ w : World, Calls Try.prog 81 #[.int .i64 m, .int .i64 0] w fun e w' => e = .returned (.tuple #[.agg #[.int .i64 A, .int .i64 B], .int .i64 E]) ∧ Below w.heap.size w w' := ⟨0, 0, 10, fun w => make_zero m w⟩
      obtain ⟨A, B, E, HM⟩ := HM
      by_cases c3 : m < 0
      · have e : limI (d, 0, m) = none := by unfold limI; rw [if_neg c1, if_neg c2, if_pos c3]
        rw [e]
        exact limit_walk d 0 m A B E _ 6 w (Lib.hid HM) (.inr (.inr (.inl ⟨rfl, c3, rfl, rfl⟩)))
      · have e : limI (d, 0, m) = some (-MX, MX) := by unfold limI; rw [if_neg c1, if_neg c2, if_neg c3]
        rw [e]
        refine limit_walk d 0 m A B E _ 0 w (Lib.hid HM) (.inr (.inr (.inr ⟨rfl, by omega, ?_, rfl⟩)))
        simp only [spC, q1, q2, q3, q4]
/-- What two valid spans share. -/
theorem meet_so (l h m n : Rat) (fl : fits l) (fh : fits h) (fm : fits m) (fn' : fits n) (hlh : l ≤ h) (hmn : m ≤ n) :
    ∃ A B C D E : Int, (∀ w, Calls Try.prog 46 #[.agg (spC (l, h)), .agg (spC (m, n))] w fun e w' => e = .returned (.tuple #[.agg #[.int .i64 A, .int .i64 B, .int .i64 C, .int .i64 D], .int .i64 E]) ∧ Below w.heap.size w w') ∧
      ((E = 6 ∧ meetI (l, h) (m, n) = none) ∨ (E = 0 ∧ ∃ p, meetI (l, h) (m, n) = some p ∧ #[.int .i64 A, .int .i64 B, .int .i64 C, .int .i64 D] = spC p)) := by
  obtain ⟨A, B, C, D, E, h1, h2⟩ := meet_q l h m n fl fh fm fn' hlh hmn
  refine ⟨A, B, C, D, E, h1, ?_⟩
  rcases h2 with ⟨rfl, hn⟩ | ⟨rfl, hy, rfl, rfl, rfl, rfl⟩
  · exact .inl ⟨rfl, if_neg hn⟩
  · exact .inr ⟨rfl, _, if_pos hy, rfl⟩
set_option maxHeartbeats 1000000 in
theorem dropped_any (g : Nat) (cap : Array Value) (w : World) :
    Calls Try.prog 111 #[.func (.func g) #[] cap] w fun e w' => e = .returned (.func (.func 121) #[] #[.pointer (some ⟨w.heap.size, 0, none⟩)]) ∧ w' = w.alloc (.cells #[.func (.func g) #[] cap] 126) := by
  go_enter Try.func111, Try.ntmps111
  go_wp2
  go_ret
  exact ⟨rfl, rfl⟩
end Go.Proofs.Ytbdcmdofmokoeaa
/-
  Layer 4: the span of the numbers that rules leave, by the code: the walk.
-/
namespace Go.Proofs.Ytbdcmdofmokoeaa
open Go.RowKit Go.Shelf
set_option linter.unusedVariables false
set_option linter.unusedSimpArgs false

attribute [local go_sem] Oper.semAt_some

theorem heap_set {A : World} {b i k : Nat} {v : Value} (h : k ≠ b) : (A.setCell ⟨b, i, none⟩ v).heap[k]? = A.heap[k]? := by
  unfold World.setCell
  dsimp only
  rw [Array.getElem?_modify]
  simp [Ne.symm h]
theorem size_set {A : World} {b i : Nat} {v : Value} : (A.setCell ⟨b, i, none⟩ v).heap.size = A.heap.size := by unfold World.setCell; simp
theorem Above.set {l b i : Nat} {A C : World} {v : Value} (hb : b ≤ l) (h : Above l C A) : Above l C (A.setCell ⟨b, i, none⟩ v) :=
  ⟨h.os, h.tape, h.output, by rw [size_set]; exact h.size, fun k hk hs => (heap_set (by omega)).trans (h.block k hk hs)⟩
theorem solveI_vals {R : List Rl} (pre : List (El R)) (x : El R) : solveI (vals (pre ++ [x])) = stepI (solveI (vals pre)) x.1 := by rw [vals_snoc, solveI_snoc]

set_option maxRecDepth 100000 in
set_option maxHeartbeats 8000000 in
theorem solve_in (gf : Nat) (lb : Array Value) (R : List Rl) (LayR : World → Prop) (w : World)
    (ef : ∀ args w, (callFunc gf args).run Try.prog w = .ok (.enter gf args) w)
    (hLR : Hid (∀ A C, Below w.heap.size A C → LayR A → LayR C)) (hL0 : LayR w)
    (hseq : Hid (∀ m', 1 ≤ m' → SeqDeep Fence.wide m' Try.prog gf lb (elEnc (R := R)) LayR (fun xs => vals xs = R) (fun pre => vals pre <+: R) R.length))
    (hok : Hid (∀ a ∈ R, ∀ b ∈ R, 0 < a.1 → b.1 < 0 → WoOk a b)) (hRB : Hid (∀ r ∈ dropL R, RB r)) :
    CallsIn Fence.wide 20 Try.prog 87 #[.func (.func gf) #[] lb] w fun e w' => e = .returned (soV (solveI (dropL R))) ∧ Below w.heap.size w w' := by
  have HE := Lib.hid everything_any
  have hL0 := Lib.hid hL0
  have hmx : Try.prog.follows .mixedOrders = true := by kernel_rfl
  refine callsIn_of_wp_marks Try.func87 rfl trivial ?_ rfl
  simp only [Try.ntmps87, List.size_toArray, List.length_cons, List.length_nil, Nat.reduceAdd, Nat.reduceSub, Array.replicate_succ, Array.replicate_zero, List.push_toArray, List.append_toArray, List.nil_append, List.cons_append]
  gi_wp2_with (first
    | ((try (refine ⟨trivial, ?_⟩)); gi_at_call 90; refine (callsIn_wide.2 (HE.out _)).mono ?_; rintro e wE ⟨rfl, hb⟩; (have k2 : Blk wE w.heap.size #[.int .i64 0, .int .i64 0, .int .i64 0, .int .i64 0] 35 := Blk.later hb (by (repeat' (first | (with_reducible assumption) | (with_reducible refine Blk.set2 ?_) | ((with_reducible refine Blk.new ?_); first | rfl | (simp; done)) | (with_reducible refine Blk.later (by assumption) ?_) | (with_reducible refine Blk.alloc ?_) | (with_reducible refine Blk.drewN ?_) | (with_reducible refine Blk.drew ?_) | (with_reducible refine Blk.other ?_ (by first | omega | (simp; done) | (simp; omega))))))); (have k3 : Blk wE (w.heap.size + 1) #[.int .i64 0] 24 := Blk.later hb (by (repeat' (first | (with_reducible assumption) | (with_reducible refine Blk.set2 ?_) | ((with_reducible refine Blk.new ?_); first | rfl | (simp; done)) | (with_reducible refine Blk.later (by assumption) ?_) | (with_reducible refine Blk.alloc ?_) | (with_reducible refine Blk.drewN ?_) | (with_reducible refine Blk.drew ?_) | (with_reducible refine Blk.other ?_ (by first | omega | (simp; done) | (simp; omega))))))); (have hBE : Below w.heap.size w wE := by (repeat' (first | (with_reducible exact Below.refl _ _) | (with_reducible assumption) | (with_reducible refine belowThru ?_ (by assumption)) | (with_reducible refine belowAlloc ?_) | (with_reducible refine Below.setCell ?_ (by first | omega | (simp; done) | (simp; omega)) _) | (with_reducible refine Below.drew ?_) | (with_reducible refine below_drewN ?_ _)))); clear hb)
    | ((try (refine ⟨trivial, ?_⟩)); gi_at_call 111; refine (callsIn_wide.2 (dropped_any _ _ _)).mono ?_; rintro e w' ⟨rfl, rfl⟩))
  have hk3 := k3.lt
  obtain ⟨V0, hV0⟩ : ∃ V0, (wE.alloc (.cells #[.int .i64 (-4611686018427387903), .int .i64 1, .int .i64 4611686018427387903, .int .i64 1] 35)).alloc (.cells #[.func (.func gf) #[] lb] 126) = V0 := ⟨_, rfl⟩
  have kS : Blk V0 wE.heap.size #[.int .i64 (-4611686018427387903), .int .i64 1, .int .i64 4611686018427387903, .int .i64 1] 35 := by rw [← hV0]; exact Blk.alloc (Blk.new rfl)
  have kd : Blk V0 (wE.heap.size + 1) #[.func (.func gf) #[] lb] 126 := by rw [← hV0]; exact Blk.new (by simp)
  have hB0 : Below wE.heap.size wE V0 := by rw [← hV0]; exact ((Below.refl _ wE).alloc (Nat.le_refl _) _).alloc (by simp) _
  have hz0 : V0.heap.size = wE.heap.size + 2 := by rw [← hV0]; simp
  have hBw : Below w.heap.size w V0 := hBE.trans (hB0.mono hBE.size)
  replace k2 := Blk.later hB0 k2
  replace k3 := Blk.later hB0 k3
  have hLV : LayR V0 := hLR.out _ _ hBw hL0.out
  have hsE := hBE.size
  rw [hV0]
  clear hV0
  obtain ⟨-, -, u1, u2, u3, u4⟩ := fits_MX
  refine wpIn_rangeFunc_deep rfl (by omega) (gf := 121) (lb := #[.pointer (some ⟨wE.heap.size + 1, 0, none⟩)]) rfl trivial (enters_of Try.func121 (by kernel_rfl) rfl) (dropped1_deep (20 - 1) (wE.heap.size + 1) gf lb R LayR (by omega) ef hseq hok) (fun _ => rfl)
    (fun pre V => ∃ p, Hid (solveI (vals pre) = some p) ∧ Blk V wE.heap.size (spC p) 35 ∧ Blk V w.heap.size #[.int .i64 0, .int .i64 0, .int .i64 0, .int .i64 0] 35 ∧ Blk V (w.heap.size + 1) #[.int .i64 0] 24 ∧ Blk V (wE.heap.size + 1) #[.func (.func gf) #[] lb] 126 ∧ LayR V ∧ Below w.heap.size w V)
    (fun c pre V => c = .ret ∧ Hid (solveI (vals pre) = none) ∧ Blk V w.heap.size #[.int .i64 0, .int .i64 0, .int .i64 0, .int .i64 0] 35 ∧ Blk V (w.heap.size + 1) #[.int .i64 6] 24 ∧ Below w.heap.size w V)
    (fun s A C hb hs => by
      obtain ⟨p, h1, h2, h3, h4, h5, h6, h7⟩ := hs
      exact ⟨p, h1, Blk.below hb (by omega) h2, Blk.below hb (by omega) h3, Blk.below hb (by omega) h4, Blk.below hb (by omega) h5, hLR.out _ _ (hb.mono (by omega)) h6, h7.trans (hb.mono (by omega))⟩)
    (fun c s A C hb hs => by
      obtain ⟨h0, h1, h2, h3, h4⟩ := hs
      exact ⟨h0, h1, Blk.below hb (by omega) h2, Blk.below hb (by omega) h3, h4.trans (hb.mono (by omega))⟩)
    (fun s A hs => by obtain ⟨p, h1, h2, h3, h4, h5, h6, h7⟩ := hs; exact ⟨(h5.cells 0).trans rfl, h6⟩)
    ⟨(-MX, MX), Lib.hid rfl, by simp only [spC, u1, u2, u3, u4]; exact kS, k2, k3, kd, hLV, hBw⟩
    (fun x a' V V' => Blk V' V.heap.size (elCells x) 154 ∧ a' = { tmps := #[.func (.func gf) #[] lb, undef, .pointer (some ⟨w.heap.size, 0, none⟩), .pointer (some ⟨w.heap.size + 1, 0, none⟩), .pointer (some ⟨wE.heap.size, 0, none⟩), .pointer (some ⟨V.heap.size, 0, none⟩), undef, undef, .agg #[.int .i64 (-4611686018427387903), .int .i64 1, .int .i64 4611686018427387903, .int .i64 1], .func (.func gf) #[] lb, .func (.func 121) #[] #[.pointer (some ⟨wE.heap.size + 1, 0, none⟩)], .agg (elCells x), undef, undef, undef, undef, undef, undef, undef, undef, undef, undef, undef, undef, undef, undef, undef, undef, undef, undef, undef, undef], defers := [] })
    ?assign
    (fun x a' V V' o hs hx => ⟨Blk.put o (by omega) hx.1, hx.2⟩)
    ?body ?done ?stop
  case assign =>
    intro pre x V K hI hsz hK
    dsimp only [elEnc]
    gi_wp2
    exact hK _ _ ((Below.refl _ V).alloc (Nat.le_refl _) _) ⟨Blk.new rfl, rfl⟩
  case done =>
    rintro D xs V hD hxs ⟨⟨L, H⟩, h1, h2, h3, h4, h5, h6, h7⟩ hK
    simp only [spC] at h2
    obtain ⟨a2, b2⟩ := h2.read; obtain ⟨a3, b3⟩ := h3.read; obtain ⟨a4, b4⟩ := h4.read
    have y2 := h2.lt
    gi_wp2
    obtain ⟨Wf, hWf⟩ : ∃ Wf, (((((V.setCell ⟨w.heap.size, 0, none⟩ (.int .i64 (fn L))).setCell ⟨w.heap.size, 1, none⟩ (.int .i64 (fd L))).setCell ⟨w.heap.size, 2, none⟩ (.int .i64 (fn H))).setCell ⟨w.heap.size, 3, none⟩ (.int .i64 (fd H))).setCell ⟨w.heap.size + 1, 0, none⟩ (.int .i64 0)) = Wf := ⟨_, rfl⟩
    have q2 : Blk Wf w.heap.size #[.int .i64 (fn L), .int .i64 (fd L), .int .i64 (fn H), .int .i64 (fd H)] 35 := by rw [← hWf]; exact Blk.other (Blk.set (Blk.set (Blk.set (Blk.set h3)))) (by simp)
    have q3 : Blk Wf (w.heap.size + 1) #[.int .i64 0] 24 := by rw [← hWf]; exact Blk.set (Blk.other (Blk.other (Blk.other (Blk.other h4 (by simp)) (by simp)) (by simp)) (by simp))
    have hBf : Below w.heap.size w Wf := by rw [← hWf]; (repeat' (first | (with_reducible exact Below.refl _ _) | (with_reducible assumption) | (with_reducible refine belowThru ?_ (by assumption)) | (with_reducible refine belowAlloc ?_) | (with_reducible refine Below.setCell ?_ (by first | omega | (simp; done) | (simp; omega)) _) | (with_reducible refine Below.drew ?_) | (with_reducible refine below_drewN ?_ _)))
    have hK2 : Wf.heap[D]? = some (.deferred (some [])) := by
      rw [← hWf]
      repeat' first | (with_reducible exact hK) | (with_reducible refine (heap_set (by omega)).trans ?_)
    rw [hWf]
    clear hWf h2 h3 h4 a2 a3 a4 b2 b3 b4
    obtain ⟨f4, g4⟩ := (Blk.put (l := D) (.deferred none) (by omega) q2).read
    obtain ⟨f5, g5⟩ := (Blk.put (l := D) (.deferred none) (by omega) q3).read
    refine ⟨by simp, .inl ⟨_, _, rfl, run_takeDeferred hK2, ?_⟩⟩
    have he : solveI (dropL R) = some (L, H) := by rw [← hxs]; exact h1.out
    refine ⟨.tuple #[.agg #[.int .i64 (fn L), .int .i64 (fd L), .int .i64 (fn H), .int .i64 (fd H)], .int .i64 0], ?_, by rw [he]; rfl, hBf.trans (belowPut _ (by omega))⟩
    simp only [results, Try.results87]
    go_simp
  case stop =>
    rintro D c pre V hD hpre ⟨rfl, h1, h3, h4, h7⟩ hK
    gi_wp2
    obtain ⟨f4, g4⟩ := (Blk.put (l := D) (.deferred none) (by omega) h3).read
    obtain ⟨f5, g5⟩ := (Blk.put (l := D) (.deferred none) (by omega) h4).read
    refine ⟨by simp, .inl ⟨_, _, rfl, run_takeDeferred hK, ?_⟩⟩
    refine ⟨.tuple #[.agg #[.int .i64 0, .int .i64 0, .int .i64 0, .int .i64 0], .int .i64 6], ?_, by rw [solveI_prefix hpre h1.out]; rfl, h7.trans (belowPut _ (by omega))⟩
    simp only [results, Try.results87]
    go_simp
  case body =>
    rintro pre ⟨⟨d, k, mm⟩, hx⟩ a' U0 V ⟨⟨L, H⟩, h1, h2, h3, h4, h5, h6, h7⟩ hsz ⟨hk5, rfl⟩ hV ⟨r0, hr0⟩ hlen
    dsimp only [elCells] at hk5 ⊢
    have hlr := (Array.getElem?_eq_some_iff.1 hr0).1
    have hrb := hRB.out _ hx
    have hvr : ∀ r ∈ vals pre, RB r := fun r hr => by
      obtain ⟨y, hy, rfl⟩ := List.mem_map.1 hr
      exact hRB.out _ y.2
    obtain ⟨fL, fH, hLH, -⟩ := (solve_spec _ (vals pre) rfl hvr).1 L H h1.out
    have hst : Hid (solveI (vals (pre ++ [(⟨(d, k, mm), hx⟩ : El (dropL R))])) = stepI (some (L, H)) (d, k, mm)) := Lib.hid (by rw [solveI_vals, h1.out])
    have HQ := Lib.hid (limit_q (d, k, mm) hrb)
    have hl2 := (lim_spec hrb).1
    dsimp only at HQ
    obtain ⟨a5, b5⟩ := hk5.read
    have hU := hk5.lt
    cases hlim : limI (d, k, mm) with
    | none =>
      rw [hlim] at HQ
      simp only [soV, lz] at HQ
      have hno : Hid (solveI (vals (pre ++ [(⟨(d, k, mm), hx⟩ : El (dropL R))])) = none) := Lib.hid (by rw [hst.out]; unfold stepI; rw [hlim])
      clear hlim hl2 hst
      gi_wp2_with ((try (refine ⟨trivial, ?_⟩)); gi_at_call 112; refine (CallsIn.inRound _ (callsIn_wide.2 (HQ.out _))).mono ?_; rintro e W1 ⟨rfl, hb⟩; (have hA : Above (V0.heap.size + 1) V W1 := Above.of_below hb); (have z3 := Blk.later hb h3); (have z4 := Blk.later hb h4); (have hy3 := z3.lt); (have hy4 := z4.lt); obtain ⟨a3, b3⟩ := z3.read; obtain ⟨a4, b4⟩ := z4.read; (have hB1 : Below w.heap.size w W1 := h7.trans (hb.mono h7.size)); (have hs1 := hb.size); (have hl1 : W1.heap[V0.heap.size + 1]? = V.heap[V0.heap.size + 1]? := hb.block _ hlr); (have hl0 : W1.heap[V0.heap.size + 1 - 1]? = V.heap[V0.heap.size + 1 - 1]? := hb.block _ (by omega)); clear hb)
      obtain ⟨W2, hW2⟩ : ∃ W2, (((((W1.setCell ⟨w.heap.size, 0, none⟩ (.int .i64 0)).setCell ⟨w.heap.size, 1, none⟩ (.int .i64 0)).setCell ⟨w.heap.size, 2, none⟩ (.int .i64 0)).setCell ⟨w.heap.size, 3, none⟩ (.int .i64 0)).setCell ⟨w.heap.size + 1, 0, none⟩ (.int .i64 6)) = W2 := ⟨_, rfl⟩
      have x3 : Blk W2 w.heap.size #[.int .i64 0, .int .i64 0, .int .i64 0, .int .i64 0] 35 := by rw [← hW2]; exact Blk.other (Blk.set (Blk.set (Blk.set (Blk.set z3)))) (by first | omega | (simp; done) | (simp; omega))
      have x4 : Blk W2 (w.heap.size + 1) #[.int .i64 6] 24 := by rw [← hW2]; exact Blk.set (Blk.other (Blk.other (Blk.other (Blk.other z4 (by first | omega | (simp; done) | (simp; omega))) (by first | omega | (simp; done) | (simp; omega))) (by first | omega | (simp; done) | (simp; omega))) (by first | omega | (simp; done) | (simp; omega)))
      have hB2 : Below w.heap.size w W2 := by rw [← hW2]; (repeat' (first | (with_reducible exact Below.refl _ _) | (with_reducible assumption) | (with_reducible refine belowThru ?_ (by assumption)) | (with_reducible refine belowAlloc ?_) | (with_reducible refine Below.setCell ?_ (by first | omega | (simp; done) | (simp; omega)) _) | (with_reducible refine Below.drew ?_) | (with_reducible refine below_drewN ?_ _)))
      have hA2 : Above (V0.heap.size + 1) V W2 := by
        rw [← hW2]
        repeat' first | (with_reducible exact hA) | (with_reducible refine Above.set (by omega) ?_)
      have hl3 : W2.heap[V0.heap.size + 1]? = V.heap[V0.heap.size + 1]? := by
        rw [← hW2]
        repeat' first | (with_reducible exact hl1) | (with_reducible refine (heap_set (by omega)).trans ?_)
      have hl4 : W2.heap[V0.heap.size + 1 - 1]? = V.heap[V0.heap.size + 1 - 1]? := by
        rw [← hW2]
        repeat' first | (with_reducible exact hl0) | (with_reducible refine (heap_set (by omega)).trans ?_)
      have hsz2 : W2.heap.size = W1.heap.size := by rw [← hW2]; simp only [size_set]
      rw [hW2]
      clear hW2
      exact ⟨(Below.heap_alloc _ _ _ (by omega)).trans hl3, (Below.heap_alloc _ _ _ (by omega)).trans hl4, hA2.trans (Above.of_below ((Below.refl _ _).alloc (Nat.le_refl _) _)), rfl, hno, Blk.alloc x3, Blk.alloc x4, hB2.alloc (by omega) _⟩
    | some q =>
      obtain ⟨l, h⟩ := q
      rw [hlim] at HQ
      simp only [soV, spC] at HQ
      obtain ⟨fl, fh, hlh, -⟩ := hl2 l h hlim
      obtain ⟨A, B, C, D, E, HM, hc⟩ := meet_so L H l h fL fH fl fh hLH hlh
      have hst2 : Hid (solveI (vals (pre ++ [(⟨(d, k, mm), hx⟩ : El (dropL R))])) = meetI (L, H) (l, h)) := Lib.hid (by rw [hst.out]; unfold stepI; rw [hlim])
      have HM := Lib.hid HM
      simp only [spC] at HM h2
      clear hlim hl2 hst
      rcases hc with ⟨rfl, hc⟩ | ⟨rfl, p, hc, hp0⟩
      · have hno : Hid (solveI (vals (pre ++ [(⟨(d, k, mm), hx⟩ : El (dropL R))])) = none) := Lib.hid (by rw [hst2.out, hc])
        clear hc hst2
        gi_wp2_with (first
          | ((try (refine ⟨trivial, ?_⟩)); gi_at_call 112; refine (CallsIn.inRound _ (callsIn_wide.2 (HQ.out _))).mono ?_; rintro e W1 ⟨rfl, hb⟩; (have hA : Above (V0.heap.size + 1) V W1 := Above.of_below hb); (have z2 := Blk.later hb h2); obtain ⟨a2, b2⟩ := z2.read; (have z3 := Blk.later hb h3); (have z4 := Blk.later hb h4); (have z5 := Blk.later hb h5); (have hB1 : Below w.heap.size w W1 := h7.trans (hb.mono h7.size)); (have hVW : Below w.heap.size V W1 := hb.mono h7.size); (have hs1 := hb.size); (have hy2 := z2.lt); (have hy3 := z3.lt); (have hy4 := z4.lt); (have hl1 : W1.heap[V0.heap.size + 1]? = V.heap[V0.heap.size + 1]? := hb.block _ hlr); (have hl0 : W1.heap[V0.heap.size + 1 - 1]? = V.heap[V0.heap.size + 1 - 1]? := hb.block _ (by omega)); clear hb)
          | ((try (refine ⟨trivial, ?_⟩)); gi_at_call 46; refine (CallsIn.inRound _ (callsIn_wide.2 (HM.out _))).mono ?_; rintro e W2 ⟨rfl, hb⟩; (have hA2 : Above (V0.heap.size + 1) V W2 := hA.trans ((Above.of_below ((Below.refl _ W1).alloc (Nat.le_refl _) _)).trans (Above.of_below hb))); (have x2 := Blk.later hb (Blk.alloc z2)); obtain ⟨a2', b2'⟩ := x2.read; (have x3 := Blk.later hb (Blk.alloc z3)); (have x4 := Blk.later hb (Blk.alloc z4)); (have x5 := Blk.later hb (Blk.alloc z5)); obtain ⟨a3, b3⟩ := x3.read; obtain ⟨a4, b4⟩ := x4.read; (have hB2 : Below w.heap.size w W2 := by (repeat' (first | (with_reducible exact Below.refl _ _) | (with_reducible assumption) | (with_reducible refine belowThru ?_ (by assumption)) | (with_reducible refine belowAlloc ?_) | (with_reducible refine Below.setCell ?_ (by first | omega | (simp; done) | (simp; omega)) _) | (with_reducible refine Below.drew ?_) | (with_reducible refine below_drewN ?_ _)))); (have hs2 := hA2.size); (have hl3 : W2.heap[V0.heap.size + 1]? = V.heap[V0.heap.size + 1]? := (hb.block _ (by simp; omega)).trans ((Below.heap_alloc _ _ _ (by omega)).trans hl1)); (have hl4 : W2.heap[V0.heap.size + 1 - 1]? = V.heap[V0.heap.size + 1 - 1]? := (hb.block _ (by simp; omega)).trans ((Below.heap_alloc _ _ _ (by omega)).trans hl0)); (have hVW2 : Below w.heap.size V W2 := (hVW.trans ((Below.refl w.heap.size W1).alloc (by omega) _)).trans (hb.mono (by simp; omega))); (have hw2 := x2.lt); (have hw3 := x3.lt); (have hw4 := x4.lt); clear hb))

        refine ⟨?_, ?_, ?_, rfl, hno, ?_, ?_, ?_⟩
        · repeat' first | (with_reducible exact hl3) | (with_reducible refine (heap_set (by omega)).trans ?_)
        · repeat' first | (with_reducible exact hl4) | (with_reducible refine (heap_set (by omega)).trans ?_)
        · repeat' first | (with_reducible exact hA2) | (with_reducible refine Above.set (by omega) ?_)
        · exact Blk.other (Blk.set (Blk.set (Blk.set (Blk.set (Blk.other (Blk.other (Blk.other (Blk.other x3 (by first | omega | (simp; done) | (simp; omega))) (by first | omega | (simp; done) | (simp; omega))) (by first | omega | (simp; done) | (simp; omega))) (by first | omega | (simp; done) | (simp; omega))))))) (by first | omega | (simp; done) | (simp; omega))
        · exact Blk.set (Blk.other (Blk.other (Blk.other (Blk.other (Blk.other (Blk.other (Blk.other (Blk.other x4 (by first | omega | (simp; done) | (simp; omega))) (by first | omega | (simp; done) | (simp; omega))) (by first | omega | (simp; done) | (simp; omega))) (by first | omega | (simp; done) | (simp; omega))) (by first | omega | (simp; done) | (simp; omega))) (by first | omega | (simp; done) | (simp; omega))) (by first | omega | (simp; done) | (simp; omega))) (by first | omega | (simp; done) | (simp; omega)))
        · (repeat' (first | (with_reducible exact Below.refl _ _) | (with_reducible assumption) | (with_reducible refine belowThru ?_ (by assumption)) | (with_reducible refine belowAlloc ?_) | (with_reducible refine Below.setCell ?_ (by first | omega | (simp; done) | (simp; omega)) _) | (with_reducible refine Below.drew ?_) | (with_reducible refine below_drewN ?_ _)))
      · have hp := Lib.hid hp0
        clear hp0
        have hyes : Hid (solveI (vals (pre ++ [(⟨(d, k, mm), hx⟩ : El (dropL R))])) = some p) := Lib.hid (by rw [hst2.out, hc])
        clear hc hst2
        gi_wp2_with (first
          | ((try (refine ⟨trivial, ?_⟩)); gi_at_call 112; refine (CallsIn.inRound _ (callsIn_wide.2 (HQ.out _))).mono ?_; rintro e W1 ⟨rfl, hb⟩; (have hA : Above (V0.heap.size + 1) V W1 := Above.of_below hb); (have z2 := Blk.later hb h2); obtain ⟨a2, b2⟩ := z2.read; (have z3 := Blk.later hb h3); (have z4 := Blk.later hb h4); (have z5 := Blk.later hb h5); (have hB1 : Below w.heap.size w W1 := h7.trans (hb.mono h7.size)); (have hVW : Below w.heap.size V W1 := hb.mono h7.size); (have hs1 := hb.size); (have hy2 := z2.lt); (have hy3 := z3.lt); (have hy4 := z4.lt); (have hl1 : W1.heap[V0.heap.size + 1]? = V.heap[V0.heap.size + 1]? := hb.block _ hlr); (have hl0 : W1.heap[V0.heap.size + 1 - 1]? = V.heap[V0.heap.size + 1 - 1]? := hb.block _ (by omega)); clear hb)
          | ((try (refine ⟨trivial, ?_⟩)); gi_at_call 46; refine (CallsIn.inRound _ (callsIn_wide.2 (HM.out _))).mono ?_; rintro e W2 ⟨rfl, hb⟩; (have hA2 : Above (V0.heap.size + 1) V W2 := hA.trans ((Above.of_below ((Below.refl _ W1).alloc (Nat.le_refl _) _)).trans (Above.of_below hb))); (have x2 := Blk.later hb (Blk.alloc z2)); obtain ⟨a2', b2'⟩ := x2.read; (have x3 := Blk.later hb (Blk.alloc z3)); (have x4 := Blk.later hb (Blk.alloc z4)); (have x5 := Blk.later hb (Blk.alloc z5)); obtain ⟨a3, b3⟩ := x3.read; obtain ⟨a4, b4⟩ := x4.read; (have hB2 : Below w.heap.size w W2 := by (repeat' (first | (with_reducible exact Below.refl _ _) | (with_reducible assumption) | (with_reducible refine belowThru ?_ (by assumption)) | (with_reducible refine belowAlloc ?_) | (with_reducible refine Below.setCell ?_ (by first | omega | (simp; done) | (simp; omega)) _) | (with_reducible refine Below.drew ?_) | (with_reducible refine below_drewN ?_ _)))); (have hs2 := hA2.size); (have hl3 : W2.heap[V0.heap.size + 1]? = V.heap[V0.heap.size + 1]? := (hb.block _ (by simp; omega)).trans ((Below.heap_alloc _ _ _ (by omega)).trans hl1)); (have hl4 : W2.heap[V0.heap.size + 1 - 1]? = V.heap[V0.heap.size + 1 - 1]? := (hb.block _ (by simp; omega)).trans ((Below.heap_alloc _ _ _ (by omega)).trans hl0)); (have hVW2 : Below w.heap.size V W2 := (hVW.trans ((Below.refl w.heap.size W1).alloc (by omega) _)).trans (hb.mono (by simp; omega))); (have hw2 := x2.lt); (have hw3 := x3.lt); (have hw4 := x4.lt); clear hb))

        refine ⟨?_, ?_, ?_, p, hyes, ?_, ?_, ?_, ?_, ?_, ?_⟩
        · repeat' first | (with_reducible exact hl3) | (with_reducible refine (heap_set (by omega)).trans ?_)
        · repeat' first | (with_reducible exact hl4) | (with_reducible refine (heap_set (by omega)).trans ?_)
        · repeat' first | (with_reducible exact hA2) | (with_reducible refine Above.set (by omega) ?_)
        · rw [← hp.out]; exact Blk.set (Blk.set (Blk.set (Blk.set x2)))
        · exact (Blk.other (Blk.other (Blk.other (Blk.other x3 (by first | omega | (simp; done) | (simp; omega))) (by first | omega | (simp; done) | (simp; omega))) (by first | omega | (simp; done) | (simp; omega))) (by first | omega | (simp; done) | (simp; omega)))
        · exact (Blk.other (Blk.other (Blk.other (Blk.other x4 (by first | omega | (simp; done) | (simp; omega))) (by first | omega | (simp; done) | (simp; omega))) (by first | omega | (simp; done) | (simp; omega))) (by first | omega | (simp; done) | (simp; omega)))
        · exact (Blk.other (Blk.other (Blk.other (Blk.other x5 (by first | omega | (simp; done) | (simp; omega))) (by first | omega | (simp; done) | (simp; omega))) (by first | omega | (simp; done) | (simp; omega))) (by first | omega | (simp; done) | (simp; omega)))
        · exact hLR.out _ _ (show Below w.heap.size V _ by (repeat' (first | (with_reducible exact Below.refl _ _) | (with_reducible assumption) | (with_reducible refine belowThru ?_ (by assumption)) | (with_reducible refine belowAlloc ?_) | (with_reducible refine Below.setCell ?_ (by first | omega | (simp; done) | (simp; omega)) _) | (with_reducible refine Below.drew ?_) | (with_reducible refine below_drewN ?_ _)))) h6
        · (repeat' (first | (with_reducible exact Below.refl _ _) | (with_reducible assumption) | (with_reducible refine belowThru ?_ (by assumption)) | (with_reducible refine belowAlloc ?_) | (with_reducible refine Below.setCell ?_ (by first | omega | (simp; done) | (simp; omega)) _) | (with_reducible refine Below.drew ?_) | (with_reducible refine below_drewN ?_ _)))
end Go.Proofs.Ytbdcmdofmokoeaa
/-
  Layer 4: what views leave of a focal length, and of a place, by the code.
-/
namespace Go.Proofs.Ytbdcmdofmokoeaa
open Go.RowKit Go.Shelf
set_option linter.unusedVariables false
set_option linter.unusedSimpArgs false

/-- How views are read for the focal length, and for the place of a target. -/
def rdF (v : Vw) : Int × Int × Int := (v.2.1, v.1, v.2.1)
def rdP (x z : Int) (v : Vw) : Int × Int × Int := (v.1 * z - x * v.2.1, v.2.1 * z, v.2.1 * z)
def focS (vs : List Vw) : Option (Rat × Rat) := solveI (dropL (rulesL rdF vs))
def plaS (x z : Int) (vs : List Vw) : Option (Rat × Rat) := solveI (dropL (rulesL (rdP x z) vs))
/-- Small rules. -/
def RBd (r : Rl) : Prop := (-2000000 ≤ r.1 ∧ r.1 ≤ 2000000) ∧ (-1000000 ≤ r.2.1 ∧ r.2.1 ≤ 1000000) ∧ (-4096000000 ≤ r.2.2 ∧ r.2.2 ≤ 4096000000)
theorem wr64 (n : Int) (h : -9223372036854775808 ≤ n ∧ n ≤ 9223372036854775807) : IntKind.i64.wrap n = n := IntWalk.i64_in _ h
theorem rd_bd {v : Vw} {y : Int × Int × Int} (hv : InV v) (h1 : -2000000 ≤ y.1 ∧ y.1 ≤ 2000000) (h2 : -1000000 ≤ y.2.1 ∧ y.2.1 ≤ 1000000) (h3 : 0 ≤ y.2.2 ∧ y.2.2 ≤ 1000000) : RuleOk v y ∧ ∀ r ∈ two2 v y, RBd r := by
  obtain ⟨x, z, lo, hi⟩ := v
  obtain ⟨d, k, u⟩ := y
  obtain ⟨-, ⟨⟨l1, l2⟩, m1, m2⟩, -⟩ := hv
  dsimp only at *
  have p1 := mul_bound hi u 4096 1000000 (by omega) (by omega) (by omega) (by omega)
  have p2 := mul_bound (-lo) u 4096 1000000 (by omega) (by omega) (by omega) (by omega)
  refine ⟨⟨wr64 _ ?_, wr64 _ ?_, wr64 _ ?_, wr64 _ ?_, wr64 _ ?_⟩, ?_⟩
  · dsimp only; omega
  · dsimp only; omega
  · dsimp only; omega
  · dsimp only; omega
  · dsimp only; omega
  · intro r hr
    simp only [two2, List.mem_cons, List.not_mem_nil, or_false] at hr
    rcases hr with rfl | rfl
    · exact ⟨h1, h2, by dsimp only; omega⟩
    · exact ⟨by dsimp only; omega, by dsimp only; omega, by dsimp only; omega⟩
theorem rdF_bd {v : Vw} (hv : InV v) : RuleOk v (rdF v) ∧ ∀ r ∈ two2 v (rdF v), RBd r := by
  have h := hv.1
  obtain ⟨⟨a1, a2⟩, b1, b2⟩ := h
  exact rd_bd hv (by unfold rdF; dsimp only; omega) (by unfold rdF; dsimp only; omega) (by unfold rdF; dsimp only; omega)
theorem rdP_parts {v : Vw} {x z : Int} (hv : InV v) (hg : InG x z) : (-1000000 ≤ v.1 * z ∧ v.1 * z ≤ 1000000) ∧ (-1000000 ≤ x * v.2.1 ∧ x * v.2.1 ≤ 1000000) ∧ (1 ≤ v.2.1 * z ∧ v.2.1 * z ≤ 1000000) := by
  obtain ⟨⟨a1, a2⟩, b1, b2⟩ := hv.1
  obtain ⟨⟨c1, c2⟩, d1, d2⟩ := hg
  have p1 := mul_bound v.1 z 1000 1000 (by omega) (by omega) (by omega) (by omega)
  have p2 := mul_bound x v.2.1 1000 1000 (by omega) (by omega) (by omega) (by omega)
  have p3 := mul_bound v.2.1 z 1000 1000 (by omega) (by omega) (by omega) (by omega)
  have p4 : 0 < v.2.1 * z := Int.mul_pos (by omega) (by omega)
  exact ⟨by omega, by omega, by omega, by omega⟩
theorem rdP_bd {v : Vw} {x z : Int} (hv : InV v) (hg : InG x z) : RuleOk v (rdP x z v) ∧ ∀ r ∈ two2 v (rdP x z v), RBd r := by
  obtain ⟨h1, h2, h3⟩ := rdP_parts hv hg
  exact rd_bd hv (by unfold rdP; dsimp only; omega) (by unfold rdP; dsimp only; omega) (by unfold rdP; dsimp only; omega)
theorem wo_ok {a b : Rl} (ha : RBd a) (hb : RBd b) : WoOk a b ∧ RB (woR a b) := by
  obtain ⟨d, k, m⟩ := a
  obtain ⟨d', k', m'⟩ := b
  obtain ⟨⟨a1, a2⟩, ⟨a3, a4⟩, a5, a6⟩ := ha
  obtain ⟨⟨b1, b2⟩, ⟨b3, b4⟩, b5, b6⟩ := hb
  dsimp only at *
  have p1 := mul_bound d k' 2000000 1000000 (by omega) (by omega) (by omega) (by omega)
  have p2 := mul_bound d' k 2000000 1000000 (by omega) (by omega) (by omega) (by omega)
  have p3 := mul_bound d m' 2000000 4096000000 (by omega) (by omega) (by omega) (by omega)
  have p4 := mul_bound d' m 2000000 4096000000 (by omega) (by omega) (by omega) (by omega)
  unfold WoOk RB woR
  dsimp only
  exact ⟨⟨wr64 _ (by omega), wr64 _ (by omega), wr64 _ (by omega), wr64 _ (by omega), wr64 _ (by omega), wr64 _ (by omega)⟩, by omega, by omega⟩
theorem rb_of {a : Rl} (ha : RBd a) : RB a := by
  obtain ⟨⟨a1, a2⟩, ⟨a3, a4⟩, a5, a6⟩ := ha
  exact ⟨by omega, by omega⟩
theorem rules_bd {rd : Vw → Int × Int × Int} {vs : List Vw} (h : ∀ v ∈ vs, ∀ r ∈ two2 v (rd v), RBd r) : (∀ a ∈ rulesL rd vs, ∀ b ∈ rulesL rd vs, 0 < a.1 → b.1 < 0 → WoOk a b) ∧ ∀ r ∈ dropL (rulesL rd vs), RB r := by
  have h' : ∀ a ∈ rulesL rd vs, RBd a := fun a ha => by
    obtain ⟨v, hv, hr⟩ := List.mem_flatMap.1 ha
    exact h v hv a hr
  refine ⟨fun a ha b hb _ _ => (wo_ok (h' a ha) (h' b hb)).1, fun r hr => ?_⟩
  rcases mem_dropL.1 hr with ⟨hr, -⟩ | ⟨a, ha, b, hb, -, -, rfl⟩
  · exact rb_of (h' r hr)
  · exact (wo_ok (h' a ha) (h' b hb)).2
theorem VRow.firm {B : Nat} {w A C : World} {a : Option Addr} {n : Nat} {vs : List Vw} (h0 : VRow w a n vs) (hB : w.heap.size ≤ B) (hb : Below B A C) (h : VRow A a n vs) : VRow C a n vs :=
  ⟨h.1, fun hn => by
    obtain ⟨b, off, ha, hlt, -⟩ := h0.2 hn
    obtain ⟨b', off', ha', hlt', hc⟩ := h.2 hn
    obtain ⟨rfl, rfl⟩ : b = b' ∧ off = off' := by rw [ha] at ha'; simpa using ha'
    have e : ∀ o, C.cell? ⟨b, o, none⟩ = A.cell? ⟨b, o, none⟩ := fun o => World.cell?_of_block (w := A) (hb.block b (by omega))
    exact ⟨b, off, ha, Nat.lt_of_lt_of_le hlt' hb.size, fun j v hv => by rw [e, e, e, e]; exact hc j v hv⟩⟩
theorem cell_firm {B b : Nat} {A C : World} {v : Value} (hb : Below B A C) (hlt : b < B) (h : A.cell? ⟨b, 0, none⟩ = some v) : C.cell? ⟨b, 0, none⟩ = some v := (World.cell?_of_block (w := A) (hb.block b hlt)).trans h
theorem solve_views (Bl Br n c g : Nat) (a : Option Addr) (cap : Array Value) (vs : List Vw) (rd : Vw → Int × Int × Int) (RD : World → Prop) (W : World) (hn : n ≤ 12)
    (eg : ∀ args w, (callFunc g args).run Try.prog w = .ok (.enter g args) w) (hRD : ∀ A C, Below A.heap.size A C → RD A → RD C) (hRD2 : ∀ A C, Below W.heap.size A C → RD A → RD C)
    (hrd : Hid (∀ (v : Vw) (W : World), v ∈ vs → RD W → Calls Try.prog g (#[.agg #[.int .i64 v.1, .int .i64 v.2.1, .int .i64 v.2.2.1, .int .i64 v.2.2.2]] ++ cap) W fun e W' => e = .returned (.tuple #[.int .i64 (rd v).1, .int .i64 (rd v).2.1, .int .i64 (rd v).2.2]) ∧ Below W.heap.size W W'))
    (hok : ∀ v ∈ vs, RuleOk v (rd v) ∧ ∀ r ∈ two2 v (rd v), RBd r) (hL : RulesLay Bl Br n c a g cap vs RD W) :
    Calls Try.prog 87 #[.func (.func 113) #[] #[.pointer (some ⟨Bl, 0, none⟩), .pointer (some ⟨Br, 0, none⟩)]] W fun e w' => e = .returned (soV (solveI (dropL (rulesL rd vs)))) ∧ Below W.heap.size W w' := by
  obtain ⟨c1, c2, c3, c4⟩ := hL
  have hb := rules_bd (rd := rd) (vs := vs) fun v hv => (hok v hv).2
  have y1 := lt_of_cell c1
  have y2 := lt_of_cell c2
  exact callsIn_wide.1 (solve_in 113 #[.pointer (some ⟨Bl, 0, none⟩), .pointer (some ⟨Br, 0, none⟩)] (rulesL rd vs) (RulesLay Bl Br n c a g cap vs RD) W (enters_of Try.func113 (by kernel_rfl) rfl)
    (Lib.hid fun A C hAC h => ⟨cell_firm hAC y1 h.1, cell_firm hAC y2 h.2.1, c3.firm (Nat.le_refl _) hAC h.2.2.1, hRD2 A C hAC h.2.2.2⟩) ⟨c1, c2, c3, c4⟩
    (Lib.hid fun m hm => rules1_deep m Bl Br n c g a cap vs rd RD hm hn eg hRD hrd (Lib.hid fun v hv => (hok v hv).1)) (Lib.hid hb.1) (Lib.hid hb.2))
end Go.Proofs.Ytbdcmdofmokoeaa
/-
  Layer 4: what focal lengths, centres and places fulfil views (mathematics).
-/
namespace Go.Proofs.Ytbdcmdofmokoeaa
open Go.RowKit
set_option linter.unusedVariables false
set_option linter.unusedSimpArgs false

/-- A focal length and a centre that fulfil views. -/
def Ful (vs : List Vw) (f c : Rat) : Prop := ∀ v ∈ vs, (v.2.2.1 : Rat) * v.2.1 ≤ f * v.1 + c * v.2.1 ∧ f * v.1 + c * v.2.1 ≤ (v.2.2.2 : Rat) * v.2.1
theorem Ful.of {vs us : List Vw} {f c : Rat} (h : Ful vs f c) (hs : ∀ v ∈ us, v ∈ vs) : Ful us f c := fun v hv => h v (hs v hv)
theorem MX_pos : (0 : Rat) ≤ MX := by unfold MX; decide
theorem clampM {D : List Rl} (hb : ∀ r ∈ D, RB r) {v : Rat} (h : satV D v) : ∃ v', SatM D v' := by
  have m0 := MX_pos
  have key : ∀ k m : Int, (-4611686018427387903 ≤ m ∧ m ≤ 4611686018427387903) → k ≠ 0 → (MX < v → (k : Rat) * v ≤ (m : Rat) → (k : Rat) * MX ≤ (m : Rat)) ∧ (v < -MX → (k : Rat) * v ≤ (m : Rat) → (k : Rat) * (-MX) ≤ (m : Rat)) := by
    intro k m hm hk
    have m1 : -MX ≤ (m : Rat) := by have := Rat.intCast_le_intCast.2 hm.1; rwa [Rat.intCast_neg] at this
    rcases Int.lt_or_gt_of_ne hk with c | c
    · have c1 : (k : Rat) ≤ -1 := by have : k ≤ -1 := by omega
                                     have := Rat.intCast_le_intCast.2 this; rwa [Rat.intCast_neg] at this
      have t := mulL c1 m0
      refine ⟨fun _ _ => by grind, fun hv hl => ?_⟩
      have := mulRn (c := (k : Rat)) (Rat.le_of_lt hv) (by grind)
      grind
    · have c1 : (1 : Rat) ≤ (k : Rat) := by have : (1 : Int) ≤ k := by omega
                                            exact_mod_cast this
      have t := mulL c1 m0
      refine ⟨fun hv hl => ?_, fun _ _ => by grind⟩
      have := mulR (c := (k : Rat)) (Rat.le_of_lt hv) (by grind)
      grind
  have z0 : ((0 : Int) : Rat) = 0 := rfl
  by_cases c1 : MX < v
  · refine ⟨MX, ⟨by grind, Rat.le_refl⟩, fun r hr => ?_⟩
    by_cases hk : r.2.1 = 0
    · have := h r hr; rw [hk, z0] at this ⊢; grind
    · exact (key r.2.1 r.2.2 (hb r hr).2 hk).1 c1 (h r hr)
  · by_cases c2 : v < -MX
    · refine ⟨-MX, ⟨Rat.le_refl, by grind⟩, fun r hr => ?_⟩
      by_cases hk : r.2.1 = 0
      · have := h r hr; rw [hk, z0] at this ⊢; grind
      · exact (key r.2.1 r.2.2 (hb r hr).2 hk).2 c2 (h r hr)
    · exact ⟨v, ⟨Rat.not_lt.1 c2, Rat.not_lt.1 c1⟩, h⟩
theorem rules_sat (rd : Vw → Int × Int × Int) (vs : List Vw) (u v : Rat) : satR (rulesL rd vs) u v ↔
    ∀ w ∈ vs, ((rd w).1 : Rat) * u + ((rd w).2.1 : Rat) * v ≤ (w.2.2.2 : Rat) * ((rd w).2.2 : Rat) ∧ (w.2.2.1 : Rat) * ((rd w).2.2 : Rat) ≤ ((rd w).1 : Rat) * u + ((rd w).2.1 : Rat) * v := by
  constructor
  · intro h w hw
    have a := h _ (List.mem_flatMap.2 ⟨w, hw, (by simp [two2] : ((rd w).1, (rd w).2.1, w.2.2.2 * (rd w).2.2) ∈ two2 w (rd w))⟩)
    have b := h _ (List.mem_flatMap.2 ⟨w, hw, (by simp [two2] : (-(rd w).1, -(rd w).2.1, -w.2.2.1 * (rd w).2.2) ∈ two2 w (rd w))⟩)
    dsimp only at a b
    push_cast at a b
    exact ⟨a, by grind⟩
  · intro h r hr
    obtain ⟨w, hw, hr⟩ := List.mem_flatMap.1 hr
    obtain ⟨h1, h2⟩ := h w hw
    simp only [two2, List.mem_cons, List.not_mem_nil, or_false] at hr
    rcases hr with rfl | rfl
    · dsimp only; push_cast; exact h1
    · dsimp only; push_cast; grind
theorem foc_sat (vs : List Vw) (f c : Rat) : satR (rulesL rdF vs) c f ↔ Ful vs f c := by
  rw [rules_sat]
  unfold Ful rdF
  dsimp only
  constructor
  · intro h v hv; obtain ⟨a, b⟩ := h v hv; exact ⟨by grind, by grind⟩
  · intro h v hv; obtain ⟨a, b⟩ := h v hv; exact ⟨by grind, by grind⟩
theorem scaleLe {z a b : Rat} (hz : 0 < z) : z * a ≤ z * b ↔ a ≤ b := by
  constructor
  · intro h
    refine Rat.not_lt.1 fun k => ?_
    have := Rat.mul_lt_mul_of_pos_left k hz
    grind
  · intro h; exact mulR h (Rat.le_of_lt hz)
theorem pla_sat (vs : List Vw) {x z : Int} (hg : InG x z) (f p : Rat) : satR (rulesL (rdP x z) vs) f p ↔ Ful vs f (p - f * mkR x z) := by
  have hq : mkR x z * (z : Rat) = (x : Rat) := div_spec (by have := hg.2.1; omega)
  have hz : (0 : Rat) < (z : Rat) := by have := hg.2.1; exact_mod_cast (show (0 : Int) < z by omega)
  obtain ⟨q, hq'⟩ : ∃ q, mkR x z = q := ⟨_, rfl⟩
  rw [hq'] at hq ⊢
  rw [rules_sat]
  unfold Ful rdP
  dsimp only
  have key : ∀ v : Vw, (((v.1 * z - x * v.2.1 : Int) : Rat) * f + ((v.2.1 * z : Int) : Rat) * p = (z : Rat) * (f * v.1 + (p - f * q) * v.2.1)) ∧ ∀ t : Int, (t : Rat) * ((v.2.1 * z : Int) : Rat) = (z : Rat) * ((t : Rat) * v.2.1) := by
    intro v
    push_cast
    exact ⟨by rw [← hq]; grind, fun t => by grind⟩
  constructor
  · intro h v hv
    obtain ⟨a, b⟩ := h v hv
    obtain ⟨k1, k2⟩ := key v
    rw [k1, k2, scaleLe hz] at a b
    exact ⟨b, a⟩
  · intro h v hv
    obtain ⟨a, b⟩ := h v hv
    obtain ⟨k1, k2⟩ := key v
    rw [k1, k2, k2, scaleLe hz, scaleLe hz]
    exact ⟨b, a⟩
theorem foc_rb {vs : List Vw} (hV : ∀ v ∈ vs, InV v) : ∀ r ∈ dropL (rulesL rdF vs), RB r := (rules_bd (rd := rdF) fun v hv => (rdF_bd (hV v hv)).2).2
theorem pla_rb {vs : List Vw} (hV : ∀ v ∈ vs, InV v) {x z : Int} (hg : InG x z) : ∀ r ∈ dropL (rulesL (rdP x z) vs), RB r := (rules_bd (rd := rdP x z) fun v hv => (rdP_bd (hV v hv) hg).2).2
theorem foc_some {vs : List Vw} (hV : ∀ v ∈ vs, InV v) {L H : Rat} (h : focS vs = some (L, H)) : fits L ∧ fits H ∧ L ≤ H ∧ ∀ f, (L ≤ f ∧ f ≤ H) ↔ (-MX ≤ f ∧ f ≤ MX) ∧ ∃ c, Ful vs f c := by
  obtain ⟨a, b, c, d⟩ := (solve_spec _ _ rfl (foc_rb hV)).1 L H h
  refine ⟨a, b, c, fun f => ?_⟩
  rw [d f]
  unfold SatM
  rw [fm]
  exact and_congr_right fun _ => ⟨fun ⟨u, hu⟩ => ⟨u, (foc_sat vs f u).1 hu⟩, fun ⟨u, hu⟩ => ⟨u, (foc_sat vs f u).2 hu⟩⟩
theorem foc_none {vs : List Vw} (hV : ∀ v ∈ vs, InV v) : focS vs = none ↔ ¬ ∃ f c, Ful vs f c := by
  constructor
  · rintro h ⟨f, c, hf⟩
    obtain ⟨v', hv'⟩ := clampM (foc_rb hV) ((fm _ f).2 ⟨c, (foc_sat vs f c).2 hf⟩)
    exact (solve_spec _ _ rfl (foc_rb hV)).2 h v' hv'
  · intro h
    cases hs : focS vs with
    | none => rfl
    | some p =>
      obtain ⟨L, H⟩ := p
      obtain ⟨-, -, hl, d⟩ := foc_some hV hs
      obtain ⟨-, c, hc⟩ := (d L).1 ⟨Rat.le_refl, hl⟩
      exact absurd ⟨L, c, hc⟩ h
theorem pla_some {vs : List Vw} (hV : ∀ v ∈ vs, InV v) {x z : Int} (hg : InG x z) {L H : Rat} (h : plaS x z vs = some (L, H)) : fits L ∧ fits H ∧ L ≤ H ∧ ∀ p, (L ≤ p ∧ p ≤ H) ↔ (-MX ≤ p ∧ p ≤ MX) ∧ ∃ f, Ful vs f (p - f * mkR x z) := by
  obtain ⟨a, b, c, d⟩ := (solve_spec _ _ rfl (pla_rb hV hg)).1 L H h
  refine ⟨a, b, c, fun p => ?_⟩
  rw [d p]
  unfold SatM
  rw [fm]
  exact and_congr_right fun _ => ⟨fun ⟨u, hu⟩ => ⟨u, (pla_sat vs hg u p).1 hu⟩, fun ⟨u, hu⟩ => ⟨u, (pla_sat vs hg u p).2 hu⟩⟩
theorem pla_none {vs : List Vw} (hV : ∀ v ∈ vs, InV v) {x z : Int} (hg : InG x z) : plaS x z vs = none ↔ ¬ ∃ f c, Ful vs f c := by
  constructor
  · rintro h ⟨f, c, hf⟩
    have e : (c + f * mkR x z) - f * mkR x z = c := by grind
    obtain ⟨v', hv'⟩ := clampM (pla_rb hV hg) ((fm _ (c + f * mkR x z)).2 ⟨f, (pla_sat vs hg f _).2 (by rw [e]; exact hf)⟩)
    exact (solve_spec _ _ rfl (pla_rb hV hg)).2 h v' hv'
  · intro h
    cases hs : plaS x z vs with
    | none => rfl
    | some p =>
      obtain ⟨L, H⟩ := p
      obtain ⟨-, -, hl, d⟩ := pla_some hV hg hs
      obtain ⟨-, c, hc⟩ := (d L).1 ⟨Rat.le_refl, hl⟩
      exact absurd ⟨c, _, hc⟩ h
theorem pla_of_foc {vs : List Vw} (hV : ∀ v ∈ vs, InV v) {x z : Int} (hg : InG x z) {p : Rat × Rat} (h : focS vs = some p) : ∃ q, plaS x z vs = some q := by
  cases hs : plaS x z vs with
  | some q => exact ⟨q, rfl⟩
  | none =>
    have := (foc_none hV).2 ((pla_none hV hg).1 hs)
    rw [h] at this; cases this
/-- Views of one tangent. -/
def Alk (vs : List Vw) : Prop := ∀ v ∈ vs, ∀ w ∈ vs, v.1 * w.2.1 = w.1 * v.2.1
theorem alk_ful {vs : List Vw} (hV : ∀ v ∈ vs, InV v) (ha : Alk vs) {f c : Rat} (h : Ful vs f c) (g : Rat) : ∃ d, Ful vs g d := by
  cases vs with
  | nil => exact ⟨0, fun v hv => by cases hv⟩
  | cons w vs =>
    have hz0 : w.2.1 ≠ 0 := by have := (hV w (by simp)).1.2.1; omega
    have hq : mkR w.1 w.2.1 * (w.2.1 : Rat) = (w.1 : Rat) := div_spec hz0
    obtain ⟨q, hq'⟩ : ∃ q, mkR w.1 w.2.1 = q := ⟨_, rfl⟩
    rw [hq'] at hq
    refine ⟨c + (f - g) * q, fun v hv => ?_⟩
    have e1 : (v.1 : Rat) * w.2.1 = w.1 * v.2.1 := by exact_mod_cast ha v hv w (by simp)
    have hw0 : (w.2.1 : Rat) ≠ 0 := by exact_mod_cast hz0
    have e2 : (v.1 : Rat) = q * v.2.1 := by
      have t : (v.1 : Rat) * w.2.1 = (q * v.2.1) * w.2.1 := by rw [e1, ← hq]; grind
      have := congrArg (· * (w.2.1 : Rat)⁻¹) t
      rwa [Rat.mul_assoc, Rat.mul_inv_cancel _ hw0, Rat.mul_one, Rat.mul_assoc, Rat.mul_inv_cancel _ hw0, Rat.mul_one] at this
    have e3 : g * (v.1 : Rat) + (c + (f - g) * q) * v.2.1 = f * v.1 + c * v.2.1 := by rw [e2]; grind
    rw [e3]
    exact h v hv
set_option maxRecDepth 100000 in
theorem foc_loose {vs : List Vw} (hV : ∀ v ∈ vs, InV v) : focS vs = some (-MX, MX) ↔ Alk vs ∧ ∃ f c, Ful vs f c := by
  constructor
  · intro h
    obtain ⟨-, -, hl, d⟩ := foc_some hV h
    obtain ⟨-, c, hc⟩ := (d MX).1 ⟨hl, Rat.le_refl⟩
    refine ⟨fun v hv w hw => ?_, MX, c, hc⟩
    obtain ⟨a1, a2⟩ := hc v hv
    obtain ⟨b1, b2⟩ := hc w hw
    obtain ⟨⟨⟨x1, x2⟩, z1, z2⟩, ⟨⟨l1, l2⟩, h1, h2⟩, -⟩ := hV v hv
    obtain ⟨⟨⟨y1, y2⟩, u1, u2⟩, ⟨⟨m1, m2⟩, n1, n2⟩, -⟩ := hV w hw
    obtain ⟨X, Z, lo, hi⟩ := v
    obtain ⟨Y, U, mo, ni⟩ := w
    dsimp only at *
    have Zp : (0 : Rat) ≤ (Z : Rat) := by exact_mod_cast (show (0 : Int) ≤ Z by omega)
    have Up : (0 : Rat) ≤ (U : Rat) := by exact_mod_cast (show (0 : Int) ≤ U by omega)
    have k1 := mulR a1 Up
    have k2 := mulR a2 Up
    have k3 := mulR b1 Zp
    have k4 := mulR b2 Zp
    have g1 : ((lo : Rat) - ni) * (Z * U) ≤ MX * ((X : Rat) * U - Y * Z) := by grind
    have g2 : MX * ((X : Rat) * U - Y * Z) ≤ ((hi : Rat) - mo) * (Z * U) := by grind
    obtain ⟨M, hM⟩ : ∃ M : Int, (4611686018427387903 : Int) = M := ⟨_, rfl⟩
    have hMX : MX = (M : Rat) := by unfold MX; rw [hM]
    rw [hMX] at g1 g2
    have i1 : (lo - ni) * (Z * U) ≤ M * (X * U - Y * Z) := by exact_mod_cast g1
    have i2 : M * (X * U - Y * Z) ≤ (hi - mo) * (Z * U) := by exact_mod_cast g2
    rw [← hM] at i1 i2
    have p0 := mul_bound Z U 1000 1000 (by omega) (by omega) (by omega) (by omega)
    have p1 := mul_bound (lo - ni) (Z * U) 8192 1000000 (by omega) (by omega) (by omega) (by omega)
    have p2 := mul_bound (hi - mo) (Z * U) 8192 1000000 (by omega) (by omega) (by omega) (by omega)
    omega
  · rintro ⟨ha, f, c, hc⟩
    cases hs : focS vs with
    | none => exact absurd ⟨f, c, hc⟩ ((foc_none hV).1 hs)
    | some p =>
      obtain ⟨L, H⟩ := p
      obtain ⟨-, -, hl, d⟩ := foc_some hV hs
      have a1 := (d (-MX)).2 ⟨⟨Rat.le_refl, by have := MX_pos; grind⟩, alk_ful hV ha hc _⟩
      have a2 := (d MX).2 ⟨⟨by have := MX_pos; grind, Rat.le_refl⟩, alk_ful hV ha hc _⟩
      have b1 := ((d L).1 ⟨Rat.le_refl, hl⟩).1
      have b2 := ((d H).1 ⟨hl, Rat.le_refl⟩).1
      rw [show L = -MX by grind, show H = MX by grind]
end Go.Proofs.Ytbdcmdofmokoeaa
