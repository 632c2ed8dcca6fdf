/-
  Within a round of a loop over an iterator: a region that draws its order, by what holds whichever operations have come up.
-/
import Derived.Test.YtihefdlolfpbnaaIRound
import Derived.Test.YtihefdlolfpbnaaInv
namespace Go.Proofs.Ytihefdlolfpbnaa
open Go.RowKit
set_option linter.unusedVariables false
set_option linter.unusedSimpArgs false

theorem wp_region_inv_in {P : Program} {ops : Array Oper} {Q : Exit → Act → World → Prop} {n l id : Nat} {a0 : Act} {w : World} (I : Act → Array Bool → Act → World → Prop) (hm : P.follows .mixedOrders = true) (hup : Upward ops = true) (hnd : noDefer ops = true) (hout : ¬ LetsOut Q)
    (hsz : ∀ L a w, I a0 L a w → L.size = ops.size)
    (start : I a0 (Array.replicate ops.size false) a0 w.drew)
    (step : ∀ L a w, I a0 L a w → ∀ i, i ∈ Region.ready .any ops L → wpOp P ops Q i (fun a' w' => I a0 (L.setIfInBounds i true) a' w') a w)
    (fin : ∀ a w, I a0 (Array.replicate ops.size true) a w → Q .normal a w) : (Code.region id ops true).wpIn (Fence.wide.inRound l) n P Q a0 w :=
  wpIn_region_any hm (wpAny_in hnd hout _ _ _ _ (wpAny_inv (I a0) hup hsz step fin _ _ _ _ start (by simp)))
/-- What lay behind a number, and is no cells, is as it was. -/
theorem KeepsFrom.call {B : Nat} {X Y Z : World} (h : KeepsFrom B X Y) (hb : Below Y.heap.size Y Z) : KeepsFrom B X Z := h.trans (KeepsFrom.of_below hb)
theorem KeepsFrom.set {B : Nat} {X Y : World} (h : KeepsFrom B X Y) (a : Addr) (v : Value) : KeepsFrom B X (Y.setCell a v) := h.trans ((KeepsOthers.setCell _ _ _).from _)
theorem PixG.set {Bm b off len c : Nat} {Wd Hd : Int} {R : Nat → Int → Prop} {W : World} {g i : Nat} {v : Value} (h : PixG Bm b off len c Wd Hd R W) (h1 : Bm ≠ g) (h2 : b ≠ g) : PixG Bm b off len c Wd Hd R (W.setCell ⟨g, i, none⟩ v) := by
  obtain ⟨g0, g1, g2, g3⟩ := h
  have key : ∀ (k o : Nat), k ≠ g → (W.setCell ⟨g, i, none⟩ v).cell? ⟨k, o, none⟩ = W.cell? ⟨k, o, none⟩ := fun k o hk => World.cell?_of_block (w := W) (Below.heap_setCell W ⟨g, i, none⟩ v k (fun e => hk e))
  exact ⟨(key _ _ h1).trans g0, (key _ _ h1).trans g1, (key _ _ h1).trans g2, fun j hj => by obtain ⟨z, hz, cz⟩ := g3 j hj; exact ⟨z, hz, (key _ _ h2).trans cz⟩⟩
end Go.Proofs.Ytihefdlolfpbnaa
