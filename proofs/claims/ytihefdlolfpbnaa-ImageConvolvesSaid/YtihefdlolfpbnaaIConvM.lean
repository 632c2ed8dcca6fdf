/-
  Layer 2: the sums of a convolution.
-/
import Derived.Test.YtihefdlolfpbnaaIBord
import Derived.Test.YtihefdlolfpbnaaIKern
namespace Go.Proofs.Ytihefdlolfpbnaa
open Go.RowKit
set_option linter.unusedVariables false
set_option linter.unusedSimpArgs false

/-- A product of a convolution, and the sum of the first of them. -/
def cvT (j W H : Int) (zs : List Int) (KW KH : Int) (ks : List Int) (x y : Int) (k : Nat) : Int :=
  ks[k]?.getD 0 * bey j W H zs (x - ((k : Int) % KW - KW / 2)) (y - ((k : Int) / KW - KH / 2))
def cvN (j W H : Int) (zs : List Int) (KW KH : Int) (ks : List Int) (x y : Int) : Nat → Int
  | 0 => 0
  | k + 1 => cvN j W H zs KW KH ks x y k + cvT j W H zs KW KH ks x y k
theorem pixAt_bd {W H : Int} {zs : List Int} (hI : okI W H zs) (x y : Int) : okV (pixAt W zs x y) := by
  unfold pixAt
  cases h : zs[(y * W + x).toNat]? with
  | none => exact ⟨by decide, by decide⟩
  | some z => exact hI.2.2 z (List.mem_of_getElem? h)
theorem bey_bd {j W H : Int} {zs : List Int} (hI : okI W H zs) (x y : Int) : okV (bey j W H zs x y) := by
  unfold bey
  split
  · exact pixAt_bd hI _ _
  · split
    · exact ⟨by decide, by decide⟩
    · split <;> exact pixAt_bd hI _ _
theorem fb_bd {f b : Int} (hf : okFa f) (hb : okV b) : -140737488355328 ≤ f * b ∧ f * b ≤ 140737488355328 := by
  have h0 := Int.natAbs_mul f b
  have h1 : f.natAbs ≤ 65536 := by unfold okFa at hf; omega
  have h2 : b.natAbs ≤ 2147483648 := by unfold okV at hb; omega
  have h3 := Nat.mul_le_mul h1 h2
  omega
theorem kn_get {KW KH : Int} {ks : List Int} (hK : okKn KW KH ks) (k : Nat) : okFa (ks[k]?.getD 0) := by
  cases h : ks[k]? with
  | none => exact ⟨by decide, by decide⟩
  | some z => exact hK.2.2 z (List.mem_of_getElem? h)
theorem cvT_bd {j W H KW KH : Int} {zs ks : List Int} (hI : okI W H zs) (hK : okKn KW KH ks) (x y : Int) (k : Nat) : -140737488355328 ≤ cvT j W H zs KW KH ks x y k ∧ cvT j W H zs KW KH ks x y k ≤ 140737488355328 :=
  fb_bd (kn_get hK k) (bey_bd hI _ _)
theorem cvN_bd {j W H KW KH : Int} {zs ks : List Int} (hI : okI W H zs) (hK : okKn KW KH ks) (x y : Int) (k : Nat) : -((k : Int) * 140737488355328) ≤ cvN j W H zs KW KH ks x y k ∧ cvN j W H zs KW KH ks x y k ≤ (k : Int) * 140737488355328 := by
  induction k with
  | zero => unfold cvN; omega
  | succ k ih =>
    have := cvT_bd (j := j) hI hK x y k
    unfold cvN
    omega
theorem cvN_fold (j W H : Int) (zs : List Int) (KW KH : Int) (ks : List Int) (x y : Int) (m : Nat) : (List.range m).foldl (fun p k => p + cvT j W H zs KW KH ks x y k) 0 = cvN j W H zs KW KH ks x y m := by
  induction m with
  | zero => rfl
  | succ m ih => rw [List.range_succ, List.foldl_append, ih]; rfl
theorem kn_sides {n : Int} (h : okK n) : 1 ≤ n ∧ n ≤ 5 := by unfold okK at h; omega
end Go.Proofs.Ytihefdlolfpbnaa
