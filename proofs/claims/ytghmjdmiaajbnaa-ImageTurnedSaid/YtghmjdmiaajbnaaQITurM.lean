/-
  Layer 2: turns, flips and point operations: the plain mathematics.
-/
import Derived.Test.YtghmjdmiaajbnaaQILawMon
namespace Go.Proofs.Ytghmjdmiaajbnaa
open Go.RowKit
set_option linter.unusedVariables false
set_option linter.unusedSimpArgs false

/-- An image turned, and flipped, as lists. -/
def turL (W H : Int) (zs : List Int) : List Int := made zs.length fun k => pixAt W zs ((k : Int) / H) (H - 1 - (k : Int) % H)
def fliL (W : Int) (zs : List Int) : List Int := made zs.length fun k => pixAt W zs (W - 1 - (k : Int) % W) ((k : Int) / W)
theorem turL_len {W H : Int} {zs : List Int} : (turL W H zs).length = zs.length := made_length _ _
theorem fliL_len {W : Int} {zs : List Int} : (fliL W zs).length = zs.length := made_length _ _
theorem turL_ok {W H : Int} {zs : List Int} (hI : okI W H zs) : okI H W (turL W H zs) := by
  refine ⟨⟨hI.1.2, hI.1.1⟩, by rw [turL_len, Int.mul_comm]; exact hI.2.1, fun z hz => ?_⟩
  obtain ⟨k, hk, rfl⟩ := List.mem_map.1 hz
  exact pixAt_ok hI _ _
theorem fliL_ok {W H : Int} {zs : List Int} (hI : okI W H zs) : okI W H (fliL W zs) := okI_made hI rfl _ fun k _ => pixAt_ok hI _ _
theorem ptL_ok {W H pM pA pD pL pH : Int} {n : Nat} {zs : List Int} (hI : okI W H zs) (hn : zs.length = n) (hP : okP pM pA pD pL pH) : okI W H (ptL pM pA pD pL pH n zs) := okI_made hI hn _ fun k _ => ptV_ok hP _
theorem pix_made {W H : Int} (V : Nat → Int) (n : Nat) (hW : okS W) (hH : okS H) (hN : W * H = (n : Int)) {x y : Int} (hp : inP W H x y) (F : Int → Int → Int) (hF : ∀ k : Nat, V k = F ((k : Int) % W) ((k : Int) / W)) : pixAt W (made n V) x y = F x y := by
  obtain ⟨p, hlt, e1, e2, e3⟩ := place_of hW hH hp
  rw [px_of (H := H) e3, made_get (by omega), Option.getD_some, hF, e1, e2]
theorem pix_turL {W H : Int} {zs : List Int} (hI : okI W H zs) {x y : Int} (hp : inP H W x y) : pixAt H (turL W H zs) x y = pixAt W zs y (H - 1 - x) :=
  pix_made (W := H) (H := W) _ _ hI.1.2 hI.1.1 (by rw [Int.mul_comm]; exact hI.2.1.symm) hp (fun x y => pixAt W zs y (H - 1 - x)) (fun _ => rfl)
theorem pix_fliL {W H : Int} {zs : List Int} (hI : okI W H zs) {x y : Int} (hp : inP W H x y) : pixAt W (fliL W zs) x y = pixAt W zs (W - 1 - x) y :=
  pix_made _ _ hI.1.1 hI.1.2 hI.2.1.symm hp (fun x y => pixAt W zs (W - 1 - x) y) (fun _ => rfl)
theorem pix_ptL {W H pM pA pD pL pH : Int} {n : Nat} {zs : List Int} (hI : okI W H zs) (hn : zs.length = n) {x y : Int} (hp : inP W H x y) : pixAt W (ptL pM pA pD pL pH n zs) x y = ptV pM pA pD pL pH (pixAt W zs x y) := by
  obtain ⟨p, hlt, e1, e2, e3⟩ := place_of hI.1.1 hI.1.2 hp
  have hL := hI.2.1
  rw [px_of (H := H) e3, px_of (H := H) e3, ptL_at (by omega)]
theorem same_of {W H : Int} {xs ys : List Int} (hI : okI W H xs) (hJ : okI W H ys) (h : ∀ x y, inP W H x y → pixAt W xs x y = pixAt W ys x y) : xs = ys :=
  leP_anti hI hJ rfl (fun x y hp => Int.le_of_eq (h x y hp)) (fun x y hp => Int.le_of_eq (h x y hp).symm)
theorem inP_turn {W H x y : Int} (h : inP H W x y) : inP W H y (H - 1 - x) := by obtain ⟨⟨a, b⟩, c, d⟩ := h; exact ⟨⟨c, d⟩, by omega, by omega⟩
theorem inP_flip {W H x y : Int} (h : inP W H x y) : inP W H (W - 1 - x) y := by obtain ⟨⟨a, b⟩, c, d⟩ := h; exact ⟨⟨by omega, by omega⟩, c, d⟩
theorem four_turns {W H : Int} {zs : List Int} (hI : okI W H zs) : turL H W (turL W H (turL H W (turL W H zs))) = zs := by
  have h1 := turL_ok hI; have h2 := turL_ok h1; have h3 := turL_ok h2
  refine same_of (turL_ok h3) hI fun x y hp => ?_
  have p1 := inP_turn hp; have p2 := inP_turn p1; have p3 := inP_turn p2
  rw [pix_turL h3 hp, pix_turL h2 p1, pix_turL h1 p2, pix_turL hI p3]
  congr 1 <;> omega
theorem two_flips {W H : Int} {zs : List Int} (hI : okI W H zs) : fliL W (fliL W zs) = zs := by
  have h1 := fliL_ok hI
  refine same_of (fliL_ok h1) hI fun x y hp => ?_
  rw [pix_fliL h1 hp, pix_fliL hI (inP_flip hp)]
  congr 1; omega
theorem flip_turns {W H : Int} {zs : List Int} (hI : okI W H zs) : turL H W (fliL H (turL W H (fliL W zs))) = zs := by
  have h1 := fliL_ok hI; have h2 := turL_ok h1; have h3 := fliL_ok h2
  refine same_of (turL_ok h3) hI fun x y hp => ?_
  have p1 := inP_turn hp; have p2 := inP_flip p1; have p3 := inP_turn p2
  rw [pix_turL h3 hp, pix_fliL h2 p1, pix_turL h1 p2, pix_fliL hI p3]
  congr 1 <;> omega
theorem point_turns {W H pM pA pD pL pH : Int} {n : Nat} {zs : List Int} (hI : okI W H zs) (hn : zs.length = n) (hP : okP pM pA pD pL pH) :
    ptL pM pA pD pL pH n (fliL H (turL W H zs)) = fliL H (turL W H (ptL pM pA pD pL pH n zs)) := by
  have h1 := turL_ok hI; have h2 := fliL_ok h1
  have g0 := ptL_ok hI hn hP; have g1 := turL_ok g0; have g2 := fliL_ok g1
  have ln : (fliL H (turL W H zs)).length = n := by rw [fliL_len, turL_len, hn]
  refine same_of (ptL_ok h2 ln hP) g2 fun x y hp => ?_
  have p1 := inP_flip hp; have p2 := inP_turn p1
  rw [pix_ptL h2 ln hp, pix_fliL h1 hp, pix_turL hI p1, pix_fliL g1 hp, pix_turL g0 p1, pix_ptL hI hn p2]
end Go.Proofs.Ytghmjdmiaajbnaa
