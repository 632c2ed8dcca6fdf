/-
  ImagePoints: the two images in new memory: whatever the order in which they are made.
-/
import Derived.Test.YtefphhhmibnjiaaIZips
import Derived.Test.YtefphhhmibnjiaaIRefZip
import Derived.Test.YtefphhhmibnjiaaILawWarps
import Derived.Test.YtefphhhmibnjiaaInv
namespace Go.Proofs.Ytefphhhmibnjiaa
open Go.RowKit
set_option linter.unusedVariables false
set_option linter.unusedSimpArgs false

/-- What holds of the region whichever operations have come up. -/
def TwinsI (W H W' H' pM pA pD pL pH : Int) (a a' : Option Addr) (n n' c c' : Nat) (za zb : List Int) (w : World) (i15 i16 i17 i18 i9 i10 : Value) (b9 : Act) (L9 : Array Bool) (a9 : Act) (w9 : World) : Prop :=
  ∃ (gg0 gg1 gg2 gg3 gg4 gg5 gg6 gg7 : Bool) (x4 x5 : Nat) (ao ap : Option Addr) (co cp : Nat), L9 = #[gg0, gg1, gg2, gg3, gg4, gg5, gg6, gg7] ∧ a9 = ((((((b9).put (some 15) (cond gg0 (.agg #[.int .i64 W, .int .i64 H, .slice a n c]) i15)).put (some 16) (cond gg1 (.agg #[.int .i64 W, .int .i64 H, .slice ao n co]) i16)).put (some 17) (cond gg2 (.agg #[.int .i64 W', .int .i64 H', .slice a' n' c']) i17)).put (some 18) (cond gg3 (.agg #[.int .i64 W', .int .i64 H', .slice ap n' cp]) i18)).put (some 9) (cond gg4 (.pointer (some ⟨x4, 0, none⟩)) i9)).put (some 10) (cond gg5 (.pointer (some ⟨x5, 0, none⟩)) i10) ∧ Blk w9 w.heap.size #[.int .i64 W, .int .i64 H, .slice a n c] 24 ∧ Blk w9 (w.heap.size + 1) #[.int .i64 W', .int .i64 H', .slice a' n' c'] 24 ∧ Blk w9 (w.heap.size + 1 + 1) #[.int .i64 pM, .int .i64 pA, .int .i64 pD, .int .i64 pL, .int .i64 pH] 30 ∧ Below w.heap.size w w9 ∧ (w.heap.size + 1 + 1 + 1) ≤ w9.heap.size ∧ (gg1 = true → Own w9 ao n za) ∧ (gg3 = true → Own w9 ap n' zb) ∧ (gg4 = true → Blk w9 x4 (cond gg6 #[.int .i64 W, .int .i64 H, .slice ao n co] #[.int .i64 0, .int .i64 0, .slice none 0 0]) 24 ∧ (w.heap.size + 1 + 1 + 1) ≤ x4) ∧ (gg5 = true → Blk w9 x5 (cond gg7 #[.int .i64 W', .int .i64 H', .slice ap n' cp] #[.int .i64 0, .int .i64 0, .slice none 0 0]) 24 ∧ (w.heap.size + 1 + 1 + 1) ≤ x5) ∧ (gg4 = true → gg5 = true → x4 ≠ x5) ∧ (gg6 = true → gg4 = true ∧ gg1 = true) ∧ (gg7 = true → gg5 = true ∧ gg3 = true)

/-- Two images in new memory, each behind a pointer of its own. -/
def Two (lo : Nat) (W H W' H' : Int) (n n' : Nat) (za zb : List Int) (wx : World) (s u : Value) : Prop :=
  ∃ (b9 b10 : Nat) (ao ap : Option Addr) (co cp : Nat), s = .pointer (some ⟨b9, 0, none⟩) ∧ u = .pointer (some ⟨b10, 0, none⟩) ∧ lo ≤ b9 ∧ lo ≤ b10 ∧ b9 ≠ b10 ∧
    Blk wx b9 #[.int .i64 W, .int .i64 H, .slice ao n co] 24 ∧ Blk wx b10 #[.int .i64 W', .int .i64 H', .slice ap n' cp] 24 ∧ Own wx ao n za ∧ Own wx ap n' zb

set_option maxRecDepth 100000 in
set_option maxHeartbeats 16000000 in
theorem pts_walk (W H W' H' pM pA pD pL pH how W1 H1 E1 W2 H2 E2 g : Int) (Z1 Z2 : List Int) (a a' : Option Addr) (n n' c c' : Nat) (za zb : List Int) (hn : n ≤ maxLen) (hn' : n' ≤ maxLen) (h8 : n * 8 ≤ 140737488351232) (h8' : n' * 8 ≤ 140737488351232) (w : World) (hR : Row w a n (iv za)) (hS : Row w a' n' (iv zb))
    (hz1 : Z1.length ≤ 1000) (hz2 : Z2.length ≤ 1000)
    (HP : Hid (∀ (a : Option Addr) (c : Nat) (w : World), Row w a n (iv za) → Calls Try.prog 15 #[.agg #[.int .i64 W, .int .i64 H, .slice a n c], .agg #[.int .i64 pM, .int .i64 pA, .int .i64 pD, .int .i64 pL, .int .i64 pH]] w (RetI W1 H1 Z1 E1 w)))
    (HP' : Hid (∀ (a : Option Addr) (c : Nat) (w : World), Row w a n (iv za) → Calls Try.prog 34 #[.agg #[.int .i64 W, .int .i64 H, .slice a n c], .agg #[.int .i64 pM, .int .i64 pA, .int .i64 pD, .int .i64 pL, .int .i64 pH]] w (RetI W1 H1 Z1 E1 w)))
    (HK : Hid (∀ (a : Option Addr) (c : Nat) (w : World), Row w a n (iv za) → Calls Try.prog 36 #[.agg #[.int .i64 W, .int .i64 H, .slice a n c]] w fun e w' => e = .returned (.int .i64 g) ∧ Below w.heap.size w w'))
    (HK' : Hid (∀ (a : Option Addr) (c : Nat) (w : World), Row w a n (iv za) → Calls Try.prog 37 #[.agg #[.int .i64 W, .int .i64 H, .slice a n c]] w fun e w' => e = .returned (.int .i64 g) ∧ Below w.heap.size w w'))
    (HZ : Hid (∀ (a a' : Option Addr) (c c' : Nat) (w : World), Row w a n (iv za) → Row w a' n' (iv zb) → Calls Try.prog 17 #[.agg #[.int .i64 W, .int .i64 H, .slice a n c], .agg #[.int .i64 W', .int .i64 H', .slice a' n' c'], .int .u8 how] w (RetI W2 H2 Z2 E2 w)))
    (HZ' : Hid (∀ (a a' : Option Addr) (c c' : Nat) (w : World), Row w a n (iv za) → Row w a' n' (iv zb) → Calls Try.prog 39 #[.agg #[.int .i64 W, .int .i64 H, .slice a n c], .agg #[.int .i64 W', .int .i64 H', .slice a' n' c'], .int .u8 how] w (RetI W2 H2 Z2 E2 w))) :
    Calls Try.prog 4 #[.agg #[.int .i64 W, .int .i64 H, .slice a n c], .agg #[.int .i64 W', .int .i64 H', .slice a' n' c'], .agg #[.int .i64 pM, .int .i64 pA, .int .i64 pD, .int .i64 pL, .int .i64 pH], .int .u8 how] w fun e w' => e = .returned (.bool true) ∧ Below w.heap.size w w' := by
  have HR := Lib.hid hR
  have HS := Lib.hid hS
  clear hR hS
  go_enter Try.func4, Try.ntmps4
  go_wp2_with fail
  obtain ⟨W0, hW0, k0, k1, k2, hB⟩ := alloc3 w #[.int .i64 W, .int .i64 H, .slice a n c] 24 #[.int .i64 W', .int .i64 H', .slice a' n' c'] 24 #[.int .i64 pM, .int .i64 pA, .int .i64 pD, .int .i64 pL, .int .i64 pH] 30
  rw [hW0]
  clear hW0
  obtain ⟨a0, b0⟩ := k0.read; obtain ⟨a1, b1⟩ := k1.read
  have z0 := k0.lt; have z1 := k1.lt; have z2 := k2.lt
  go_cut [9, 10] (fun s9 s10 wx => Two (w.heap.size + 1 + 1 + 1) W H W' H' n n' za zb wx s9 s10 ∧ Blk wx w.heap.size #[.int .i64 W, .int .i64 H, .slice a n c] 24 ∧ Blk wx (w.heap.size + 1) #[.int .i64 W', .int .i64 H', .slice a' n' c'] 24 ∧ Blk wx (w.heap.size + 1 + 1) #[.int .i64 pM, .int .i64 pA, .int .i64 pD, .int .i64 pL, .int .i64 pH] 30 ∧ Below w.heap.size w wx)
  case first =>
    refine wp_region_inv (TwinsI W H W' H' pM pA pD pL pH a a' n n' c c' za zb w ?i15 ?i16 ?i17 ?i18 ?i9 ?i10) (by kernel_rfl) (by kernel_rfl) ?hsz ?hst ?hstep ?hfin
    case hst =>
      unfold TwinsI
      refine ⟨false, false, false, false, false, false, false, false, 0, 0, none, none, 0, 0, rfl, ?_, ?_, ?_, ?_, ?_, ?_, ?_, ?_, ?_, ?_, ?_, ?_, ?_⟩
      · first | (simp only [Act.put, List.setIfInBounds_toArray, List.set_cons_zero, List.set_cons_succ, cond_false]; done) | (simp only [Act.put, List.setIfInBounds_toArray, List.set_cons_zero, List.set_cons_succ, cond_false]; rfl)
      all_goals (first | (intro h; cases h; done) | ((repeat' (first | (with_reducible assumption) | ((with_reducible refine Blk.new ?_); first | rfl | (simp; done)) | (with_reducible refine Blk.later (by assumption) ?_) | (with_reducible refine Blk.alloc ?_) | (with_reducible refine Blk.drewN ?_) | (with_reducible refine Blk.drew ?_) | (with_reducible refine Blk.other ?_ (by first | omega | (simp; done) | (simp; omega))))); done) | ((repeat' (first | (with_reducible exact Below.refl _ _) | (with_reducible assumption) | (with_reducible refine belowThru ?_ (by assumption)) | (with_reducible refine belowAlloc ?_) | (with_reducible refine Below.setCell ?_ (by first | omega | (simp; done) | (simp; omega)) _) | (with_reducible refine Below.drew ?_) | (with_reducible refine below_drewN ?_ _))); done) | (simp only [World.size_drew]; omega))
    case hsz =>
      intro L a w9 h
      obtain ⟨gg0, gg1, gg2, gg3, gg4, gg5, gg6, gg7, x4, x5, ao, ap, co, cp, rfl, -⟩ := h; rfl
    case hstep =>
      intro L a9 w9 hI i hi
      obtain ⟨gg0, gg1, gg2, gg3, gg4, gg5, gg6, gg7, x4, x5, ao, ap, co, cp, rfl, rfl, fb0, fb1, fb2, fB, fL, f1, f3, f4, f5, d45, s6, s7⟩ := hI
      obtain ⟨hi1, hi2, o, ho, hall⟩ := inv_mem hi
      clear hi
      rcases i with _ | _ | _ | _ | _ | _ | _ | _ | i
      · have ge0 : gg0 = false := hi2
        clear hall hi1 hi2
        subst ge0
        have ho2 := ho
        simp only [List.getElem?_toArray, List.getElem?_cons_zero, List.getElem?_cons_succ] at ho2
        have ho3 := Option.some.inj ho2; clear ho2; subst ho3
        obtain ⟨ba0, bb0⟩ := fb0.read; have bl0 := fb0.lt; obtain ⟨ba1, bb1⟩ := fb1.read; have bl1 := fb1.lt
        simp only [Act.put, List.setIfInBounds_toArray, List.set_cons_zero, List.set_cons_succ]
        simp only [cond_true, cond_false]
        refine inv_op ho (by kernel_rfl) (fun K hK => ?_)
        clear ho
        go_simp
        refine hK.out _ _ ?_
        unfold TwinsI
        refine ⟨true, gg1, gg2, gg3, gg4, gg5, gg6, gg7, x4, x5, ao, ap, co, cp, rfl, by simp only [Act.put, List.setIfInBounds_toArray, List.set_cons_zero, List.set_cons_succ, cond_true, cond_false, Bool.cond_self], ?_, ?_, ?_, ?_, ?_, ?_, ?_, ?_, ?_, ?_, ?_, ?_⟩
        · exact fb0
        · exact fb1
        · exact fb2
        · exact fB
        · exact fL
        · exact f1
        · exact f3
        · exact f4
        · exact f5
        · exact d45
        · exact s6
        · exact s7
      · have ge1 : gg1 = false := hi2
        have ge0 : gg0 = true := inv_dep ho hall 0 (by kernel_rfl)
        clear hall hi1 hi2
        subst ge1 ge0
        have ho2 := ho
        simp only [List.getElem?_toArray, List.getElem?_cons_zero, List.getElem?_cons_succ] at ho2
        have ho3 := Option.some.inj ho2; clear ho2; subst ho3
        obtain ⟨ba0, bb0⟩ := fb0.read; have bl0 := fb0.lt; obtain ⟨ba1, bb1⟩ := fb1.read; have bl1 := fb1.lt
        obtain rfl : gg6 = false := by cases gg6; rfl; exact Bool.noConfusion (s6 rfl).2
        simp only [Act.put, List.setIfInBounds_toArray, List.set_cons_zero, List.set_cons_succ]
        simp only [cond_true, cond_false]
        refine inv_op ho (by kernel_rfl) (fun K hK => ?_)
        clear ho
        go_simp
        (go_at_call 33; (with_reducible refine (twin_any W H a n c za h8 _ (HR.out.later fB)).mono ?_); rintro e w1 ⟨ao, co, rfl, hO, hb⟩)
        refine hK.out _ _ ?_
        unfold TwinsI
        refine ⟨true, true, gg2, gg3, gg4, gg5, false, gg7, x4, x5, ao, ap, co, cp, rfl, by simp only [Act.put, List.setIfInBounds_toArray, List.set_cons_zero, List.set_cons_succ, cond_true, cond_false, Bool.cond_self], ?_, ?_, ?_, ?_, ?_, ?_, ?_, ?_, ?_, ?_, ?_, ?_⟩
        · exact Blk.later hb fb0
        · exact Blk.later hb fb1
        · exact Blk.later hb fb2
        · exact belowThru fB hb
        · have := hb.size; omega
        · intro _; exact hO
        · intro h; exact Own.later hb (f3 h)
        · intro h; obtain ⟨p, q⟩ := f4 h; (try simp only [cond_false, cond_true] at p); (try simp only [cond_false, cond_true]); exact ⟨Blk.later hb p, q⟩
        · intro h; obtain ⟨p, q⟩ := f5 h; (try simp only [cond_false, cond_true] at p); (try simp only [cond_false, cond_true]); exact ⟨Blk.later hb p, q⟩
        · exact d45
        · intro h; cases h
        · exact s7
      · have ge2 : gg2 = false := hi2
        clear hall hi1 hi2
        subst ge2
        have ho2 := ho
        simp only [List.getElem?_toArray, List.getElem?_cons_zero, List.getElem?_cons_succ] at ho2
        have ho3 := Option.some.inj ho2; clear ho2; subst ho3
        obtain ⟨ba0, bb0⟩ := fb0.read; have bl0 := fb0.lt; obtain ⟨ba1, bb1⟩ := fb1.read; have bl1 := fb1.lt
        simp only [Act.put, List.setIfInBounds_toArray, List.set_cons_zero, List.set_cons_succ]
        simp only [cond_true, cond_false]
        refine inv_op ho (by kernel_rfl) (fun K hK => ?_)
        clear ho
        go_simp
        refine hK.out _ _ ?_
        unfold TwinsI
        refine ⟨gg0, gg1, true, gg3, gg4, gg5, gg6, gg7, x4, x5, ao, ap, co, cp, rfl, by simp only [Act.put, List.setIfInBounds_toArray, List.set_cons_zero, List.set_cons_succ, cond_true, cond_false, Bool.cond_self], ?_, ?_, ?_, ?_, ?_, ?_, ?_, ?_, ?_, ?_, ?_, ?_⟩
        · exact fb0
        · exact fb1
        · exact fb2
        · exact fB
        · exact fL
        · exact f1
        · exact f3
        · exact f4
        · exact f5
        · exact d45
        · exact s6
        · exact s7
      · have ge3 : gg3 = false := hi2
        have ge2 : gg2 = true := inv_dep ho hall 2 (by kernel_rfl)
        have ge1 : gg1 = true := inv_dep ho hall 1 (by kernel_rfl)
        clear hall hi1 hi2
        subst ge3 ge2 ge1
        have ho2 := ho
        simp only [List.getElem?_toArray, List.getElem?_cons_zero, List.getElem?_cons_succ] at ho2
        have ho3 := Option.some.inj ho2; clear ho2; subst ho3
        obtain ⟨ba0, bb0⟩ := fb0.read; have bl0 := fb0.lt; obtain ⟨ba1, bb1⟩ := fb1.read; have bl1 := fb1.lt
        obtain rfl : gg7 = false := by cases gg7; rfl; exact Bool.noConfusion (s7 rfl).2
        simp only [Act.put, List.setIfInBounds_toArray, List.set_cons_zero, List.set_cons_succ]
        simp only [cond_true, cond_false]
        refine inv_op ho (by kernel_rfl) (fun K hK => ?_)
        clear ho
        go_simp
        (go_at_call 33; (with_reducible refine (twin_any W' H' a' n' c' zb h8' _ (HS.out.later fB)).mono ?_); rintro e w1 ⟨ap, cp, rfl, hO, hb⟩)
        refine hK.out _ _ ?_
        unfold TwinsI
        refine ⟨gg0, true, true, true, gg4, gg5, gg6, false, x4, x5, ao, ap, co, cp, rfl, by simp only [Act.put, List.setIfInBounds_toArray, List.set_cons_zero, List.set_cons_succ, cond_true, cond_false, Bool.cond_self], ?_, ?_, ?_, ?_, ?_, ?_, ?_, ?_, ?_, ?_, ?_, ?_⟩
        · exact Blk.later hb fb0
        · exact Blk.later hb fb1
        · exact Blk.later hb fb2
        · exact belowThru fB hb
        · have := hb.size; omega
        · intro h; exact Own.later hb (f1 h)
        · intro _; exact hO
        · intro h; obtain ⟨p, q⟩ := f4 h; (try simp only [cond_false, cond_true] at p); (try simp only [cond_false, cond_true]); exact ⟨Blk.later hb p, q⟩
        · intro h; obtain ⟨p, q⟩ := f5 h; (try simp only [cond_false, cond_true] at p); (try simp only [cond_false, cond_true]); exact ⟨Blk.later hb p, q⟩
        · exact d45
        · exact s6
        · intro h; cases h
      · have ge4 : gg4 = false := hi2
        clear hall hi1 hi2
        subst ge4
        have ho2 := ho
        simp only [List.getElem?_toArray, List.getElem?_cons_zero, List.getElem?_cons_succ] at ho2
        have ho3 := Option.some.inj ho2; clear ho2; subst ho3
        obtain ⟨ba0, bb0⟩ := fb0.read; have bl0 := fb0.lt; obtain ⟨ba1, bb1⟩ := fb1.read; have bl1 := fb1.lt
        obtain rfl : gg6 = false := by cases gg6; rfl; exact Bool.noConfusion (s6 rfl).1
        simp only [Act.put, List.setIfInBounds_toArray, List.set_cons_zero, List.set_cons_succ]
        simp only [cond_true, cond_false]
        refine inv_op ho (by kernel_rfl) (fun K hK => ?_)
        clear ho
        go_simp
        refine hK.out _ _ ?_
        unfold TwinsI
        refine ⟨gg0, gg1, gg2, gg3, true, gg5, false, gg7, w9.heap.size, x5, ao, ap, co, cp, rfl, by simp only [Act.put, List.setIfInBounds_toArray, List.set_cons_zero, List.set_cons_succ, cond_true, cond_false, Bool.cond_self], ?_, ?_, ?_, ?_, ?_, ?_, ?_, ?_, ?_, ?_, ?_, ?_⟩
        · exact fb0.alloc
        · exact fb1.alloc
        · exact fb2.alloc
        · exact belowAlloc fB
        · simp only [World.size_alloc]; omega
        · intro h; exact (f1 h).alloc
        · intro h; exact (f3 h).alloc
        · intro _; exact ⟨Blk.new rfl, fL⟩
        · intro h; obtain ⟨p, q⟩ := f5 h; (try simp only [cond_false, cond_true] at p); (try simp only [cond_false, cond_true]); exact ⟨p.alloc, q⟩
        · intro _ h; have := (f5 h).1.lt; omega
        · intro h; cases h
        · exact s7
      · have ge5 : gg5 = false := hi2
        clear hall hi1 hi2
        subst ge5
        have ho2 := ho
        simp only [List.getElem?_toArray, List.getElem?_cons_zero, List.getElem?_cons_succ] at ho2
        have ho3 := Option.some.inj ho2; clear ho2; subst ho3
        obtain ⟨ba0, bb0⟩ := fb0.read; have bl0 := fb0.lt; obtain ⟨ba1, bb1⟩ := fb1.read; have bl1 := fb1.lt
        obtain rfl : gg7 = false := by cases gg7; rfl; exact Bool.noConfusion (s7 rfl).1
        simp only [Act.put, List.setIfInBounds_toArray, List.set_cons_zero, List.set_cons_succ]
        simp only [cond_true, cond_false]
        refine inv_op ho (by kernel_rfl) (fun K hK => ?_)
        clear ho
        go_simp
        refine hK.out _ _ ?_
        unfold TwinsI
        refine ⟨gg0, gg1, gg2, gg3, gg4, true, gg6, false, x4, w9.heap.size, ao, ap, co, cp, rfl, by simp only [Act.put, List.setIfInBounds_toArray, List.set_cons_zero, List.set_cons_succ, cond_true, cond_false, Bool.cond_self], ?_, ?_, ?_, ?_, ?_, ?_, ?_, ?_, ?_, ?_, ?_, ?_⟩
        · exact fb0.alloc
        · exact fb1.alloc
        · exact fb2.alloc
        · exact belowAlloc fB
        · simp only [World.size_alloc]; omega
        · intro h; exact (f1 h).alloc
        · intro h; exact (f3 h).alloc
        · intro h; obtain ⟨p, q⟩ := f4 h; (try simp only [cond_false, cond_true] at p); (try simp only [cond_false, cond_true]); exact ⟨p.alloc, q⟩
        · intro _; exact ⟨Blk.new rfl, fL⟩
        · intro h _; have := (f4 h).1.lt; omega
        · exact s6
        · intro h; cases h
      · have ge6 : gg6 = false := hi2
        have ge4 : gg4 = true := inv_dep ho hall 4 (by kernel_rfl)
        have ge1 : gg1 = true := inv_dep ho hall 1 (by kernel_rfl)
        have ge3 : gg3 = true := inv_dep ho hall 3 (by kernel_rfl)
        have ge0 : gg0 = true := inv_dep ho hall 0 (by kernel_rfl)
        have ge5 : gg5 = true := inv_dep ho hall 5 (by kernel_rfl)
        clear hall hi1 hi2
        subst ge6 ge4 ge1 ge3 ge0 ge5
        have ho2 := ho
        simp only [List.getElem?_toArray, List.getElem?_cons_zero, List.getElem?_cons_succ] at ho2
        have ho3 := Option.some.inj ho2; clear ho2; subst ho3
        obtain ⟨ba0, bb0⟩ := fb0.read; have bl0 := fb0.lt; obtain ⟨ba1, bb1⟩ := fb1.read; have bl1 := fb1.lt
        obtain ⟨p4, q4⟩ := f4 rfl
        simp only [cond_true, cond_false] at p4
        obtain ⟨ra, rb⟩ := p4.read
        simp only [Act.put, List.setIfInBounds_toArray, List.set_cons_zero, List.set_cons_succ]
        simp only [cond_true, cond_false]
        refine inv_op ho (by kernel_rfl) (fun K hK => ?_)
        clear ho
        go_simp
        refine hK.out _ _ ?_
        unfold TwinsI
        refine ⟨true, true, gg2, true, true, true, true, gg7, x4, x5, ao, ap, co, cp, rfl, by simp only [Act.put, List.setIfInBounds_toArray, List.set_cons_zero, List.set_cons_succ, cond_true, cond_false, Bool.cond_self], ?_, ?_, ?_, ?_, ?_, ?_, ?_, ?_, ?_, ?_, ?_, ?_⟩
        · (repeat' (first | (with_reducible assumption) | ((with_reducible refine Blk.new ?_); first | rfl | (simp; done)) | (with_reducible refine Blk.later (by assumption) ?_) | (with_reducible refine Blk.alloc ?_) | (with_reducible refine Blk.drewN ?_) | (with_reducible refine Blk.drew ?_) | (with_reducible refine Blk.other ?_ (by first | omega | (simp; done) | (simp; omega)))))
        · (repeat' (first | (with_reducible assumption) | ((with_reducible refine Blk.new ?_); first | rfl | (simp; done)) | (with_reducible refine Blk.later (by assumption) ?_) | (with_reducible refine Blk.alloc ?_) | (with_reducible refine Blk.drewN ?_) | (with_reducible refine Blk.drew ?_) | (with_reducible refine Blk.other ?_ (by first | omega | (simp; done) | (simp; omega)))))
        · (repeat' (first | (with_reducible assumption) | ((with_reducible refine Blk.new ?_); first | rfl | (simp; done)) | (with_reducible refine Blk.later (by assumption) ?_) | (with_reducible refine Blk.alloc ?_) | (with_reducible refine Blk.drewN ?_) | (with_reducible refine Blk.drew ?_) | (with_reducible refine Blk.other ?_ (by first | omega | (simp; done) | (simp; omega)))))
        · (repeat' (first | (with_reducible exact Below.refl _ _) | (with_reducible assumption) | (with_reducible refine belowThru ?_ (by assumption)) | (with_reducible refine belowAlloc ?_) | (with_reducible refine Below.setCell ?_ (by first | omega | (simp; done) | (simp; omega)) _) | (with_reducible refine Below.drew ?_) | (with_reducible refine below_drewN ?_ _)))
        · first | exact fL | (simp; omega)
        · intro h; exact Own.set3 (f1 h) p4 (by decide) _ _ _
        · intro h; exact Own.set3 (f3 h) p4 (by decide) _ _ _
        · intro _; exact ⟨Blk.set (Blk.set (Blk.set p4)), q4⟩
        · intro h; obtain ⟨p, q⟩ := f5 h; have hne := d45 rfl h; exact ⟨by (repeat' (first | (with_reducible assumption) | ((with_reducible refine Blk.new ?_); first | rfl | (simp; done)) | (with_reducible refine Blk.later (by assumption) ?_) | (with_reducible refine Blk.alloc ?_) | (with_reducible refine Blk.drewN ?_) | (with_reducible refine Blk.drew ?_) | (with_reducible refine Blk.other ?_ (by first | omega | (simp; done) | (simp; omega))))), q⟩
        · exact d45
        · intro _; exact ⟨rfl, rfl⟩
        · exact s7
      · have ge7 : gg7 = false := hi2
        have ge5 : gg5 = true := inv_dep ho hall 5 (by kernel_rfl)
        have ge3 : gg3 = true := inv_dep ho hall 3 (by kernel_rfl)
        have ge6 : gg6 = true := inv_dep ho hall 6 (by kernel_rfl)
        have ge0 : gg0 = true := inv_dep ho hall 0 (by kernel_rfl)
        have ge1 : gg1 = true := inv_dep ho hall 1 (by kernel_rfl)
        have ge2 : gg2 = true := inv_dep ho hall 2 (by kernel_rfl)
        have ge4 : gg4 = true := inv_dep ho hall 4 (by kernel_rfl)
        clear hall hi1 hi2
        subst ge7 ge5 ge3 ge6 ge0 ge1 ge2 ge4
        have ho2 := ho
        simp only [List.getElem?_toArray, List.getElem?_cons_zero, List.getElem?_cons_succ] at ho2
        have ho3 := Option.some.inj ho2; clear ho2; subst ho3
        obtain ⟨ba0, bb0⟩ := fb0.read; have bl0 := fb0.lt; obtain ⟨ba1, bb1⟩ := fb1.read; have bl1 := fb1.lt
        obtain ⟨p5, q5⟩ := f5 rfl
        simp only [cond_true, cond_false] at p5
        obtain ⟨ra, rb⟩ := p5.read
        simp only [Act.put, List.setIfInBounds_toArray, List.set_cons_zero, List.set_cons_succ]
        simp only [cond_true, cond_false]
        refine inv_op ho (by kernel_rfl) (fun K hK => ?_)
        clear ho
        go_simp
        refine hK.out _ _ ?_
        unfold TwinsI
        refine ⟨true, true, true, true, true, true, true, true, x4, x5, ao, ap, co, cp, rfl, by simp only [Act.put, List.setIfInBounds_toArray, List.set_cons_zero, List.set_cons_succ, cond_true, cond_false, Bool.cond_self], ?_, ?_, ?_, ?_, ?_, ?_, ?_, ?_, ?_, ?_, ?_, ?_⟩
        · (repeat' (first | (with_reducible assumption) | ((with_reducible refine Blk.new ?_); first | rfl | (simp; done)) | (with_reducible refine Blk.later (by assumption) ?_) | (with_reducible refine Blk.alloc ?_) | (with_reducible refine Blk.drewN ?_) | (with_reducible refine Blk.drew ?_) | (with_reducible refine Blk.other ?_ (by first | omega | (simp; done) | (simp; omega)))))
        · (repeat' (first | (with_reducible assumption) | ((with_reducible refine Blk.new ?_); first | rfl | (simp; done)) | (with_reducible refine Blk.later (by assumption) ?_) | (with_reducible refine Blk.alloc ?_) | (with_reducible refine Blk.drewN ?_) | (with_reducible refine Blk.drew ?_) | (with_reducible refine Blk.other ?_ (by first | omega | (simp; done) | (simp; omega)))))
        · (repeat' (first | (with_reducible assumption) | ((with_reducible refine Blk.new ?_); first | rfl | (simp; done)) | (with_reducible refine Blk.later (by assumption) ?_) | (with_reducible refine Blk.alloc ?_) | (with_reducible refine Blk.drewN ?_) | (with_reducible refine Blk.drew ?_) | (with_reducible refine Blk.other ?_ (by first | omega | (simp; done) | (simp; omega)))))
        · (repeat' (first | (with_reducible exact Below.refl _ _) | (with_reducible assumption) | (with_reducible refine belowThru ?_ (by assumption)) | (with_reducible refine belowAlloc ?_) | (with_reducible refine Below.setCell ?_ (by first | omega | (simp; done) | (simp; omega)) _) | (with_reducible refine Below.drew ?_) | (with_reducible refine below_drewN ?_ _)))
        · first | exact fL | (simp; omega)
        · intro h; exact Own.set3 (f1 h) p5 (by decide) _ _ _
        · intro h; exact Own.set3 (f3 h) p5 (by decide) _ _ _
        · intro h; obtain ⟨p, q⟩ := f4 h; have hne := d45 h rfl; exact ⟨by (repeat' (first | (with_reducible assumption) | ((with_reducible refine Blk.new ?_); first | rfl | (simp; done)) | (with_reducible refine Blk.later (by assumption) ?_) | (with_reducible refine Blk.alloc ?_) | (with_reducible refine Blk.drewN ?_) | (with_reducible refine Blk.drew ?_) | (with_reducible refine Blk.other ?_ (by first | omega | (simp; done) | (simp; omega))))), q⟩
        · intro _; exact ⟨Blk.set (Blk.set (Blk.set p5)), q5⟩
        · exact d45
        · intro _; exact ⟨rfl, rfl⟩
        · intro _; exact ⟨rfl, rfl⟩
      · exfalso; simp at hi1; omega
    case hfin =>
      intro a9 w9 hI
      obtain ⟨gg0, gg1, gg2, gg3, gg4, gg5, gg6, gg7, x4, x5, ao, ap, co, cp, hL, rfl, fb0, fb1, fb2, fB, fL, f1, f3, f4, f5, d45, s6, s7⟩ := hI
      have hL2 : #[true, true, true, true, true, true, true, true] = #[gg0, gg1, gg2, gg3, gg4, gg5, gg6, gg7] := hL
      cases hL2
      obtain ⟨p4, q4⟩ := f4 rfl; obtain ⟨p5, q5⟩ := f5 rfl; have n45 := d45 rfl rfl; have o1 := f1 rfl; have o3 := f3 rfl
      clear f4 f5 d45 s6 s7 f1 f3
      simp only [cond_true] at p4 p5
      simp only [Act.put, List.setIfInBounds_toArray, List.set_cons_zero, List.set_cons_succ]
      simp only [cond_true]
      go_wp2_with fail
      go_meet
      exact ⟨⟨x4, x5, ao, ap, co, cp, rfl, rfl, q4, q5, n45, p4, p5, o1, o3⟩, fb0, fb1, fb2, fB⟩
  case rest =>
    clear a0 b0 a1 b1 z0 z1 z2 k0 k1 k2 hB
    obtain ⟨⟨b9, b10, ao, ap, co, cp, rfl, rfl, q9, q10, hne, k3, k4, O9, O10⟩, k0, k1, k2, hBw⟩ := hcut
    obtain ⟨w0, rfl⟩ : ∃ w0, w0 = wc := ⟨_, rfl⟩
    have HO := Lib.hid O9.row
    have HQ := Lib.hid O10.row
    clear O9 O10
    have hBo : Below w0.heap.size w0 w0 := Below.refl _ _
    have hs1 := hBw.size
    obtain ⟨a0, b0⟩ := k0.read; obtain ⟨a1, b1⟩ := k1.read; obtain ⟨a2, b2⟩ := k2.read; obtain ⟨a3, b3⟩ := k3.read; obtain ⟨a4, b4⟩ := k4.read
    have z0 := k0.lt; have z1 := k1.lt; have z2 := k2.lt; have z3 := k3.lt; have z4 := k4.lt
    -- the first image
    go_wp2_with fail
    refine (HP.out ao co _ (HO.out.later (by (repeat' (first | (with_reducible exact Below.refl _ _) | (with_reducible assumption) | (with_reducible refine belowThru ?_ (by assumption)) | (with_reducible refine belowAlloc ?_) | (with_reducible refine Below.setCell ?_ (by first | omega | (simp; done) | (simp; omega)) _) | (with_reducible refine Below.drew ?_) | (with_reducible refine below_drewN ?_ _)))))).mono ?_
    rintro e w2 ⟨ax, nx, cx, rfl, hNx, hb⟩
    (try (have zk := k0.lt; (first | ((with_reducible refine Blk.keepG hb k0 (fun h => ?_) ?_); (focus ((repeat' (first | (with_reducible assumption) | ((with_reducible refine Blk.new ?_); first | rfl | (simp; done)) | (with_reducible refine Blk.later (by assumption) ?_) | (with_reducible refine Blk.alloc ?_) | (with_reducible refine Blk.drewN ?_) | (with_reducible refine Blk.drew ?_) | (with_reducible refine Blk.other ?_ (by first | omega | (simp; done) | (simp; omega))))); done)); clear k0; intro k0) | (with_reducible replace k0 := Blk.later hb (Blk.set (Blk.set k0))) | (with_reducible replace k0 := Blk.later hb (Blk.set k0))); clear a0 b0; obtain ⟨a0, b0⟩ := k0.read; have zl := k0.lt)); (try (have zk := k1.lt; (first | ((with_reducible refine Blk.keepG hb k1 (fun h => ?_) ?_); (focus ((repeat' (first | (with_reducible assumption) | ((with_reducible refine Blk.new ?_); first | rfl | (simp; done)) | (with_reducible refine Blk.later (by assumption) ?_) | (with_reducible refine Blk.alloc ?_) | (with_reducible refine Blk.drewN ?_) | (with_reducible refine Blk.drew ?_) | (with_reducible refine Blk.other ?_ (by first | omega | (simp; done) | (simp; omega))))); done)); clear k1; intro k1) | (with_reducible replace k1 := Blk.later hb (Blk.set (Blk.set k1))) | (with_reducible replace k1 := Blk.later hb (Blk.set k1))); clear a1 b1; obtain ⟨a1, b1⟩ := k1.read; have zl := k1.lt)); (try (have zk := k2.lt; (first | ((with_reducible refine Blk.keepG hb k2 (fun h => ?_) ?_); (focus ((repeat' (first | (with_reducible assumption) | ((with_reducible refine Blk.new ?_); first | rfl | (simp; done)) | (with_reducible refine Blk.later (by assumption) ?_) | (with_reducible refine Blk.alloc ?_) | (with_reducible refine Blk.drewN ?_) | (with_reducible refine Blk.drew ?_) | (with_reducible refine Blk.other ?_ (by first | omega | (simp; done) | (simp; omega))))); done)); clear k2; intro k2) | (with_reducible replace k2 := Blk.later hb (Blk.set (Blk.set k2))) | (with_reducible replace k2 := Blk.later hb (Blk.set k2))); clear a2 b2; obtain ⟨a2, b2⟩ := k2.read; have zl := k2.lt)); (try (have zk := k3.lt; (first | ((with_reducible refine Blk.keepG hb k3 (fun h => ?_) ?_); (focus ((repeat' (first | (with_reducible assumption) | ((with_reducible refine Blk.new ?_); first | rfl | (simp; done)) | (with_reducible refine Blk.later (by assumption) ?_) | (with_reducible refine Blk.alloc ?_) | (with_reducible refine Blk.drewN ?_) | (with_reducible refine Blk.drew ?_) | (with_reducible refine Blk.other ?_ (by first | omega | (simp; done) | (simp; omega))))); done)); clear k3; intro k3) | (with_reducible replace k3 := Blk.later hb (Blk.set (Blk.set k3))) | (with_reducible replace k3 := Blk.later hb (Blk.set k3))); clear a3 b3; obtain ⟨a3, b3⟩ := k3.read; have zl := k3.lt)); (try (have zk := k4.lt; (first | ((with_reducible refine Blk.keepG hb k4 (fun h => ?_) ?_); (focus ((repeat' (first | (with_reducible assumption) | ((with_reducible refine Blk.new ?_); first | rfl | (simp; done)) | (with_reducible refine Blk.later (by assumption) ?_) | (with_reducible refine Blk.alloc ?_) | (with_reducible refine Blk.drewN ?_) | (with_reducible refine Blk.drew ?_) | (with_reducible refine Blk.other ?_ (by first | omega | (simp; done) | (simp; omega))))); done)); clear k4; intro k4) | (with_reducible replace k4 := Blk.later hb (Blk.set (Blk.set k4))) | (with_reducible replace k4 := Blk.later hb (Blk.set k4))); clear a4 b4; obtain ⟨a4, b4⟩ := k4.read; have zl := k4.lt)); (try (have zk := k5.lt; (first | ((with_reducible refine Blk.keepG hb k5 (fun h => ?_) ?_); (focus ((repeat' (first | (with_reducible assumption) | ((with_reducible refine Blk.new ?_); first | rfl | (simp; done)) | (with_reducible refine Blk.later (by assumption) ?_) | (with_reducible refine Blk.alloc ?_) | (with_reducible refine Blk.drewN ?_) | (with_reducible refine Blk.drew ?_) | (with_reducible refine Blk.other ?_ (by first | omega | (simp; done) | (simp; omega))))); done)); clear k5; intro k5) | (with_reducible replace k5 := Blk.later hb (Blk.set (Blk.set k5))) | (with_reducible replace k5 := Blk.later hb (Blk.set k5))); clear a5 b5; obtain ⟨a5, b5⟩ := k5.read; have zl := k5.lt))
    replace hBw : Below w.heap.size w w2 := belowThru (by (repeat' (first | (with_reducible exact Below.refl _ _) | (with_reducible assumption) | (with_reducible refine belowThru ?_ (by assumption)) | (with_reducible refine belowAlloc ?_) | (with_reducible refine Below.setCell ?_ (by first | omega | (simp; done) | (simp; omega)) _) | (with_reducible refine Below.drew ?_) | (with_reducible refine below_drewN ?_ _)))) hb
    replace hBo : Below w0.heap.size w0 w2 := belowThru (by (repeat' (first | (with_reducible exact Below.refl _ _) | (with_reducible assumption) | (with_reducible refine belowThru ?_ (by assumption)) | (with_reducible refine belowAlloc ?_) | (with_reducible refine Below.setCell ?_ (by first | omega | (simp; done) | (simp; omega)) _) | (with_reducible refine Below.drew ?_) | (with_reducible refine below_drewN ?_ _)))) hb
    have hs2 := hBo.size
    have HX := Lib.hid (New.mono (B' := w0.heap.size) (by first | omega | (simp; omega)) hNx)
    clear hb hNx
    go_wp2_with fail
    refine (HP'.out a c _ (HR.out.later (by (repeat' (first | (with_reducible exact Below.refl _ _) | (with_reducible assumption) | (with_reducible refine belowThru ?_ (by assumption)) | (with_reducible refine belowAlloc ?_) | (with_reducible refine Below.setCell ?_ (by first | omega | (simp; done) | (simp; omega)) _) | (with_reducible refine Below.drew ?_) | (with_reducible refine below_drewN ?_ _)))))).mono ?_
    rintro e w3 ⟨ay, ny, cy, rfl, hNy, hb⟩
    (try (have zk := k0.lt; (first | ((with_reducible refine Blk.keepG hb k0 (fun h => ?_) ?_); (focus ((repeat' (first | (with_reducible assumption) | ((with_reducible refine Blk.new ?_); first | rfl | (simp; done)) | (with_reducible refine Blk.later (by assumption) ?_) | (with_reducible refine Blk.alloc ?_) | (with_reducible refine Blk.drewN ?_) | (with_reducible refine Blk.drew ?_) | (with_reducible refine Blk.other ?_ (by first | omega | (simp; done) | (simp; omega))))); done)); clear k0; intro k0) | (with_reducible replace k0 := Blk.later hb (Blk.set (Blk.set k0))) | (with_reducible replace k0 := Blk.later hb (Blk.set k0))); clear a0 b0; obtain ⟨a0, b0⟩ := k0.read; have zl := k0.lt)); (try (have zk := k1.lt; (first | ((with_reducible refine Blk.keepG hb k1 (fun h => ?_) ?_); (focus ((repeat' (first | (with_reducible assumption) | ((with_reducible refine Blk.new ?_); first | rfl | (simp; done)) | (with_reducible refine Blk.later (by assumption) ?_) | (with_reducible refine Blk.alloc ?_) | (with_reducible refine Blk.drewN ?_) | (with_reducible refine Blk.drew ?_) | (with_reducible refine Blk.other ?_ (by first | omega | (simp; done) | (simp; omega))))); done)); clear k1; intro k1) | (with_reducible replace k1 := Blk.later hb (Blk.set (Blk.set k1))) | (with_reducible replace k1 := Blk.later hb (Blk.set k1))); clear a1 b1; obtain ⟨a1, b1⟩ := k1.read; have zl := k1.lt)); (try (have zk := k2.lt; (first | ((with_reducible refine Blk.keepG hb k2 (fun h => ?_) ?_); (focus ((repeat' (first | (with_reducible assumption) | ((with_reducible refine Blk.new ?_); first | rfl | (simp; done)) | (with_reducible refine Blk.later (by assumption) ?_) | (with_reducible refine Blk.alloc ?_) | (with_reducible refine Blk.drewN ?_) | (with_reducible refine Blk.drew ?_) | (with_reducible refine Blk.other ?_ (by first | omega | (simp; done) | (simp; omega))))); done)); clear k2; intro k2) | (with_reducible replace k2 := Blk.later hb (Blk.set (Blk.set k2))) | (with_reducible replace k2 := Blk.later hb (Blk.set k2))); clear a2 b2; obtain ⟨a2, b2⟩ := k2.read; have zl := k2.lt)); (try (have zk := k3.lt; (first | ((with_reducible refine Blk.keepG hb k3 (fun h => ?_) ?_); (focus ((repeat' (first | (with_reducible assumption) | ((with_reducible refine Blk.new ?_); first | rfl | (simp; done)) | (with_reducible refine Blk.later (by assumption) ?_) | (with_reducible refine Blk.alloc ?_) | (with_reducible refine Blk.drewN ?_) | (with_reducible refine Blk.drew ?_) | (with_reducible refine Blk.other ?_ (by first | omega | (simp; done) | (simp; omega))))); done)); clear k3; intro k3) | (with_reducible replace k3 := Blk.later hb (Blk.set (Blk.set k3))) | (with_reducible replace k3 := Blk.later hb (Blk.set k3))); clear a3 b3; obtain ⟨a3, b3⟩ := k3.read; have zl := k3.lt)); (try (have zk := k4.lt; (first | ((with_reducible refine Blk.keepG hb k4 (fun h => ?_) ?_); (focus ((repeat' (first | (with_reducible assumption) | ((with_reducible refine Blk.new ?_); first | rfl | (simp; done)) | (with_reducible refine Blk.later (by assumption) ?_) | (with_reducible refine Blk.alloc ?_) | (with_reducible refine Blk.drewN ?_) | (with_reducible refine Blk.drew ?_) | (with_reducible refine Blk.other ?_ (by first | omega | (simp; done) | (simp; omega))))); done)); clear k4; intro k4) | (with_reducible replace k4 := Blk.later hb (Blk.set (Blk.set k4))) | (with_reducible replace k4 := Blk.later hb (Blk.set k4))); clear a4 b4; obtain ⟨a4, b4⟩ := k4.read; have zl := k4.lt)); (try (have zk := k5.lt; (first | ((with_reducible refine Blk.keepG hb k5 (fun h => ?_) ?_); (focus ((repeat' (first | (with_reducible assumption) | ((with_reducible refine Blk.new ?_); first | rfl | (simp; done)) | (with_reducible refine Blk.later (by assumption) ?_) | (with_reducible refine Blk.alloc ?_) | (with_reducible refine Blk.drewN ?_) | (with_reducible refine Blk.drew ?_) | (with_reducible refine Blk.other ?_ (by first | omega | (simp; done) | (simp; omega))))); done)); clear k5; intro k5) | (with_reducible replace k5 := Blk.later hb (Blk.set (Blk.set k5))) | (with_reducible replace k5 := Blk.later hb (Blk.set k5))); clear a5 b5; obtain ⟨a5, b5⟩ := k5.read; have zl := k5.lt))
    ((with_reducible have k5 := Blk.later hb (Blk.new rfl)); (try simp only [World.size_alloc, World.size_drew, World.heap_drewN] at k5); obtain ⟨a5, b5⟩ := k5.read; have zl := k5.lt)
    have hX3 := New.later (w' := w3) (by (repeat' (first | (with_reducible exact Below.refl _ _) | (with_reducible assumption) | (with_reducible refine belowThru ?_ (by assumption)) | (with_reducible refine belowAlloc ?_) | (with_reducible refine Below.setCell ?_ (by first | omega | (simp; done) | (simp; omega)) _) | (with_reducible refine Below.drew ?_) | (with_reducible refine below_drewN ?_ _)))) HX.out
    replace hBw : Below w.heap.size w w3 := belowThru (by (repeat' (first | (with_reducible exact Below.refl _ _) | (with_reducible assumption) | (with_reducible refine belowThru ?_ (by assumption)) | (with_reducible refine belowAlloc ?_) | (with_reducible refine Below.setCell ?_ (by first | omega | (simp; done) | (simp; omega)) _) | (with_reducible refine Below.drew ?_) | (with_reducible refine below_drewN ?_ _)))) hb
    replace hBo : Below w0.heap.size w0 w3 := belowThru (by (repeat' (first | (with_reducible exact Below.refl _ _) | (with_reducible assumption) | (with_reducible refine belowThru ?_ (by assumption)) | (with_reducible refine belowAlloc ?_) | (with_reducible refine Below.setCell ?_ (by first | omega | (simp; done) | (simp; omega)) _) | (with_reducible refine Below.drew ?_) | (with_reducible refine below_drewN ?_ _)))) hb
    have hs3 := hBo.size
    clear hb HX
    go_upto_region 4 with fail
    have k6 : Blk (w3.alloc (.cells #[.int .i64 W1, .int .i64 H1, .slice ay ny cy] 24)) w3.heap.size #[.int .i64 W1, .int .i64 H1, .slice ay ny cy] 24 := Blk.new rfl
    replace k0 := k0.alloc (o := (.cells #[.int .i64 W1, .int .i64 H1, .slice ay ny cy] 24)); replace k1 := k1.alloc (o := (.cells #[.int .i64 W1, .int .i64 H1, .slice ay ny cy] 24)); replace k2 := k2.alloc (o := (.cells #[.int .i64 W1, .int .i64 H1, .slice ay ny cy] 24)); replace k3 := k3.alloc (o := (.cells #[.int .i64 W1, .int .i64 H1, .slice ay ny cy] 24)); replace k4 := k4.alloc (o := (.cells #[.int .i64 W1, .int .i64 H1, .slice ay ny cy] 24)); replace k5 := k5.alloc (o := (.cells #[.int .i64 W1, .int .i64 H1, .slice ay ny cy] 24))
    have HXX := Lib.hid (New.later (w' := w3.alloc (.cells #[.int .i64 W1, .int .i64 H1, .slice ay ny cy] 24)) (belowAlloc (Below.refl _ _)) hX3)
    have HXY := Lib.hid (New.later (w' := w3.alloc (.cells #[.int .i64 W1, .int .i64 H1, .slice ay ny cy] 24)) (belowAlloc (Below.refl _ _)) hNy)
    replace hBw : Below w.heap.size w (w3.alloc (.cells #[.int .i64 W1, .int .i64 H1, .slice ay ny cy] 24)) := belowAlloc hBw
    replace hBo : Below w0.heap.size w0 (w3.alloc (.cells #[.int .i64 W1, .int .i64 H1, .slice ay ny cy] 24)) := belowAlloc hBo
    have hnx : nx ≤ maxLen := by unfold maxLen; have := hX3.1; omega
    clear a0 b0 a1 b1 a2 b2 a3 b3 a4 b4 a5 b5 hX3 hNy
    have q5 : w0.heap.size ≤ w2.heap.size := hs2
    have q6 : w0.heap.size ≤ w3.heap.size := hs3
    have q56 : w2.heap.size < w3.heap.size := by have := k5.lt; first | omega | assumption
    obtain ⟨Wp, hWp⟩ : ∃ Wp, w3.alloc (.cells #[.int .i64 W1, .int .i64 H1, .slice ay ny cy] 24) = Wp := ⟨_, rfl⟩
    obtain ⟨bx, hbx⟩ : ∃ bx, w2.heap.size = bx := ⟨_, rfl⟩
    obtain ⟨bq, hbq⟩ : ∃ bq, w3.heap.size = bq := ⟨_, rfl⟩
    rw [hWp] at k0 k1 k2 k3 k4 k5 k6 hBw hBo HXX HXY ⊢
    rw [hbx] at k5 q5 q56 ⊢
    rw [hbq] at k6 q6 q56 ⊢
    clear hWp hbx hbq
    have zz := hBo.size
    go_cut [46] (fun s46 wx => s46 = .bool false ∧ Below Wp.heap.size Wp wx)
    case first =>
      go_region_held3 (fun w' => (Blk w' w.heap.size #[.int .i64 W, .int .i64 H, .slice a n c] 24 ∧ (∀ i : Nat, w'.cell? ⟨w.heap.size, i, none⟩ = (#[.int .i64 W, .int .i64 H, .slice a n c] : Array Value)[i]?)) ∧ (Blk w' b9 #[.int .i64 W, .int .i64 H, .slice ao n co] 24 ∧ (∀ i : Nat, w'.cell? ⟨b9, i, none⟩ = (#[.int .i64 W, .int .i64 H, .slice ao n co] : Array Value)[i]?)) ∧ (Blk w' bx #[.int .i64 W1, .int .i64 H1, .slice ax nx cx] 24 ∧ (∀ i : Nat, w'.cell? ⟨bx, i, none⟩ = (#[.int .i64 W1, .int .i64 H1, .slice ax nx cx] : Array Value)[i]?)) ∧ (Blk w' bq #[.int .i64 W1, .int .i64 H1, .slice ay ny cy] 24 ∧ (∀ i : Nat, w'.cell? ⟨bq, i, none⟩ = (#[.int .i64 W1, .int .i64 H1, .slice ay ny cy] : Array Value)[i]?)) ∧ Below Wp.heap.size Wp w')
        (((first | (apply hold4; (focus assumption); intro p0 p1 p2 p3 pB) | skip); refine ⟨Blk.full ?_, Blk.full ?_, Blk.full ?_, Blk.full ?_, ?_⟩; all_goals (first | ((repeat' (first | (with_reducible assumption) | ((with_reducible refine Blk.new ?_); first | rfl | (simp; done)) | (with_reducible refine Blk.later (by assumption) ?_) | (with_reducible refine Blk.alloc ?_) | (with_reducible refine Blk.drewN ?_) | (with_reducible refine Blk.drew ?_) | (with_reducible refine Blk.other ?_ (by first | omega | (simp; done) | (simp; omega))))); done) | ((repeat' (first | (with_reducible exact Below.refl _ _) | (with_reducible assumption) | (with_reducible refine belowThru ?_ (by assumption)) | (with_reducible refine belowAlloc ?_) | (with_reducible refine Below.setCell ?_ (by first | omega | (simp; done) | (simp; omega)) _) | (with_reducible refine Below.drew ?_) | (with_reducible refine below_drewN ?_ _))); done) | exact Below.refl _ _)))
        (first
        | (go_at_call 35; (with_reducible refine (same_yes W1 H1 ax ay nx ny cx cy Z1 hnx _ (HXX.out.row.later (by (first | (apply hold4; (focus assumption); intro p0 p1 p2 p3 pB) | skip); first | ((repeat' (first | (with_reducible exact Below.refl _ _) | (with_reducible assumption) | (with_reducible refine belowThru ?_ (by assumption)) | (with_reducible refine belowAlloc ?_) | (with_reducible refine Below.setCell ?_ (by first | omega | (simp; done) | (simp; omega)) _) | (with_reducible refine Below.drew ?_) | (with_reducible refine below_drewN ?_ _))); done) | exact Below.refl _ _)) (HXY.out.row.later (by (first | (apply hold4; (focus assumption); intro p0 p1 p2 p3 pB) | skip); first | ((repeat' (first | (with_reducible exact Below.refl _ _) | (with_reducible assumption) | (with_reducible refine belowThru ?_ (by assumption)) | (with_reducible refine belowAlloc ?_) | (with_reducible refine Below.setCell ?_ (by first | omega | (simp; done) | (simp; omega)) _) | (with_reducible refine Below.drew ?_) | (with_reducible refine below_drewN ?_ _))); done) | exact Below.refl _ _))).mono ?_); rintro e w1 ⟨rfl, hb⟩)
        | (go_at_call 36; (with_reducible refine (HK.out ao co _ (HO.out.later (by (first | (apply hold4; (focus assumption); intro p0 p1 p2 p3 pB) | skip); (repeat' (first | (with_reducible exact Below.refl _ _) | (with_reducible assumption) | (with_reducible refine belowThru ?_ (by assumption)) | (with_reducible refine belowAlloc ?_) | (with_reducible refine Below.setCell ?_ (by first | omega | (simp; done) | (simp; omega)) _) | (with_reducible refine Below.drew ?_) | (with_reducible refine below_drewN ?_ _)))))).mono ?_); rintro e w1 ⟨rfl, hb⟩)
        | (go_at_call 37; (with_reducible refine (HK'.out a c _ (HR.out.later (by (first | (apply hold4; (focus assumption); intro p0 p1 p2 p3 pB) | skip); (repeat' (first | (with_reducible exact Below.refl _ _) | (with_reducible assumption) | (with_reducible refine belowThru ?_ (by assumption)) | (with_reducible refine belowAlloc ?_) | (with_reducible refine Below.setCell ?_ (by first | omega | (simp; done) | (simp; omega)) _) | (with_reducible refine Below.drew ?_) | (with_reducible refine below_drewN ?_ _)))))).mono ?_); rintro e w1 ⟨rfl, hb⟩))
      all_goals
        apply hold4; (focus assumption); intro p0 p1 p2 p3 pB
        go_wp2_with fail
        go_meet
        exact ⟨rfl, pB⟩
    case rest =>
      obtain ⟨rfl, hb⟩ := hcut
      obtain ⟨w4, rfl⟩ : ∃ w4, w4 = wc := ⟨_, rfl⟩
      replace k0 := Blk.later hb k0
      replace k1 := Blk.later hb k1
      replace k2 := Blk.later hb k2
      replace k3 := Blk.later hb k3
      replace k4 := Blk.later hb k4
      replace k5 := Blk.later hb k5
      replace k6 := Blk.later hb k6
      obtain ⟨a0, b0⟩ := k0.read; obtain ⟨a1, b1⟩ := k1.read; obtain ⟨a2, b2⟩ := k2.read; obtain ⟨a3, b3⟩ := k3.read; obtain ⟨a4, b4⟩ := k4.read; obtain ⟨a5, b5⟩ := k5.read; obtain ⟨a6, b6⟩ := k6.read
      have hX4 := New.later hb HXX.out
      replace hBw : Below w.heap.size w w4 := belowThru hBw hb
      replace hBo : Below w0.heap.size w0 w4 := belowThru hBo hb
      clear hb HXX HXY HP HP' HK HK' hnx
      -- the values are changed
      go_wp2_with fail
      refine (spoil_any _ _ _ _ _ _ _ _ hX4 (by unfold maxLen; have := hX4.1; omega)).mono ?_
      rintro e w5 ⟨rfl, hg⟩
      have hx := hX4.blk
      replace hBw := hBw.grown hg hBw.size (fun g e => Nat.le_trans (by omega) (hx g e).1)
      replace hBo := hBo.grown hg hBo.size (fun g e => Nat.le_trans (by omega) (hx g e).1)
      have hgs := hg.size
      replace k0 := Blk.but hg (fun g e => Blk.ne k0 (hx g e).2 (by decide)) k0
      replace k1 := Blk.but hg (fun g e => Blk.ne k1 (hx g e).2 (by decide)) k1
      replace k2 := Blk.but hg (fun g e => Blk.ne k2 (hx g e).2 (by decide)) k2
      replace k3 := Blk.but hg (fun g e => Blk.ne k3 (hx g e).2 (by decide)) k3
      replace k4 := Blk.but hg (fun g e => Blk.ne k4 (hx g e).2 (by decide)) k4
      replace k5 := Blk.but hg (fun g e => Blk.ne k5 (hx g e).2 (by decide)) k5
      replace k6 := Blk.but hg (fun g e => Blk.ne k6 (hx g e).2 (by decide)) k6
      clear hx hg a0 b0 a1 b1 a2 b2 a3 b3 a4 b4 a5 b5 a6 b6 hX4
      obtain ⟨a0, b0⟩ := k0.read; obtain ⟨a1, b1⟩ := k1.read; obtain ⟨a2, b2⟩ := k2.read; obtain ⟨a3, b3⟩ := k3.read; obtain ⟨a4, b4⟩ := k4.read; obtain ⟨a5, b5⟩ := k5.read; obtain ⟨a6, b6⟩ := k6.read
      -- the image of two
      have hs5 := hBo.size
      go_wp2_with fail
      refine (HZ.out ao ap co cp _ (HO.out.later hBo) (HQ.out.later hBo)).mono ?_
      rintro e w6 ⟨ax, nx, cx, rfl, hNx, hb⟩
      (try (have zk := k0.lt; (first | ((with_reducible refine Blk.keepG hb k0 (fun h => ?_) ?_); (focus ((repeat' (first | (with_reducible assumption) | ((with_reducible refine Blk.new ?_); first | rfl | (simp; done)) | (with_reducible refine Blk.later (by assumption) ?_) | (with_reducible refine Blk.alloc ?_) | (with_reducible refine Blk.drewN ?_) | (with_reducible refine Blk.drew ?_) | (with_reducible refine Blk.other ?_ (by first | omega | (simp; done) | (simp; omega))))); done)); clear k0; intro k0) | (with_reducible replace k0 := Blk.later hb (Blk.set (Blk.set k0))) | (with_reducible replace k0 := Blk.later hb (Blk.set k0))); clear a0 b0; obtain ⟨a0, b0⟩ := k0.read; have zl := k0.lt)); (try (have zk := k1.lt; (first | ((with_reducible refine Blk.keepG hb k1 (fun h => ?_) ?_); (focus ((repeat' (first | (with_reducible assumption) | ((with_reducible refine Blk.new ?_); first | rfl | (simp; done)) | (with_reducible refine Blk.later (by assumption) ?_) | (with_reducible refine Blk.alloc ?_) | (with_reducible refine Blk.drewN ?_) | (with_reducible refine Blk.drew ?_) | (with_reducible refine Blk.other ?_ (by first | omega | (simp; done) | (simp; omega))))); done)); clear k1; intro k1) | (with_reducible replace k1 := Blk.later hb (Blk.set (Blk.set k1))) | (with_reducible replace k1 := Blk.later hb (Blk.set k1))); clear a1 b1; obtain ⟨a1, b1⟩ := k1.read; have zl := k1.lt)); (try (have zk := k2.lt; (first | ((with_reducible refine Blk.keepG hb k2 (fun h => ?_) ?_); (focus ((repeat' (first | (with_reducible assumption) | ((with_reducible refine Blk.new ?_); first | rfl | (simp; done)) | (with_reducible refine Blk.later (by assumption) ?_) | (with_reducible refine Blk.alloc ?_) | (with_reducible refine Blk.drewN ?_) | (with_reducible refine Blk.drew ?_) | (with_reducible refine Blk.other ?_ (by first | omega | (simp; done) | (simp; omega))))); done)); clear k2; intro k2) | (with_reducible replace k2 := Blk.later hb (Blk.set (Blk.set k2))) | (with_reducible replace k2 := Blk.later hb (Blk.set k2))); clear a2 b2; obtain ⟨a2, b2⟩ := k2.read; have zl := k2.lt)); (try (have zk := k3.lt; (first | ((with_reducible refine Blk.keepG hb k3 (fun h => ?_) ?_); (focus ((repeat' (first | (with_reducible assumption) | ((with_reducible refine Blk.new ?_); first | rfl | (simp; done)) | (with_reducible refine Blk.later (by assumption) ?_) | (with_reducible refine Blk.alloc ?_) | (with_reducible refine Blk.drewN ?_) | (with_reducible refine Blk.drew ?_) | (with_reducible refine Blk.other ?_ (by first | omega | (simp; done) | (simp; omega))))); done)); clear k3; intro k3) | (with_reducible replace k3 := Blk.later hb (Blk.set (Blk.set k3))) | (with_reducible replace k3 := Blk.later hb (Blk.set k3))); clear a3 b3; obtain ⟨a3, b3⟩ := k3.read; have zl := k3.lt)); (try (have zk := k4.lt; (first | ((with_reducible refine Blk.keepG hb k4 (fun h => ?_) ?_); (focus ((repeat' (first | (with_reducible assumption) | ((with_reducible refine Blk.new ?_); first | rfl | (simp; done)) | (with_reducible refine Blk.later (by assumption) ?_) | (with_reducible refine Blk.alloc ?_) | (with_reducible refine Blk.drewN ?_) | (with_reducible refine Blk.drew ?_) | (with_reducible refine Blk.other ?_ (by first | omega | (simp; done) | (simp; omega))))); done)); clear k4; intro k4) | (with_reducible replace k4 := Blk.later hb (Blk.set (Blk.set k4))) | (with_reducible replace k4 := Blk.later hb (Blk.set k4))); clear a4 b4; obtain ⟨a4, b4⟩ := k4.read; have zl := k4.lt)); (try (have zk := k5.lt; (first | ((with_reducible refine Blk.keepG hb k5 (fun h => ?_) ?_); (focus ((repeat' (first | (with_reducible assumption) | ((with_reducible refine Blk.new ?_); first | rfl | (simp; done)) | (with_reducible refine Blk.later (by assumption) ?_) | (with_reducible refine Blk.alloc ?_) | (with_reducible refine Blk.drewN ?_) | (with_reducible refine Blk.drew ?_) | (with_reducible refine Blk.other ?_ (by first | omega | (simp; done) | (simp; omega))))); done)); clear k5; intro k5) | (with_reducible replace k5 := Blk.later hb (Blk.set (Blk.set k5))) | (with_reducible replace k5 := Blk.later hb (Blk.set k5))); clear a5 b5; obtain ⟨a5, b5⟩ := k5.read; have zl := k5.lt))
      (try (have zk := k6.lt; (first | ((with_reducible refine Blk.keepG hb k6 (fun h => ?_) ?_); (focus ((repeat' (first | (with_reducible assumption) | ((with_reducible refine Blk.new ?_); first | rfl | (simp; done)) | (with_reducible refine Blk.later (by assumption) ?_) | (with_reducible refine Blk.alloc ?_) | (with_reducible refine Blk.drewN ?_) | (with_reducible refine Blk.drew ?_) | (with_reducible refine Blk.other ?_ (by first | omega | (simp; done) | (simp; omega))))); done)); clear k6; intro k6) | (with_reducible replace k6 := Blk.later hb (Blk.set (Blk.set k6))) | (with_reducible replace k6 := Blk.later hb (Blk.set k6))); clear a6 b6; obtain ⟨a6, b6⟩ := k6.read; have zl := k6.lt))
      replace hBw : Below w.heap.size w w6 := belowThru hBw hb
      replace hBo : Below w0.heap.size w0 w6 := belowThru hBo hb
      have HX := Lib.hid (New.mono (B' := w0.heap.size) hs5 hNx)
      clear hb hNx
      go_wp2_with fail
      refine (HZ'.out a a' c c' _ (HR.out.later (by (repeat' (first | (with_reducible exact Below.refl _ _) | (with_reducible assumption) | (with_reducible refine belowThru ?_ (by assumption)) | (with_reducible refine belowAlloc ?_) | (with_reducible refine Below.setCell ?_ (by first | omega | (simp; done) | (simp; omega)) _) | (with_reducible refine Below.drew ?_) | (with_reducible refine below_drewN ?_ _))))) (HS.out.later (by (repeat' (first | (with_reducible exact Below.refl _ _) | (with_reducible assumption) | (with_reducible refine belowThru ?_ (by assumption)) | (with_reducible refine belowAlloc ?_) | (with_reducible refine Below.setCell ?_ (by first | omega | (simp; done) | (simp; omega)) _) | (with_reducible refine Below.drew ?_) | (with_reducible refine below_drewN ?_ _)))))).mono ?_
      rintro e w7 ⟨ay, ny, cy, rfl, hNy, hb⟩
      have hXa := New.later hb (New.set3 HX.out k5 (by decide) _ _ _)
      replace k5 := Blk.later hb (Blk.set (Blk.set (Blk.set k5))); clear a5 b5; obtain ⟨a5, b5⟩ := k5.read
      (try (have zk := k0.lt; (first | ((with_reducible refine Blk.keepG hb k0 (fun h => ?_) ?_); (focus ((repeat' (first | (with_reducible assumption) | ((with_reducible refine Blk.new ?_); first | rfl | (simp; done)) | (with_reducible refine Blk.later (by assumption) ?_) | (with_reducible refine Blk.alloc ?_) | (with_reducible refine Blk.drewN ?_) | (with_reducible refine Blk.drew ?_) | (with_reducible refine Blk.other ?_ (by first | omega | (simp; done) | (simp; omega))))); done)); clear k0; intro k0) | (with_reducible replace k0 := Blk.later hb (Blk.set (Blk.set k0))) | (with_reducible replace k0 := Blk.later hb (Blk.set k0))); clear a0 b0; obtain ⟨a0, b0⟩ := k0.read; have zl := k0.lt)); (try (have zk := k1.lt; (first | ((with_reducible refine Blk.keepG hb k1 (fun h => ?_) ?_); (focus ((repeat' (first | (with_reducible assumption) | ((with_reducible refine Blk.new ?_); first | rfl | (simp; done)) | (with_reducible refine Blk.later (by assumption) ?_) | (with_reducible refine Blk.alloc ?_) | (with_reducible refine Blk.drewN ?_) | (with_reducible refine Blk.drew ?_) | (with_reducible refine Blk.other ?_ (by first | omega | (simp; done) | (simp; omega))))); done)); clear k1; intro k1) | (with_reducible replace k1 := Blk.later hb (Blk.set (Blk.set k1))) | (with_reducible replace k1 := Blk.later hb (Blk.set k1))); clear a1 b1; obtain ⟨a1, b1⟩ := k1.read; have zl := k1.lt)); (try (have zk := k2.lt; (first | ((with_reducible refine Blk.keepG hb k2 (fun h => ?_) ?_); (focus ((repeat' (first | (with_reducible assumption) | ((with_reducible refine Blk.new ?_); first | rfl | (simp; done)) | (with_reducible refine Blk.later (by assumption) ?_) | (with_reducible refine Blk.alloc ?_) | (with_reducible refine Blk.drewN ?_) | (with_reducible refine Blk.drew ?_) | (with_reducible refine Blk.other ?_ (by first | omega | (simp; done) | (simp; omega))))); done)); clear k2; intro k2) | (with_reducible replace k2 := Blk.later hb (Blk.set (Blk.set k2))) | (with_reducible replace k2 := Blk.later hb (Blk.set k2))); clear a2 b2; obtain ⟨a2, b2⟩ := k2.read; have zl := k2.lt)); (try (have zk := k3.lt; (first | ((with_reducible refine Blk.keepG hb k3 (fun h => ?_) ?_); (focus ((repeat' (first | (with_reducible assumption) | ((with_reducible refine Blk.new ?_); first | rfl | (simp; done)) | (with_reducible refine Blk.later (by assumption) ?_) | (with_reducible refine Blk.alloc ?_) | (with_reducible refine Blk.drewN ?_) | (with_reducible refine Blk.drew ?_) | (with_reducible refine Blk.other ?_ (by first | omega | (simp; done) | (simp; omega))))); done)); clear k3; intro k3) | (with_reducible replace k3 := Blk.later hb (Blk.set (Blk.set k3))) | (with_reducible replace k3 := Blk.later hb (Blk.set k3))); clear a3 b3; obtain ⟨a3, b3⟩ := k3.read; have zl := k3.lt)); (try (have zk := k4.lt; (first | ((with_reducible refine Blk.keepG hb k4 (fun h => ?_) ?_); (focus ((repeat' (first | (with_reducible assumption) | ((with_reducible refine Blk.new ?_); first | rfl | (simp; done)) | (with_reducible refine Blk.later (by assumption) ?_) | (with_reducible refine Blk.alloc ?_) | (with_reducible refine Blk.drewN ?_) | (with_reducible refine Blk.drew ?_) | (with_reducible refine Blk.other ?_ (by first | omega | (simp; done) | (simp; omega))))); done)); clear k4; intro k4) | (with_reducible replace k4 := Blk.later hb (Blk.set (Blk.set k4))) | (with_reducible replace k4 := Blk.later hb (Blk.set k4))); clear a4 b4; obtain ⟨a4, b4⟩ := k4.read; have zl := k4.lt)); (try (have zk := k5.lt; (first | ((with_reducible refine Blk.keepG hb k5 (fun h => ?_) ?_); (focus ((repeat' (first | (with_reducible assumption) | ((with_reducible refine Blk.new ?_); first | rfl | (simp; done)) | (with_reducible refine Blk.later (by assumption) ?_) | (with_reducible refine Blk.alloc ?_) | (with_reducible refine Blk.drewN ?_) | (with_reducible refine Blk.drew ?_) | (with_reducible refine Blk.other ?_ (by first | omega | (simp; done) | (simp; omega))))); done)); clear k5; intro k5) | (with_reducible replace k5 := Blk.later hb (Blk.set (Blk.set k5))) | (with_reducible replace k5 := Blk.later hb (Blk.set k5))); clear a5 b5; obtain ⟨a5, b5⟩ := k5.read; have zl := k5.lt))
      (try (have zk := k6.lt; (first | ((with_reducible refine Blk.keepG hb k6 (fun h => ?_) ?_); (focus ((repeat' (first | (with_reducible assumption) | ((with_reducible refine Blk.new ?_); first | rfl | (simp; done)) | (with_reducible refine Blk.later (by assumption) ?_) | (with_reducible refine Blk.alloc ?_) | (with_reducible refine Blk.drewN ?_) | (with_reducible refine Blk.drew ?_) | (with_reducible refine Blk.other ?_ (by first | omega | (simp; done) | (simp; omega))))); done)); clear k6; intro k6) | (with_reducible replace k6 := Blk.later hb (Blk.set (Blk.set k6))) | (with_reducible replace k6 := Blk.later hb (Blk.set k6))); clear a6 b6; obtain ⟨a6, b6⟩ := k6.read; have zl := k6.lt))
      replace hBw : Below w.heap.size w w7 := belowThru (by (repeat' (first | (with_reducible exact Below.refl _ _) | (with_reducible assumption) | (with_reducible refine belowThru ?_ (by assumption)) | (with_reducible refine belowAlloc ?_) | (with_reducible refine Below.setCell ?_ (by first | omega | (simp; done) | (simp; omega)) _) | (with_reducible refine Below.drew ?_) | (with_reducible refine below_drewN ?_ _)))) hb
      replace hBo : Below w0.heap.size w0 w7 := belowThru (by (repeat' (first | (with_reducible exact Below.refl _ _) | (with_reducible assumption) | (with_reducible refine belowThru ?_ (by assumption)) | (with_reducible refine belowAlloc ?_) | (with_reducible refine Below.setCell ?_ (by first | omega | (simp; done) | (simp; omega)) _) | (with_reducible refine Below.drew ?_) | (with_reducible refine below_drewN ?_ _)))) hb
      clear hb HX
      go_wp2_with fail
      refine (same_yes W2 H2 ax ay nx ny cx cy Z2 (by unfold maxLen; have := hXa.1; omega) _ (New.set3 hXa k6 (by decide) _ _ _).row (New.set3 hNy k6 (by decide) _ _ _).row).mono ?_
      rintro e w8 ⟨rfl, hb⟩
      have hXb := New.later hb (New.set3 hXa k6 (by decide) _ _ _)
      replace k6 := Blk.later hb (Blk.set (Blk.set (Blk.set k6))); clear a6 b6; obtain ⟨a6, b6⟩ := k6.read
      (try (have zk := k0.lt; (first | ((with_reducible refine Blk.keepG hb k0 (fun h => ?_) ?_); (focus ((repeat' (first | (with_reducible assumption) | ((with_reducible refine Blk.new ?_); first | rfl | (simp; done)) | (with_reducible refine Blk.later (by assumption) ?_) | (with_reducible refine Blk.alloc ?_) | (with_reducible refine Blk.drewN ?_) | (with_reducible refine Blk.drew ?_) | (with_reducible refine Blk.other ?_ (by first | omega | (simp; done) | (simp; omega))))); done)); clear k0; intro k0) | (with_reducible replace k0 := Blk.later hb (Blk.set (Blk.set k0))) | (with_reducible replace k0 := Blk.later hb (Blk.set k0))); clear a0 b0; obtain ⟨a0, b0⟩ := k0.read; have zl := k0.lt)); (try (have zk := k1.lt; (first | ((with_reducible refine Blk.keepG hb k1 (fun h => ?_) ?_); (focus ((repeat' (first | (with_reducible assumption) | ((with_reducible refine Blk.new ?_); first | rfl | (simp; done)) | (with_reducible refine Blk.later (by assumption) ?_) | (with_reducible refine Blk.alloc ?_) | (with_reducible refine Blk.drewN ?_) | (with_reducible refine Blk.drew ?_) | (with_reducible refine Blk.other ?_ (by first | omega | (simp; done) | (simp; omega))))); done)); clear k1; intro k1) | (with_reducible replace k1 := Blk.later hb (Blk.set (Blk.set k1))) | (with_reducible replace k1 := Blk.later hb (Blk.set k1))); clear a1 b1; obtain ⟨a1, b1⟩ := k1.read; have zl := k1.lt)); (try (have zk := k2.lt; (first | ((with_reducible refine Blk.keepG hb k2 (fun h => ?_) ?_); (focus ((repeat' (first | (with_reducible assumption) | ((with_reducible refine Blk.new ?_); first | rfl | (simp; done)) | (with_reducible refine Blk.later (by assumption) ?_) | (with_reducible refine Blk.alloc ?_) | (with_reducible refine Blk.drewN ?_) | (with_reducible refine Blk.drew ?_) | (with_reducible refine Blk.other ?_ (by first | omega | (simp; done) | (simp; omega))))); done)); clear k2; intro k2) | (with_reducible replace k2 := Blk.later hb (Blk.set (Blk.set k2))) | (with_reducible replace k2 := Blk.later hb (Blk.set k2))); clear a2 b2; obtain ⟨a2, b2⟩ := k2.read; have zl := k2.lt)); (try (have zk := k3.lt; (first | ((with_reducible refine Blk.keepG hb k3 (fun h => ?_) ?_); (focus ((repeat' (first | (with_reducible assumption) | ((with_reducible refine Blk.new ?_); first | rfl | (simp; done)) | (with_reducible refine Blk.later (by assumption) ?_) | (with_reducible refine Blk.alloc ?_) | (with_reducible refine Blk.drewN ?_) | (with_reducible refine Blk.drew ?_) | (with_reducible refine Blk.other ?_ (by first | omega | (simp; done) | (simp; omega))))); done)); clear k3; intro k3) | (with_reducible replace k3 := Blk.later hb (Blk.set (Blk.set k3))) | (with_reducible replace k3 := Blk.later hb (Blk.set k3))); clear a3 b3; obtain ⟨a3, b3⟩ := k3.read; have zl := k3.lt)); (try (have zk := k4.lt; (first | ((with_reducible refine Blk.keepG hb k4 (fun h => ?_) ?_); (focus ((repeat' (first | (with_reducible assumption) | ((with_reducible refine Blk.new ?_); first | rfl | (simp; done)) | (with_reducible refine Blk.later (by assumption) ?_) | (with_reducible refine Blk.alloc ?_) | (with_reducible refine Blk.drewN ?_) | (with_reducible refine Blk.drew ?_) | (with_reducible refine Blk.other ?_ (by first | omega | (simp; done) | (simp; omega))))); done)); clear k4; intro k4) | (with_reducible replace k4 := Blk.later hb (Blk.set (Blk.set k4))) | (with_reducible replace k4 := Blk.later hb (Blk.set k4))); clear a4 b4; obtain ⟨a4, b4⟩ := k4.read; have zl := k4.lt)); (try (have zk := k5.lt; (first | ((with_reducible refine Blk.keepG hb k5 (fun h => ?_) ?_); (focus ((repeat' (first | (with_reducible assumption) | ((with_reducible refine Blk.new ?_); first | rfl | (simp; done)) | (with_reducible refine Blk.later (by assumption) ?_) | (with_reducible refine Blk.alloc ?_) | (with_reducible refine Blk.drewN ?_) | (with_reducible refine Blk.drew ?_) | (with_reducible refine Blk.other ?_ (by first | omega | (simp; done) | (simp; omega))))); done)); clear k5; intro k5) | (with_reducible replace k5 := Blk.later hb (Blk.set (Blk.set k5))) | (with_reducible replace k5 := Blk.later hb (Blk.set k5))); clear a5 b5; obtain ⟨a5, b5⟩ := k5.read; have zl := k5.lt))
      replace hBw : Below w.heap.size w w8 := belowThru (by (repeat' (first | (with_reducible exact Below.refl _ _) | (with_reducible assumption) | (with_reducible refine belowThru ?_ (by assumption)) | (with_reducible refine belowAlloc ?_) | (with_reducible refine Below.setCell ?_ (by first | omega | (simp; done) | (simp; omega)) _) | (with_reducible refine Below.drew ?_) | (with_reducible refine below_drewN ?_ _)))) hb
      replace hBo : Below w0.heap.size w0 w8 := belowThru (by (repeat' (first | (with_reducible exact Below.refl _ _) | (with_reducible assumption) | (with_reducible refine belowThru ?_ (by assumption)) | (with_reducible refine belowAlloc ?_) | (with_reducible refine Below.setCell ?_ (by first | omega | (simp; done) | (simp; omega)) _) | (with_reducible refine Below.drew ?_) | (with_reducible refine below_drewN ?_ _)))) hb
      clear hb hXa hNy
      -- the values are changed
      go_wp2_with fail
      refine (spoil_any _ _ _ _ _ _ _ _ hXb (by unfold maxLen; have := hXb.1; omega)).mono ?_
      rintro e w9 ⟨rfl, hg⟩
      have hx := hXb.blk
      replace hBw := hBw.grown hg hBw.size (fun g e => Nat.le_trans (by omega) (hx g e).1)
      replace hBo := hBo.grown hg hBo.size (fun g e => Nat.le_trans (by omega) (hx g e).1)
      have hgs := hg.size
      replace k0 := Blk.but hg (fun g e => Blk.ne k0 (hx g e).2 (by decide)) k0
      replace k1 := Blk.but hg (fun g e => Blk.ne k1 (hx g e).2 (by decide)) k1
      replace k2 := Blk.but hg (fun g e => Blk.ne k2 (hx g e).2 (by decide)) k2
      replace k3 := Blk.but hg (fun g e => Blk.ne k3 (hx g e).2 (by decide)) k3
      replace k4 := Blk.but hg (fun g e => Blk.ne k4 (hx g e).2 (by decide)) k4
      replace k5 := Blk.but hg (fun g e => Blk.ne k5 (hx g e).2 (by decide)) k5
      replace k6 := Blk.but hg (fun g e => Blk.ne k6 (hx g e).2 (by decide)) k6
      clear hx hg a0 b0 a1 b1 a2 b2 a3 b3 a4 b4 a5 b5 a6 b6 hXb
      obtain ⟨a0, b0⟩ := k0.read; obtain ⟨a1, b1⟩ := k1.read; obtain ⟨a2, b2⟩ := k2.read; obtain ⟨a3, b3⟩ := k3.read; obtain ⟨a4, b4⟩ := k4.read; obtain ⟨a5, b5⟩ := k5.read; obtain ⟨a6, b6⟩ := k6.read
      -- what was there
      go_wp2_with fail
      refine (same_yes W H ao a n n co c za hn _ (HO.out.later hBo) (HR.out.later hBw)).mono ?_
      rintro e wa ⟨rfl, hb⟩
      (try (have zk := k0.lt; (first | ((with_reducible refine Blk.keepG hb k0 (fun h => ?_) ?_); (focus ((repeat' (first | (with_reducible assumption) | ((with_reducible refine Blk.new ?_); first | rfl | (simp; done)) | (with_reducible refine Blk.later (by assumption) ?_) | (with_reducible refine Blk.alloc ?_) | (with_reducible refine Blk.drewN ?_) | (with_reducible refine Blk.drew ?_) | (with_reducible refine Blk.other ?_ (by first | omega | (simp; done) | (simp; omega))))); done)); clear k0; intro k0) | (with_reducible replace k0 := Blk.later hb (Blk.set (Blk.set k0))) | (with_reducible replace k0 := Blk.later hb (Blk.set k0))); clear a0 b0; obtain ⟨a0, b0⟩ := k0.read; have zl := k0.lt)); (try (have zk := k1.lt; (first | ((with_reducible refine Blk.keepG hb k1 (fun h => ?_) ?_); (focus ((repeat' (first | (with_reducible assumption) | ((with_reducible refine Blk.new ?_); first | rfl | (simp; done)) | (with_reducible refine Blk.later (by assumption) ?_) | (with_reducible refine Blk.alloc ?_) | (with_reducible refine Blk.drewN ?_) | (with_reducible refine Blk.drew ?_) | (with_reducible refine Blk.other ?_ (by first | omega | (simp; done) | (simp; omega))))); done)); clear k1; intro k1) | (with_reducible replace k1 := Blk.later hb (Blk.set (Blk.set k1))) | (with_reducible replace k1 := Blk.later hb (Blk.set k1))); clear a1 b1; obtain ⟨a1, b1⟩ := k1.read; have zl := k1.lt)); (try (have zk := k2.lt; (first | ((with_reducible refine Blk.keepG hb k2 (fun h => ?_) ?_); (focus ((repeat' (first | (with_reducible assumption) | ((with_reducible refine Blk.new ?_); first | rfl | (simp; done)) | (with_reducible refine Blk.later (by assumption) ?_) | (with_reducible refine Blk.alloc ?_) | (with_reducible refine Blk.drewN ?_) | (with_reducible refine Blk.drew ?_) | (with_reducible refine Blk.other ?_ (by first | omega | (simp; done) | (simp; omega))))); done)); clear k2; intro k2) | (with_reducible replace k2 := Blk.later hb (Blk.set (Blk.set k2))) | (with_reducible replace k2 := Blk.later hb (Blk.set k2))); clear a2 b2; obtain ⟨a2, b2⟩ := k2.read; have zl := k2.lt)); (try (have zk := k3.lt; (first | ((with_reducible refine Blk.keepG hb k3 (fun h => ?_) ?_); (focus ((repeat' (first | (with_reducible assumption) | ((with_reducible refine Blk.new ?_); first | rfl | (simp; done)) | (with_reducible refine Blk.later (by assumption) ?_) | (with_reducible refine Blk.alloc ?_) | (with_reducible refine Blk.drewN ?_) | (with_reducible refine Blk.drew ?_) | (with_reducible refine Blk.other ?_ (by first | omega | (simp; done) | (simp; omega))))); done)); clear k3; intro k3) | (with_reducible replace k3 := Blk.later hb (Blk.set (Blk.set k3))) | (with_reducible replace k3 := Blk.later hb (Blk.set k3))); clear a3 b3; obtain ⟨a3, b3⟩ := k3.read; have zl := k3.lt)); (try (have zk := k4.lt; (first | ((with_reducible refine Blk.keepG hb k4 (fun h => ?_) ?_); (focus ((repeat' (first | (with_reducible assumption) | ((with_reducible refine Blk.new ?_); first | rfl | (simp; done)) | (with_reducible refine Blk.later (by assumption) ?_) | (with_reducible refine Blk.alloc ?_) | (with_reducible refine Blk.drewN ?_) | (with_reducible refine Blk.drew ?_) | (with_reducible refine Blk.other ?_ (by first | omega | (simp; done) | (simp; omega))))); done)); clear k4; intro k4) | (with_reducible replace k4 := Blk.later hb (Blk.set (Blk.set k4))) | (with_reducible replace k4 := Blk.later hb (Blk.set k4))); clear a4 b4; obtain ⟨a4, b4⟩ := k4.read; have zl := k4.lt)); (try (have zk := k5.lt; (first | ((with_reducible refine Blk.keepG hb k5 (fun h => ?_) ?_); (focus ((repeat' (first | (with_reducible assumption) | ((with_reducible refine Blk.new ?_); first | rfl | (simp; done)) | (with_reducible refine Blk.later (by assumption) ?_) | (with_reducible refine Blk.alloc ?_) | (with_reducible refine Blk.drewN ?_) | (with_reducible refine Blk.drew ?_) | (with_reducible refine Blk.other ?_ (by first | omega | (simp; done) | (simp; omega))))); done)); clear k5; intro k5) | (with_reducible replace k5 := Blk.later hb (Blk.set (Blk.set k5))) | (with_reducible replace k5 := Blk.later hb (Blk.set k5))); clear a5 b5; obtain ⟨a5, b5⟩ := k5.read; have zl := k5.lt))
      replace hBw : Below w.heap.size w wa := belowThru hBw hb
      replace hBo : Below w0.heap.size w0 wa := belowThru hBo hb
      clear hb
      go_wp2_with fail
      refine (same_yes W' H' ap a' n' n' cp c' zb hn' _ (HQ.out.later hBo) (HS.out.later hBw)).mono ?_
      rintro e wb ⟨rfl, hb⟩
      go_wp2_with fail
      go_ret
      exact ⟨rfl, belowThru hBw hb⟩

theorem both_point (W H pM pA pD pL pH : Int) (n : Nat) (zs : List Int) (hl : zs.length = n) (hn : n ≤ maxLen) :
    ∃ (W2 H2 E2 : Int) (Z2 : List Int), Z2.length ≤ 1000 ∧ (∀ (a : Option Addr) (c : Nat) (w : World), Row w a n (iv zs) → Calls Try.prog 15 #[.agg #[.int .i64 W, .int .i64 H, .slice a n c], .agg #[.int .i64 pM, .int .i64 pA, .int .i64 pD, .int .i64 pL, .int .i64 pH]] w (RetI W2 H2 Z2 E2 w)) ∧
      (∀ (a : Option Addr) (c : Nat) (w : World), Row w a n (iv zs) → Calls Try.prog 34 #[.agg #[.int .i64 W, .int .i64 H, .slice a n c], .agg #[.int .i64 pM, .int .i64 pA, .int .i64 pD, .int .i64 pL, .int .i64 pH]] w (RetI W2 H2 Z2 E2 w)) := by
  by_cases hI : okI W H zs
  · by_cases hP : okP pM pA pD pL pH
    · have := okS_mul hI.1.1 hI.1.2
      exact ⟨_, _, _, _, by rw [made_length]; have := hI.2.1; omega, fun a c w hR => point_ok W H pM pA pD pL pH a n c zs hI hP hn w hR, fun a c w hR => rpoint_ok W H pM pA pD pL pH a n c zs hI hP hn w hR⟩
    · exact ⟨_, _, _, _, by simp, fun a c w hR => point_arg W H pM pA pD pL pH a n c zs hI hP hn w hR, fun a c w hR => rpoint_arg W H pM pA pD pL pH a n c zs hI hP hn w hR⟩
  · exact ⟨_, _, _, _, by simp, fun a c w hR => point_no W H pM pA pD pL pH a n c zs hI hn w hR, fun a c w hR => rpoint_no W H pM pA pD pL pH a n c zs hI hn w hR⟩
theorem both_zip (W H W' H' how : Int) (n n' : Nat) (za zb : List Int) (hl : za.length = n) (hl' : zb.length = n') (hn : n ≤ maxLen) (hn' : n' ≤ maxLen) :
    ∃ (W2 H2 E2 : Int) (Z2 : List Int), Z2.length ≤ 1000 ∧ (∀ (a a' : Option Addr) (c c' : Nat) (w : World), Row w a n (iv za) → Row w a' n' (iv zb) → Calls Try.prog 17 #[.agg #[.int .i64 W, .int .i64 H, .slice a n c], .agg #[.int .i64 W', .int .i64 H', .slice a' n' c'], .int .u8 how] w (RetI W2 H2 Z2 E2 w)) ∧
      (∀ (a a' : Option Addr) (c c' : Nat) (w : World), Row w a n (iv za) → Row w a' n' (iv zb) → Calls Try.prog 39 #[.agg #[.int .i64 W, .int .i64 H, .slice a n c], .agg #[.int .i64 W', .int .i64 H', .slice a' n' c'], .int .u8 how] w (RetI W2 H2 Z2 E2 w)) := by
  by_cases hI : okI W H za
  · by_cases hJ : okI W' H' zb
    · by_cases hx : W = W' ∧ H = H'
      · by_cases hh : how < 1 ∨ 6 < how
        · exact ⟨_, _, _, _, by simp, fun a a' c c' w hR hS => zip_arg W H W' H' how a a' n n' c c' za zb hI hJ hx hh hn hn' w hR hS, fun a a' c c' w hR hS => rzip_arg W H W' H' how a a' n n' c c' za zb hI hJ hx hh hn hn' w hR hS⟩
        · obtain ⟨rfl, rfl⟩ := hx
          have h1 := hI.2.1; have h2 := hJ.2.1
          obtain rfl : n = n' := by omega
          have := okS_mul hI.1.1 hI.1.2
          exact ⟨_, _, _, _, by unfold zipL; rw [made_length]; omega, fun a a' c c' w hR hS => zip_ok W H how a a' n c c' za zb hI hJ (by omega) (by omega) hn w hR hS, fun a a' c c' w hR hS => rzip_ok W H how a a' n c c' za zb hI hJ (by omega) (by omega) hn w hR hS⟩
      · exact ⟨_, _, _, _, by simp, fun a a' c c' w hR hS => zip_size W H W' H' how a a' n n' c c' za zb hI hJ hx hn hn' w hR hS, fun a a' c c' w hR hS => rzip_size W H W' H' how a a' n n' c c' za zb hI hJ hx hn hn' w hR hS⟩
    · exact ⟨_, _, _, _, by simp, fun a a' c c' w hR hS => zip_no2 W H W' H' how a a' n n' c c' za zb hI hJ hn hn' w hR hS, fun a a' c c' w hR hS => rzip_no2 W H W' H' how a a' n n' c c' za zb hI hJ hn hn' w hR hS⟩
  · exact ⟨_, _, _, _, by simp, fun a a' c c' w hR hS => zip_no1 W H W' H' how a a' n n' c c' za zb hI hn hn' w hR hS, fun a a' c c' w hR hS => rzip_no1 W H W' H' how a a' n n' c c' za zb hI hn hn' w hR hS⟩
theorem pts_true (W H W' H' pM pA pD pL pH how : Int) (a a' : Option Addr) (n n' c c' : Nat) (za zb : List Int) (hn : n ≤ maxLen) (hn' : n' ≤ maxLen) (h8 : n * 8 ≤ 140737488351232) (h8' : n' * 8 ≤ 140737488351232) (w : World) (hR : Row w a n (iv za)) (hS : Row w a' n' (iv zb)) :
    Calls Try.prog 4 #[.agg #[.int .i64 W, .int .i64 H, .slice a n c], .agg #[.int .i64 W', .int .i64 H', .slice a' n' c'], .agg #[.int .i64 pM, .int .i64 pA, .int .i64 pD, .int .i64 pL, .int .i64 pH], .int .u8 how] w fun e w' => e = .returned (.bool true) ∧ Below w.heap.size w w' := by
  have hl : za.length = n := by have := hR.1; rwa [iv_length] at this
  have hl' : zb.length = n' := by have := hS.1; rwa [iv_length] at this
  obtain ⟨W1, H1, E1, Z1, z1, f1, g1⟩ := both_point W H pM pA pD pL pH n za hl hn
  obtain ⟨W2, H2, E2, Z2, z2, f2, g2⟩ := both_zip W H W' H' how n n' za zb hl hl' hn hn'
  exact pts_walk W H W' H' pM pA pD pL pH how W1 H1 E1 W2 H2 E2 _ Z1 Z2 a a' n n' c c' za zb hn hn' h8 h8' w hR hS z1 z2 f1 g1 (fun a c w hR => icheck_any W H a n c za hn w hR) (fun a c w hR => rcheck_any W H a n c za hn w hR) f2 g2
end Go.Proofs.Ytefphhhmibnjiaa
