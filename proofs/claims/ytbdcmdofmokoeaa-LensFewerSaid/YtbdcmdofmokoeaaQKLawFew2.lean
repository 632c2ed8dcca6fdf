/-
  LensFewer: the law.
-/
import Derived.Test.YtbdcmdofmokoeaaQKLawFew
import Derived.Test.YtbdcmdofmokoeaaQKLawAdd3
import Derived.Test.YtbdcmdofmokoeaaQKLawWi
namespace Go.Proofs.Ytbdcmdofmokoeaa
open Go.RowKit Go.Shelf
set_option linter.unusedVariables false
set_option linter.unusedSimpArgs false

theorem foc_same {us vs : List Vw} (hU : ∀ v ∈ us, InV v) (hV : ∀ v ∈ vs, InV v) (h : ∀ f c, Ful us f c ↔ Ful vs f c) : focS us = focS vs := by
  cases hu : focS us with
  | none =>
    cases hv : focS vs with
    | none => rfl
    | some p =>
      have := (foc_none hU).1 hu
      have k : ¬ ∃ f c, Ful vs f c := fun ⟨f, c, hf⟩ => this ⟨f, c, (h f c).2 hf⟩
      rw [(foc_none hV).2 k] at hv; cases hv
  | some p =>
    cases hv : focS vs with
    | none =>
      have := (foc_none hV).1 hv
      have k : ¬ ∃ f c, Ful us f c := fun ⟨f, c, hf⟩ => this ⟨f, c, (h f c).1 hf⟩
      rw [(foc_none hU).2 k] at hu; cases hu
    | some q =>
      obtain ⟨A, B⟩ := p; obtain ⟨A', B'⟩ := q
      obtain ⟨-, -, l1, p1⟩ := foc_some hU hu
      obtain ⟨-, -, l2, p2⟩ := foc_some hV hv
      obtain ⟨e1, e2⟩ := iv_same l1 l2 fun p => by
        rw [p1 p, p2 p]
        exact and_congr_right fun _ => ⟨fun ⟨c, hc⟩ => ⟨c, (h p c).1 hc⟩, fun ⟨c, hc⟩ => ⟨c, (h p c).2 hc⟩⟩
      rw [e1, e2]
theorem pla_same {us vs : List Vw} (hU : ∀ v ∈ us, InV v) (hV : ∀ v ∈ vs, InV v) {x z : Int} (hg : InG x z) (h : ∀ f c, Ful us f c ↔ Ful vs f c) : plaS x z us = plaS x z vs := by
  cases hu : plaS x z us with
  | none =>
    cases hv : plaS x z vs with
    | none => rfl
    | some p =>
      have := (pla_none hU hg).1 hu
      have k : ¬ ∃ f c, Ful vs f c := fun ⟨f, c, hf⟩ => this ⟨f, c, (h f c).2 hf⟩
      rw [(pla_none hV hg).2 k] at hv; cases hv
  | some p =>
    cases hv : plaS x z vs with
    | none =>
      have := (pla_none hV hg).1 hv
      have k : ¬ ∃ f c, Ful us f c := fun ⟨f, c, hf⟩ => this ⟨f, c, (h f c).1 hf⟩
      rw [(pla_none hU hg).2 k] at hu; cases hu
    | some q =>
      obtain ⟨A, B⟩ := p; obtain ⟨A', B'⟩ := q
      obtain ⟨-, -, l1, p1⟩ := pla_some hU hg hu
      obtain ⟨-, -, l2, p2⟩ := pla_some hV hg hv
      obtain ⟨e1, e2⟩ := iv_same l1 l2 fun p => by
        rw [p1 p, p2 p]
        exact and_congr_right fun _ => ⟨fun ⟨c, hc⟩ => ⟨c, (h c _).1 hc⟩, fun ⟨c, hc⟩ => ⟨c, (h c _).2 hc⟩⟩
      rw [e1, e2]
theorem foc_sub {us vs : List Vw} (hU : ∀ v ∈ us, InV v) (hV : ∀ v ∈ vs, InV v) (hs : ∀ v ∈ us, v ∈ vs) {L H L' H' : Rat} (h : focS vs = some (L, H)) (h' : focS us = some (L', H')) : L' ≤ L ∧ H ≤ H' := by
  obtain ⟨-, -, l1, p1⟩ := foc_some hV h
  obtain ⟨-, -, l2, p2⟩ := foc_some hU h'
  obtain ⟨a, c, hc⟩ := (p1 L).1 ⟨Rat.le_refl, l1⟩
  obtain ⟨b, d, hd⟩ := (p1 H).1 ⟨l1, Rat.le_refl⟩
  exact ⟨((p2 L).2 ⟨a, c, hc.of hs⟩).1, ((p2 H).2 ⟨b, d, hd.of hs⟩).2⟩
theorem pla_sub {us vs : List Vw} (hU : ∀ v ∈ us, InV v) (hV : ∀ v ∈ vs, InV v) (hs : ∀ v ∈ us, v ∈ vs) {x z : Int} (hg : InG x z) {L H L' H' : Rat} (h : plaS x z vs = some (L, H)) (h' : plaS x z us = some (L', H')) : L' ≤ L ∧ H ≤ H' := by
  obtain ⟨-, -, l1, p1⟩ := pla_some hV hg h
  obtain ⟨-, -, l2, p2⟩ := pla_some hU hg h'
  obtain ⟨a, c, hc⟩ := (p1 L).1 ⟨Rat.le_refl, l1⟩
  obtain ⟨b, d, hd⟩ := (p1 H).1 ⟨l1, Rat.le_refl⟩
  exact ⟨((p2 L).2 ⟨a, c, hc.of hs⟩).1, ((p2 H).2 ⟨b, d, hd.of hs⟩).2⟩
set_option maxRecDepth 100000 in
set_option maxHeartbeats 4000000 in
theorem lawFew_true (a : Option Addr) (n c : Nat) (vs : List Vw) (t x z : Int) (hcc : n ≤ c) (w : World) (hR : VRow w a n vs) :
    Calls Try.prog 10 #[.slice a n c, .int .i64 t, .int .i64 x, .int .i64 z] w fun e w' => e = .returned (.bool true) ∧ Below w.heap.size w w' := by
  have HAl := Lib.hid alive_true
  have hl := hR.1
  by_cases g0 : (12 : Int) < (n : Int)
  · exact few_g0 a n c t x z w (decide_eq_true g0) HAl
  have p0 := decide_eq_false g0
  by_cases g1 : t < 0
  · exact few_g1 a n c t x z w p0 (decide_eq_true g1) HAl
  have p1 := decide_eq_false g1
  by_cases g2 : (n : Int) ≤ t
  · exact few_g2 a n c t x z w p0 p1 (decide_eq_true g2) HAl
  have p2 := decide_eq_false g2
  have hn : n ≤ 12 := by omega
  obtain ⟨i, hti⟩ : ∃ i : Nat, t = i := ⟨t.toNat, by omega⟩
  have hi : i < n := by omega
  obtain ⟨b, o, rfl, -⟩ := hR.2 (by omega)
  have HR := Lib.hid hR
  have HK : ∀ W : World, VRow W (some ⟨b, o, none⟩) n vs → _ := fun W h => calib_any (some ⟨b, o, none⟩) n c vs W h
  have HX : ∀ W : World, VRow W (some ⟨b, o, none⟩) n vs → _ := fun W h => range_any (some ⟨b, o, none⟩) n c x z vs W h
  by_cases hE : caE vs = 0
  · have hk : ckV vs = 0 := by
      by_cases h : ckV vs = 0
      · exact h
      · rw [show caE vs = ckV vs from if_pos h] at hE; exact hE
    have hfo : foE (focS vs) = 0 := by rw [show caE vs = foE (focS vs) from if_neg (fun h => h hk)] at hE; exact hE
    obtain ⟨-, hV⟩ := ckV_ok hk
    obtain ⟨L, H, hs, hne, -⟩ := foE_zero hfo
    have h01 : InG 0 1 := by decide
    obtain ⟨⟨A, B⟩, hq⟩ := pla_of_foc hV h01 hs
    have ecv : caV vs = cam (L, H) (A, B) := by unfold caV; rw [if_pos hE]; unfold caC; rw [hs, hq]
    obtain ⟨fL, fH, lLH, -⟩ := foc_some hV hs
    obtain ⟨fA, fB, lAB, -⟩ := pla_some hV h01 hq
    obtain ⟨fu, cu, hful⟩ : ∃ f c, Ful vs f c := Classical.byContradiction fun k => by
      have := (foc_none hV).2 k
      rw [hs] at this; cases this
    -- less
    obtain ⟨us, hus⟩ : ∃ us, vs.take i ++ vs.drop (i + 1) = us := ⟨_, rfl⟩
    have hsub : ∀ v ∈ us, v ∈ vs := by
      rw [← hus]; intro v hv
      rcases List.mem_append.1 hv with h | h
      · exact List.mem_of_mem_take h
      · exact List.mem_of_mem_drop h
    have hul : us.length ≤ 12 := by rw [← hus, List.length_append, List.length_take, List.length_drop]; omega
    have hU : ∀ v ∈ us, InV v := fun v hv => hV v (hsub v hv)
    have hku : ckV us = 0 := ckV_yes hul hU
    have hfu : focS us ≠ none := fun h => (foc_none hU).1 h ⟨fu, cu, hful.of hsub⟩
    have HG : ∀ (a2 : Option Addr) (n2 c2 : Nat) (W : World), VRow W a2 n2 us → _ := fun a2 n2 c2 W h => calib_any a2 n2 c2 us W h
    have HS : ∀ (a2 : Option Addr) (n2 c2 : Nat) (W : World), VRow W a2 n2 us → _ := fun a2 n2 c2 W h => range_any a2 n2 c2 x z us W h
    -- the reverse order
    have hrv : ∀ v ∈ vs.reverse, InV v := fun v hv => hV v (List.mem_reverse.1 hv)
    have hrs : ∀ f c, Ful vs.reverse f c ↔ Ful vs f c := fun f c => ⟨fun h => h.of fun v hv => List.mem_reverse.2 hv, fun h => h.of fun v hv => List.mem_reverse.1 hv⟩
    have er1 : focS vs.reverse = focS vs := foc_same hrv hV hrs
    have er2 : plaS 0 1 vs.reverse = plaS 0 1 vs := pla_same hrv hV h01 hrs
    have erk : ckV vs.reverse = 0 := ckV_yes (by rw [List.length_reverse]; omega) hrv
    have erE : caE vs.reverse = 0 := by rw [show caE vs.reverse = foE (focS vs.reverse) from if_neg (fun h => h erk), er1, hfo]
    have erV : caV vs.reverse = cam (L, H) (A, B) := by unfold caV; rw [if_pos erE]; unfold caC; rw [er1, er2, hs, hq]
    have HD : ∀ (a2 : Option Addr) (n2 c2 : Nat) (W : World), VRow W a2 n2 vs.reverse → _ := fun a2 n2 c2 W h => calib_any a2 n2 c2 vs.reverse W h
    rw [hE, ecv] at HK
    rw [erE, erV] at HD
    have euE : caE us = foE (focS us) := if_neg (fun h => h hku)
    by_cases hgx : InG x z
    · have exE : raE x z vs = 0 := (if_neg (fun h => h hk)).trans ((if_neg (fun h => h hgx)).trans hfo)
      obtain ⟨⟨P, Q⟩, hr⟩ := pla_of_foc hV hgx hs
      obtain ⟨fP, fQ, lPQ, -⟩ := pla_some hV hgx hr
      have exC : raC x z vs = spC (P, Q) := by unfold raC; rw [if_pos exE, hr]; rfl
      rw [exE, exC] at HX
      by_cases hg : foE (focS us) = 0
      · obtain ⟨L', H', hs', hne', -⟩ := foE_zero hg
        obtain ⟨⟨A', B'⟩, hq'⟩ := pla_of_foc hU h01 hs'
        obtain ⟨⟨P', Q'⟩, hr'⟩ := pla_of_foc hU hgx hs'
        have euV : caV us = cam (L', H') (A', B') := by unfold caV; rw [euE, if_pos hg]; unfold caC; rw [hs', hq']
        have eSE : raE x z us = 0 := (if_neg (fun h => h hku)).trans ((if_neg (fun h => h hgx)).trans hg)
        have eSC : raC x z us = spC (P', Q') := by unfold raC; rw [if_pos eSE, hr']; rfl
        rw [euE, hg, euV] at HG
        rw [eSE, eSC] at HS
        obtain ⟨fL', fH', -, -⟩ := foc_some hU hs'
        obtain ⟨fA', fB', -, -⟩ := pla_some hU h01 hq'
        obtain ⟨fP', fQ', -, -⟩ := pla_some hU hgx hr'
        obtain ⟨i1, i2⟩ := foc_sub hU hV hsub hs hs'
        obtain ⟨i3, i4⟩ := pla_sub hU hV hsub h01 hq hq'
        obtain ⟨i5, i6⟩ := pla_sub hU hV hsub hgx hr hr'
        subst hus
        exact few_5 b o n c i vs t x z _ _ _ _ _ _ _ _ 0 0 0 0 0 0 0 0 _ _ _ _ _ _ _ _ _ _ _ _ _ _ _ _ 0 0 0 0 w hn hti hi hcc p0 p1 p2 HR HAl (Lib.hid HK) (Lib.hid HX) (Lib.hid HG) (Lib.hid HS) (Lib.hid HD)
          (Lib.hid fun W => within_yes (p := (L, H)) (q := (L', H')) fL fH fL' fH' lLH i1 i2 W) (Lib.hid fun W => within_yes (p := (A, B)) (q := (A', B')) fA fB fA' fB' lAB i3 i4 W) (Lib.hid fun W => within_yes (p := (P, Q)) (q := (P', Q')) fP fQ fP' fQ' lPQ i5 i6 W)
      · have hg43 : foE (focS us) = 43 := by
          cases h : focS us with
          | none => exact absurd h hfu
          | some p =>
            by_cases e : p = allM
            · exact if_pos e
            · rw [h] at hg; exact absurd (if_neg e : foE (some p) = 0) hg
        obtain ⟨g1', g2', g3', g4', g5', g6', g7', g8', hv8⟩ := caV_eight us
        obtain ⟨s1', s2', s3', s4', hv4⟩ := raC_four x z us
        rw [euE, hg43, hv8] at HG
        rw [hv4] at HS
        subst hus
        exact few_2 b o n c i vs t x z _ _ _ _ _ _ _ _ 0 0 0 0 0 0 0 0 g1' g2' g3' g4' g5' g6' g7' g8' _ _ _ _ s1' s2' s3' s4' 0 0 0 _ w hn hti hi hcc p0 p1 p2 HR HAl (Lib.hid HK) (Lib.hid HX) (Lib.hid HG) (Lib.hid HS) (Lib.hid HD)
    · have exE : raE x z vs = 2 := (if_neg (fun h => h hk)).trans (if_pos hgx)
      obtain ⟨r1', r2', r3', r4', hr4⟩ := raC_four x z vs
      obtain ⟨s1', s2', s3', s4', hv4⟩ := raC_four x z us
      obtain ⟨g1', g2', g3', g4', g5', g6', g7', g8', hv8⟩ := caV_eight us
      rw [exE, hr4] at HX
      rw [hv4] at HS
      by_cases hg : foE (focS us) = 0
      · rw [euE, hg, hv8] at HG
        subst hus
        exact few_4 b o n c i vs t x z _ _ _ _ _ _ _ _ 0 0 0 0 0 0 0 0 g1' g2' g3' g4' g5' g6' g7' g8' r1' r2' r3' r4' s1' s2' s3' s4' 0 0 0 _ w hn hti hi hcc p0 p1 p2 HR HAl (Lib.hid HK) (Lib.hid HX) (Lib.hid HG) (Lib.hid HS) (Lib.hid HD)
      · have hg43 : foE (focS us) = 43 := by
          cases h : focS us with
          | none => exact absurd h hfu
          | some p =>
            by_cases e : p = allM
            · exact if_pos e
            · rw [h] at hg; exact absurd (if_neg e : foE (some p) = 0) hg
        rw [euE, hg43, hv8] at HG
        subst hus
        exact few_3 b o n c i vs t x z _ _ _ _ _ _ _ _ 0 0 0 0 0 0 0 0 g1' g2' g3' g4' g5' g6' g7' g8' r1' r2' r3' r4' s1' s2' s3' s4' 0 0 0 _ w hn hti hi hcc p0 p1 p2 HR HAl (Lib.hid HK) (Lib.hid HX) (Lib.hid HG) (Lib.hid HS) (Lib.hid HD)
  · obtain ⟨k1', k2', k3', k4', k5', k6', k7', k8', hv8⟩ := caV_eight vs
    obtain ⟨r1', r2', r3', r4', hr4⟩ := raC_four x z vs
    rw [hv8] at HK
    rw [hr4] at HX
    exact few_1 b o n c i vs t x z k1' k2' k3' k4' k5' k6' k7' k8' 0 0 0 0 0 0 0 0 0 0 0 0 0 0 0 0 r1' r2' r3' r4' 0 0 0 0 _ _ 0 0 w p0 p1 p2 (ne0 hE) HR HAl (Lib.hid HK) (Lib.hid HX)
end Go.Proofs.Ytbdcmdofmokoeaa
