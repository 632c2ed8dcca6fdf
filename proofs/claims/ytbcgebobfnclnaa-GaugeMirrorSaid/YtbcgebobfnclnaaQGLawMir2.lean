/-
  The law GaugeMirror for any arguments.
-/
import Derived.Test.YtbcgebobfnclnaaQGLawMir
import Derived.Test.YtbcgebobfnclnaaM7
namespace Go.Proofs.Ytbcgebobfnclnaa
open Go.RowKit Go.Shelf
set_option linter.unusedVariables false
set_option linter.unusedSimpArgs false

theorem mirror_true (a : Option Addr) (n c : Nat) (zs : List Int) (t p nz : Int) (w : World) (hn : n ≤ maxLen) (p0 : -9223372036854775808 ≤ p) (p1 : p ≤ 9223372036854775807) (hR : Row w a n (iv zs)) :
    Calls Try.prog 9 #[.slice a n c, .int .i64 t, .int .i64 p, .int .i64 nz] w fun e w' => e = .returned (.bool true) ∧ Below w.heap.size w w' := by
  have hlen : zs.length = n := by have := hR.1; rwa [iv_length] at this
  by_cases hl : n ≤ 64
  · have hM : IntKind.i64.wrap ((n : Int) - 1) = (n : Int) - 1 := IntWalk.i64_in _ (by omega)
    obtain ⟨q, hq⟩ : ∃ q, IntKind.i64.wrap ((n : Int) - 1 - p) = q := ⟨_, rfl⟩
    have hb : Back zs p q := back_of (by omega) p0 p1 (by rw [hlen]; exact hq)
    obtain ⟨fm, fm1, fm2⟩ := fits_int (M := (n : Int) - 1) (by omega)
    have HX := fun w => first_any a n c zs t p hn w
    have HY := fun (v : Option Addr) (c : Nat) w => last_any v n c zs.reverse t q hn w
    have HS := fun w => ri_any a n c zs t p nz hn w
    have HT := fun (v : Option Addr) (c : Nat) w => fa_any v n c zs.reverse t q nz hn w
    have HU := fun w => wi_any a n c zs t nz hn w
    have HV := fun (v : Option Addr) (c : Nat) w => wi_any v n c zs.reverse t nz hn w
    have HF := frac_int ((n : Int) - 1) (by omega)
    have HV0 : ∀ w, Row w a n (iv zs) → Calls Try.prog 49 #[.slice a n c] w fun e w' => ∃ v c', e = .returned (.slice v n c') ∧ Row w' v n (iv zs.reverse) ∧ Below w.heap.size w w' := fun w h => by
      refine (rev_any a n c zs (by omega) w h).mono ?_
      rintro e w' ⟨v, c', he, hr, hb⟩
      subst hlen
      rw [revL] at hr
      exact ⟨v, c', he, hr, hb⟩
    rw [laO_rev hb, laE_rev hb, hlen] at HY
    rw [faS_rev hb, faE_rev hb, hlen] at HT
    rw [wiS_rev, wiE_rev] at HV
    have hxo : ∀ x, fiO t zs p = some x → fits x ∧ fits (((n : Int) - 1 : Int) - x) := fun x hx => by
      by_cases h : okP zs ∧ okT t ∧ inL zs p
      · rw [fiO_ok h] at hx
        have hp : p.toNat < zs.length := by have := h.2.2.1; have := h.2.2.2; omega
        have e := LX_rev (t := t) hp
        rw [hx, hlen] at e
        exact ⟨(FX_fits h.1 h.2.1.1 hp hx).2, (LX_fits (okP_rev.2 h.1) h.2.1.1 (by rw [List.length_reverse]; omega) e).2⟩
      · rw [fiO_bad h] at hx; cases hx
    have hso : ∀ s, riS t zs p nz = some s → (fits s.1 ∧ fits (((n : Int) - 1 : Int) - s.1)) ∧ (fits s.2 ∧ fits (((n : Int) - 1 : Int) - s.2)) := fun s hs => by
      unfold riS at hs
      by_cases h : okP zs ∧ okN nz ∧ okT t ∧ inL zs p
      · rw [if_pos h] at hs
        have hp : p.toNat < zs.length := by have := h.2.2.2.1; have := h.2.2.2.2; omega
        have zl := lwL_ok h.1 h.2.1.1
        have zu := upL_ok h.1 h.2.1.1
        cases hx : FX t (upL nz zs) p.toNat with
        | none => rw [hx, both_none'] at hs; cases hs
        | some x =>
          cases hy : FX t (lwL nz zs) p.toNat with
          | none => rw [hy, both_none] at hs; cases hs
          | some y =>
            rw [hx, hy] at hs
            obtain rfl := Option.some.inj hs
            have e1 := LX_rev (t := t) (zs := upL nz zs) (p := p.toNat) (by rw [upL_length]; exact hp)
            have e2 := LX_rev (t := t) (zs := lwL nz zs) (p := p.toNat) (by rw [lwL_length]; exact hp)
            rw [hx, upL_length, hlen] at e1
            rw [hy, lwL_length, hlen] at e2
            exact ⟨⟨(FX_fits zu h.2.2.1.1 (by rw [upL_length]; exact hp) hx).2, (LX_fits (okP_rev.2 zu) h.2.2.1.1 (by rw [List.length_reverse, upL_length]; omega) e1).2⟩,
              ⟨(FX_fits zl h.2.2.1.1 (by rw [lwL_length]; exact hp) hy).2, (LX_fits (okP_rev.2 zl) h.2.2.1.1 (by rw [List.length_reverse, lwL_length]; omega) e2).2⟩⟩
      · rw [if_neg h] at hs; cases hs
    obtain ⟨K, hK, HZ⟩ := sub_opt _ fm (fiO t zs p) hxo
    obtain ⟨Q, hQ, HL⟩ := sub_opt _ fm ((riS t zs p nz).map Prod.snd) (fun x hx => by obtain ⟨s, hs, rfl⟩ := Option.map_eq_some_iff.1 hx; exact (hso s hs).2)
    obtain ⟨V, hV, HH⟩ := sub_opt _ fm ((riS t zs p nz).map Prod.fst) (fun x hx => by obtain ⟨s, hs, rfl⟩ := Option.map_eq_some_iff.1 hx; exact (hso s hs).1)
    have es : ∀ S : Option (Rat × Rat), oN (S.map Prod.snd) = s3 S ∧ oD (S.map Prod.snd) = s4 S ∧ oN (S.map Prod.fst) = s1 S ∧ oD (S.map Prod.fst) = s2 S := fun S => by cases S <;> exact ⟨rfl, rfl, rfl, rfl⟩
    have et : ∀ (S : Option (Rat × Rat)) (m : Rat), oN ((S.map Prod.snd).map (m - ·)) = s1 (S.map fun s => (m - s.2, m - s.1)) ∧ oD ((S.map Prod.snd).map (m - ·)) = s2 (S.map fun s => (m - s.2, m - s.1)) ∧ oN ((S.map Prod.fst).map (m - ·)) = s3 (S.map fun s => (m - s.2, m - s.1)) ∧ oD ((S.map Prod.fst).map (m - ·)) = s4 (S.map fun s => (m - s.2, m - s.1)) := fun S m => by cases S <;> exact ⟨rfl, rfl, rfl, rfl⟩
    obtain ⟨a1, a2, a3, a4⟩ := es (riS t zs p nz)
    obtain ⟨b1, b2, b3, b4⟩ := et (riS t zs p nz) (((n : Int) - 1 : Int) : Rat)
    rw [a1, a2, b1, b2] at HL
    rw [a3, a4, b3, b4] at HH
    have h0 : fiE t zs p = 0 → K = 0 := fun h => hK (by
      obtain ⟨z, ok, hb⟩ := asE_zero h
      rw [fiO_ok ⟨z, ok.1, ok.2⟩]; exact hb)
    have g0 : riE t zs p nz = 0 → Q = 0 ∧ V = 0 := fun h => by
      obtain ⟨-, -, -, -, x, y, hx, hy, -, -, -, e⟩ := ri_found h
      rw [e] at hQ hV
      exact ⟨hQ rfl, hV rfl⟩
    by_cases hE : fiE t zs p = 0
    · obtain rfl := h0 hE
      by_cases hG : riE t zs p nz = 0
      · obtain ⟨rfl, rfl⟩ := g0 hG
        rw [hE] at HX HY
        rw [hG] at HS HT
        exact mirror_00 a n c zs t p nz w hR hl zs.reverse _ q _ _ _ _ 0 0 _ _ _ _ _ _ _ _ _ _ _ _ _ _ 0 0 0 0 0 0 _ 0 0 0 hM hq HX HY HS HT HU HV HF HZ HL HH HV0
      · rw [hE] at HX HY
        exact mirror_01 a n c zs t p nz w hR hl zs.reverse _ q _ _ _ _ 0 0 _ _ _ _ _ _ _ _ _ _ _ _ _ _ _ _ _ _ 0 _ _ 0 _ _ hM hq (bne0 hG) HX HY HS HT HU HV HF HZ HL HH HV0
    · by_cases hG : riE t zs p nz = 0
      · obtain ⟨rfl, rfl⟩ := g0 hG
        rw [hG] at HS HT
        exact mirror_10 a n c zs t p nz w hR hl zs.reverse _ q _ _ _ _ _ _ _ _ _ _ _ _ _ _ _ _ _ _ _ _ 0 0 0 0 _ 0 _ _ 0 0 hM hq (beq0 hE) HX HY HS HT HU HV HF HZ HL HH HV0
      · exact mirror_11 a n c zs t p nz w hR hl zs.reverse _ q _ _ _ _ _ _ _ _ _ _ _ _ _ _ _ _ _ _ _ _ _ _ _ _ _ _ _ _ _ _ hM hq (beq0 hE) (bne0 hG) HX HY HS HT HU HV HF HZ HL HH HV0
  · exact mirror_long a n c zs t p nz w hR hn (by omega)
end Go.Proofs.Ytbcgebobfnclnaa
