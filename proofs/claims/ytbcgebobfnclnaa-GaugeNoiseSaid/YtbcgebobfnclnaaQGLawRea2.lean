/-
  The law GaugeReached for any arguments.
-/
import Derived.Test.YtbcgebobfnclnaaQGLawRea
import Derived.Test.YtbcgebobfnclnaaM6
namespace Go.Proofs.Ytbcgebobfnclnaa
open Go.RowKit Go.Shelf
set_option linter.unusedVariables false
set_option linter.unusedSimpArgs false

/-- What Rise and Fall return, case by case. -/
theorem reached_true (a : Option Addr) (n c : Nat) (zs : List Int) (t p nz : Int) (w : World) (hn : n ≤ maxLen) (hR : Row w a n (iv zs)) :
    Calls Try.prog 11 #[.slice a n c, .int .i64 t, .int .i64 p, .int .i64 nz] w fun e w' => e = .returned (.bool true) ∧ Below w.heap.size w w' := by
  have hlen : zs.length = n := by have := hR.1; rwa [iv_length] at this
  by_cases hl : n ≤ 64
  · have HG := fun w => ri_any a n c zs t p nz hn w
    have HH := fun w => fa_any a n c zs t p nz hn w
    by_cases h1 : okP zs ∧ okN nz
    · have zl := lwL_ok h1.1 h1.2.1
      have zu := upL_ok h1.1 h1.2.1
      have HU := fun w => up_ok a n c zs nz h1.1 h1.2 w
      have HL := fun w => lw_ok a n c zs nz h1.1 h1.2 w
      have HFU := fun (b : Nat) (w : World) (hk : Blk w b (ints (upL nz zs)) 3) => first_any (some ⟨b, 0, none⟩) n n (upL nz zs) t p hn w (Row.of_ints (by rw [upL_length, hlen]) hk)
      have HFL := fun (b : Nat) (w : World) (hk : Blk w b (ints (lwL nz zs)) 3) => first_any (some ⟨b, 0, none⟩) n n (lwL nz zs) t p hn w (Row.of_ints (by rw [lwL_length, hlen]) hk)
      have HLU := fun (b : Nat) (w : World) (hk : Blk w b (ints (upL nz zs)) 3) => last_any (some ⟨b, 0, none⟩) n n (upL nz zs) t p hn w (Row.of_ints (by rw [upL_length, hlen]) hk)
      have HLL := fun (b : Nat) (w : World) (hk : Blk w b (ints (lwL nz zs)) 3) => last_any (some ⟨b, 0, none⟩) n n (lwL nz zs) t p hn w (Row.of_ints (by rw [lwL_length, hlen]) hk)
      by_cases h2 : okT t ∧ inL zs p
      · have il : inL (lwL nz zs) p := (inL_of (lwL_length nz zs)).2 h2.2
        have iu : inL (upL nz zs) p := (inL_of (upL_length nz zs)).2 h2.2
        have hp : p.toNat < (lwL nz zs).length := by rw [lwL_length]; have := h2.2.1; have := h2.2.2; omega
        rw [fiO_ok ⟨zl, h2.1, il⟩, show fiE t (lwL nz zs) p = _ from asE_ok zl ⟨h2.1, il⟩] at HFL
        rw [laO_ok ⟨zl, h2.1, il⟩, show laE t (lwL nz zs) p = _ from asE_ok zl ⟨h2.1, il⟩] at HLL
        rw [fiO_ok ⟨zu, h2.1, iu⟩, show fiE t (upL nz zs) p = _ from asE_ok zu ⟨h2.1, iu⟩] at HFU
        rw [laO_ok ⟨zu, h2.1, iu⟩, show laE t (upL nz zs) p = _ from asE_ok zu ⟨h2.1, iu⟩] at HLU
        cases hx : FX t (lwL nz zs) p.toNat with
        | none =>
          obtain ⟨e1, e2⟩ := ri_none h1 h2 hx
          rw [e1, e2] at HG
          rw [hx] at HFL
          cases hv : LX t (lwL nz zs) p.toNat with
          | none =>
            obtain ⟨e3, e4⟩ := fa_none h1 h2 hv
            rw [e3, e4] at HH
            rw [hv] at HLL
            exact reached_66 a n c zs t p nz w hR hl _ _ _ _ _ _ _ _ _ _ _ _ HU HL HG HH HFU HFL HLU HLL
          | some v =>
            obtain ⟨u, hu, -⟩ := LX_le (lw_up h1.1.2 h1.2.1) hp hv
            obtain ⟨e3, e4⟩ := fa_some h1 h2 hv hu
            rw [e3, e4] at HH
            rw [hv] at HLL
            rw [hu] at HLU
            exact reached_60 a n c zs t p nz w hR hl _ _ _ _ _ _ _ _ _ _ _ 0 HU HL HG HH HFU HFL HLU HLL
        | some x =>
          obtain ⟨y, hy, -⟩ := FX_le (lw_up h1.1.2 h1.2.1) hx
          obtain ⟨e1, e2⟩ := ri_some h1 h2 hx hy
          rw [e1, e2] at HG
          rw [hx] at HFL
          rw [hy] at HFU
          cases hv : LX t (lwL nz zs) p.toNat with
          | none =>
            obtain ⟨e3, e4⟩ := fa_none h1 h2 hv
            rw [e3, e4] at HH
            rw [hv] at HLL
            exact reached_06 a n c zs t p nz w hR hl _ _ _ _ _ _ _ _ _ _ 0 _ HU HL HG HH HFU HFL HLU HLL
          | some v =>
            obtain ⟨u, hu, -⟩ := LX_le (lw_up h1.1.2 h1.2.1) hp hv
            obtain ⟨e3, e4⟩ := fa_some h1 h2 hv hu
            rw [e3, e4] at HH
            rw [hv] at HLL
            rw [hu] at HLU
            exact reached_00 a n c zs t p nz w hR hl _ _ _ _ _ _ _ _ _ _ 0 0 HU HL HG HH HFU HFL HLU HLL
      · obtain ⟨e1, e2, e3, e4⟩ := ri_arg (nz := nz) h1.1 h2
        rw [e1, e3] at HG
        rw [e2, e4] at HH
        have hb : ¬ (okT t ∧ inL (lwL nz zs) p) := fun h => h2 ⟨h.1, (inL_of (lwL_length nz zs)).1 h.2⟩
        rw [show fiE t (lwL nz zs) p = _ from asE_arg zl hb] at HFL
        rw [show laE t (lwL nz zs) p = _ from asE_arg zl hb] at HLL
        exact reached_22 a n c zs t p nz w hR hl _ _ _ _ _ _ _ _ _ _ _ _ HU HL HG HH HFU HFL HLU HLL
    · obtain ⟨e1, e2, -, -⟩ := ri_bad (t := t) (p := p) h1
      rw [e1] at HG
      rw [e2] at HH
      exact reached_no a n c zs t p nz w hR hl _ _ _ _ _ _ _ _ _ (by split <;> rfl) (fun w => up_no a n c zs nz hn h1 w) (fun w => lw_no a n c zs nz hn h1 w) HG HH
  · exact reached_long a n c zs t p nz w hR hn (by omega)
end Go.Proofs.Ytbcgebobfnclnaa
