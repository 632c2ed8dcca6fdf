/-
  Layer 9: the library on parts; the gate.
-/
import Derived.Shelf.Abstract
import Derived.Lib.SliceRun
import Derived.Test.YtnkpejinnbiocaaVChk
namespace Go.Proofs.Ytnkpejinnbiocaa
open Go.RowKit Go.Shelf
set_option linter.unusedVariables false
set_option linter.unusedSimpArgs false

/-- The first place at which it holds, or -1. -/
def fxB (p : Sn → Bool) (xs : List Sn) : Int := match xs.findIdx? p with | some i => i | none => -1
theorem fxB_hit {p : Sn → Bool} {xs : List Sn} {k : Nat} {x : Sn} (hx : xs[k]? = some x) (hp : p x = true) (hb : ∀ j y, j < k → xs[j]? = some y → p y = false) : fxB p xs = k := by
  have h : xs.findIdx? p = some k := by
    rw [List.findIdx?_eq_some_iff_getElem]
    obtain ⟨hk, rfl⟩ := List.getElem?_eq_some_iff.1 hx
    refine ⟨hk, hp, fun j hj => ?_⟩
    simp [hb j _ hj (List.getElem?_eq_getElem (by omega))]
  unfold fxB; rw [h]
theorem fxB_miss {p : Sn → Bool} {xs : List Sn} (hb : ∀ j y, j < xs.length → xs[j]? = some y → p y = false) : fxB p xs = -1 := by
  have h : xs.findIdx? p = none := by
    rw [List.findIdx?_eq_none_iff]
    intro x hx
    obtain ⟨i, hi, rfl⟩ := List.mem_iff_getElem.1 hx
    exact hb i _ hi (List.getElem?_eq_getElem hi)
  unfold fxB; rw [h]
theorem fxB_any (p : Sn → Bool) (xs : List Sn) : decide (0 ≤ fxB p xs) = xs.any p := by
  unfold fxB
  cases h : xs.findIdx? p with
  | none =>
    have h2 := List.findIdx?_eq_none_iff.1 h
    have : xs.any p = false := by rw [List.any_eq_false]; intro x hx; simp [h2 x hx]
    rw [this]; rfl
  | some i =>
    obtain ⟨hi, hp, -⟩ := List.findIdx?_eq_some_iff_getElem.1 h
    have : xs.any p = true := by rw [List.any_eq_true]; exact ⟨_, List.getElem_mem hi, hp⟩
    rw [this]; simp
set_option maxRecDepth 100000 in
set_option maxHeartbeats 16000000 in
theorem indexFunc_any (a : Option Addr) (n c : Nat) (xs : List Sn) (f : FuncId) (lb : Array Value) (pr : Sn → Bool) (ef : ∀ args w, (callFunc f args).run Try.prog w = .ok (.enter f args) w) (hn : n ≤ maxLen) (w : World) (hR : RowK 4 sn1 w a n xs)
    (HV : Hid (∀ (q1 q2 q3 : Int) (q4 : Bool) (W1 : World), (q1, q2, q3, q4) ∈ xs → Below w.heap.size w W1 → Calls Try.prog f (#[.agg #[.int .i64 q1, .int .i64 q2, .int .u8 q3, .bool q4]] ++ lb) W1 fun e W2 => e = .returned (.bool (pr (q1, q2, q3, q4))) ∧ Below W1.heap.size W1 W2)) :
    Calls Try.prog 32 #[.slice a n c, .func (.func f) #[] lb] w fun e w' => e = .returned (.int .i64 (fxB pr xs)) ∧ Below w.heap.size w w' := by
  unfold maxLen at hn
  have hlen : xs.length = n := hR.1
  have HL := Lib.hid hlen
  have HR := Lib.hid hR
  clear hlen hR
  go_enter Try.func32, Try.ntmps32
  go_wp2_with fail
  go_loopw [8] (fun i wr => ∃ k : Nat, k ≤ n ∧ i = .int .i64 k ∧ Hid (∀ j y, j < k → xs[j]? = some y → pr y = false) ∧ Below w.heap.size w wr) (fun i _ => n - (intOf i).toNat)
  case atStart => exact ⟨0, Nat.zero_le _, rfl, (fun j y h => absurd h (by omega) : ∀ j y, j < 0 → xs[j]? = some y → pr y = false), Below.refl _ _⟩
  case round =>
    obtain ⟨k, hk, rfl, ht, hB⟩ := hrel
    by_cases hlt : k < n
    · obtain ⟨bb, oo, q1, q2, q3, q4, rfl, hbb, hxk, d0, d1, d2, d3⟩ := HR.out.seen hlt
      have d0 := cell_later hB d0
      have d1 := cell_later hB d1
      have d2 := cell_later hB d2
      have d3 := cell_later hB d3
      have p0 : (0 : Int) ≤ (k : Int) := by omega
      have p1 : (k : Int) < (n : Int) := by omega
      have HV1 := Lib.hid (fun W1 => HV.out q1 q2 q3 q4 W1 (List.mem_of_getElem? hxk))
      have HX := Lib.hid hxk
      clear hxk
      cases hp : pr (q1, q2, q3, q4) with
      | true =>
        rw [hp] at HV1
        have hz := fxB_hit HX.out hp ht.out
        clear hp
        have HZ := Lib.hid hz
        clear hz
        go_wp2_with (go_at_fn f; (with_reducible refine (HV1.out _ hB).mono ?_); rintro e wA ⟨rfl, hA⟩)
        go_ret
        exact ⟨by rw [HZ.out]; rfl, by (repeat' (first | (with_reducible exact Below.refl _ _) | (with_reducible assumption) | (with_reducible refine belowThru ?_ (by assumption)) | (with_reducible refine belowAlloc ?_) | (with_reducible refine Below.setCell ?_ (by first | omega | (simp; done) | (simp; omega)) _) | (with_reducible refine Below.drew ?_) | (with_reducible refine below_drewN ?_ _)))⟩
      | false =>
        rw [hp] at HV1
        have ht' : Hid (∀ j y, j < k + 1 → xs[j]? = some y → pr y = false) := fun j y hj hy => by
          rcases Nat.lt_or_ge j k with h | h
          · exact ht.out j y h hy
          · obtain rfl : j = k := by omega
            rw [HX.out] at hy; cases hy; exact hp
        clear hp ht
        go_wp2_with (go_at_fn f; (with_reducible refine (HV1.out _ hB).mono ?_); rintro e wA ⟨rfl, hA⟩; have hBA := belowThru hB hA)
        go_roundw
        case rel => exact ⟨k + 1, hlt, by go_num, ht', hBA⟩
        case measure => simp [intOf]; omega
    · have hz := fxB_miss (p := pr) (xs := xs) (fun j y hj hy => ht.out j y (by rw [HL.out] at hj; omega) hy)
      have HZ := Lib.hid hz
      clear hz
      go_wp2
      go_ret
      exact ⟨by rw [HZ.out]; rfl, hB⟩
set_option maxRecDepth 100000 in
set_option maxHeartbeats 16000000 in
theorem containsFunc_any (a : Option Addr) (n c : Nat) (xs : List Sn) (f : FuncId) (lb : Array Value) (pr : Sn → Bool) (ef : ∀ args w, (callFunc f args).run Try.prog w = .ok (.enter f args) w) (hn : n ≤ maxLen) (w : World) (hR : RowK 4 sn1 w a n xs)
    (HV : Hid (∀ (q1 q2 q3 : Int) (q4 : Bool) (W1 : World), (q1, q2, q3, q4) ∈ xs → Below w.heap.size w W1 → Calls Try.prog f (#[.agg #[.int .i64 q1, .int .i64 q2, .int .u8 q3, .bool q4]] ++ lb) W1 fun e W2 => e = .returned (.bool (pr (q1, q2, q3, q4))) ∧ Below W1.heap.size W1 W2)) :
    Calls Try.prog 58 #[.slice a n c, .func (.func f) #[] lb] w fun e w' => e = .returned (.bool (xs.any pr)) ∧ Below w.heap.size w w' := by
  have H := Lib.hid (indexFunc_any a n c xs f lb pr ef hn w hR HV)
  have e := fxB_any pr xs
  rw [← e]
  clear e
  obtain ⟨z, hz⟩ : ∃ z, fxB pr xs = z := ⟨_, rfl⟩
  rw [hz] at H ⊢
  clear hz HV hn hR
  go_enter Try.func58, Try.ntmps58
  go_wp2_with (go_at_call 32; (with_reducible refine H.out.mono ?_); rintro e w1 ⟨rfl, hb⟩)
  go_ret
  exact ⟨rfl, hb⟩
set_option maxRecDepth 100000 in
set_option maxHeartbeats 16000000 in
theorem cloneS_any (a : Option Addr) (n c : Nat) (xs : List Sn) (hn : n ≤ 1099511627776) (w : World) (hR : RowK 4 sn1 w a n xs) :
    Calls Try.prog 36 #[.slice a n c] w fun e w' => (∃ v, e = .returned v ∧ OwnK 43 4 sn1 w.heap.size w' v xs) ∧ Below w.heap.size w w' := by
  rcases a with _ | ad
  · have hx : xs = [] := by
      have h1 := hR.1
      rcases Nat.eq_zero_or_pos n with h | h
      · rw [h] at h1; exact List.eq_nil_of_length_eq_zero h1
      · obtain ⟨b, off, e, -⟩ := hR.2 h; cases e
    subst hx
    have q := fun (w : World) (a : Option Addr) (n c n' c' : Nat) => Lib.run_eql_slice_nil (P := Try.prog) w 24 43 a n c n' c' Try.underlying24
    clear hR
    go_enter Try.func36, Try.ntmps36
    go_wp2
    go_ret
    exact ⟨⟨_, rfl, OwnK.nil _ _⟩, Below.refl _ _⟩
  · have q := fun (w : World) (a : Option Addr) (n c n' c' : Nat) => Lib.run_eql_slice_nil (P := Try.prog) w 24 43 a n c n' c' Try.underlying24
    have HA : Hid (∀ ty, ∃ r w', (Builtin.append_ #[24, 24] ty #[.slice (some ⟨w.heap.size, 0, none⟩) 0 0, .slice (some ad) n c]).run Try.prog (w.alloc (.cells #[] 43)) = .ok r w' ∧ (OwnK 43 4 sn1 w.heap.size w' r xs ∧ Below w.heap.size w w')) := fun ty => by
      obtain ⟨v', w', h1, h2, -, h3, -⟩ := run_append_k (P := Try.prog) elem_sn ty (OwnK.none0 (B := w.heap.size) elem_sn (w := w.alloc (.cells #[] 43)) (Blk.new rfl) (Nat.le_refl _)) (hR.later (by (repeat' (first | (with_reducible exact Below.refl _ _) | (with_reducible assumption) | (with_reducible refine belowThru ?_ (by assumption)) | (with_reducible refine belowAlloc ?_) | (with_reducible refine Below.setCell ?_ (by first | omega | (simp; done) | (simp; omega)) _) | (with_reducible refine Below.drew ?_) | (with_reducible refine below_drewN ?_ _))))) (by simpa using hn) (by simp)
      exact ⟨v', w', h1, by simpa using h2, Below.trans (by (repeat' (first | (with_reducible exact Below.refl _ _) | (with_reducible assumption) | (with_reducible refine belowThru ?_ (by assumption)) | (with_reducible refine belowAlloc ?_) | (with_reducible refine Below.setCell ?_ (by first | omega | (simp; done) | (simp; omega)) _) | (with_reducible refine Below.drew ?_) | (with_reducible refine below_drewN ?_ _)))) h3⟩
    clear hR
    go_enter Try.func36, Try.ntmps36
    go_wp2_with (at_builtin; (refine wpList_append_row rfl _ _ _ _ rfl _ _ rfl rfl (HA.out _) ?_); (rintro r w1 ⟨hO, hb⟩))
    go_ret
    exact ⟨⟨_, rfl, hO⟩, hb⟩
set_option maxRecDepth 100000 in
set_option maxHeartbeats 16000000 in
theorem cloneI_any (a : Option Addr) (n c : Nat) (xs : List Int) (hn : n ≤ 1099511627776) (w : World) (hR : RowK 1 in1 w a n xs) :
    Calls Try.prog 50 #[.slice a n c] w fun e w' => (∃ v, e = .returned v ∧ OwnK 3 1 in1 w.heap.size w' v xs) ∧ Below w.heap.size w w' := by
  rcases a with _ | ad
  · have hx : xs = [] := by
      have h1 := hR.1
      rcases Nat.eq_zero_or_pos n with h | h
      · rw [h] at h1; exact List.eq_nil_of_length_eq_zero h1
      · obtain ⟨b, off, e, -⟩ := hR.2 h; cases e
    subst hx
    have q := fun (w : World) (a : Option Addr) (n c n' c' : Nat) => Lib.run_eql_slice_nil (P := Try.prog) w 56 3 a n c n' c' Try.underlying56
    clear hR
    go_enter Try.func50, Try.ntmps50
    go_wp2
    go_ret
    exact ⟨⟨_, rfl, OwnK.nil _ _⟩, Below.refl _ _⟩
  · have q := fun (w : World) (a : Option Addr) (n c n' c' : Nat) => Lib.run_eql_slice_nil (P := Try.prog) w 56 3 a n c n' c' Try.underlying56
    have HA : Hid (∀ ty, ∃ r w', (Builtin.append_ #[56, 56] ty #[.slice (some ⟨w.heap.size, 0, none⟩) 0 0, .slice (some ad) n c]).run Try.prog (w.alloc (.cells #[] 3)) = .ok r w' ∧ (OwnK 3 1 in1 w.heap.size w' r xs ∧ Below w.heap.size w w')) := fun ty => by
      obtain ⟨v', w', h1, h2, -, h3, -⟩ := run_append_k (P := Try.prog) elem_in ty (OwnK.none0 (B := w.heap.size) elem_in (w := w.alloc (.cells #[] 3)) (Blk.new rfl) (Nat.le_refl _)) (hR.later (by (repeat' (first | (with_reducible exact Below.refl _ _) | (with_reducible assumption) | (with_reducible refine belowThru ?_ (by assumption)) | (with_reducible refine belowAlloc ?_) | (with_reducible refine Below.setCell ?_ (by first | omega | (simp; done) | (simp; omega)) _) | (with_reducible refine Below.drew ?_) | (with_reducible refine below_drewN ?_ _))))) (by simpa using hn) (by simp)
      exact ⟨v', w', h1, by simpa using h2, Below.trans (by (repeat' (first | (with_reducible exact Below.refl _ _) | (with_reducible assumption) | (with_reducible refine belowThru ?_ (by assumption)) | (with_reducible refine belowAlloc ?_) | (with_reducible refine Below.setCell ?_ (by first | omega | (simp; done) | (simp; omega)) _) | (with_reducible refine Below.drew ?_) | (with_reducible refine below_drewN ?_ _)))) h3⟩
    clear hR
    go_enter Try.func50, Try.ntmps50
    go_wp2_with (at_builtin; (refine wpList_append_row rfl _ _ _ _ rfl _ _ rfl rfl (HA.out _) ?_); (rintro r w1 ⟨hO, hb⟩))
    go_ret
    exact ⟨⟨_, rfl, hO⟩, hb⟩
end Go.Proofs.Ytnkpejinnbiocaa
