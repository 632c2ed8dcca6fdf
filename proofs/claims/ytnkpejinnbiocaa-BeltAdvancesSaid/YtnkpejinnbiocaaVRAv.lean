/-
  Layer 9: some counts, by the document's own; both sides in the same words.
-/
import Derived.Test.YtnkpejinnbiocaaVRPa
namespace Go.Proofs.Ytnkpejinnbiocaa
open Go.RowKit Go.Shelf
set_option linter.unusedVariables false
set_option linter.unusedSimpArgs false

theorem rowOfS' {w : World} {B n : Nat} {a : Option Addr} {cap : Nat} {xs : List Sn} (h : OwnK 43 4 sn1 B w (.slice a n cap) xs) : RowK 4 sn1 w a n xs := by
  obtain ⟨a', c, e, hr, hc, -⟩ := h.row elem_sn
  have e : Value.slice a n cap = Value.slice a' xs.length c := e
  cases e
  exact hr
theorem rowOfF' {w : World} {B n : Nat} {a : Option Addr} {cap : Nat} {xs : List Ft} (h : OwnK 74 3 ft1 B w (.slice a n cap) xs) : RowK 3 ft1 w a n xs := by
  obtain ⟨a', c, e, hr, hc, -⟩ := h.row elem_ft
  have e : Value.slice a n cap = Value.slice a' xs.length c := e
  cases e
  exact hr
/-- What is left, and the fates, after some counts. -/
def adL (s p g l c m : Int) (xs : List Sn) : List Sn := (adB (fiB s p g) (laB s p l g) m.toNat c xs).1
def adF (s p g l c m : Int) (xs : List Sn) : List Ft := (adB (fiB s p g) (laB s p l g) m.toNat c xs).2
theorem adv_u (s p g l c nx : Int) (a : Option Addr) (n cap : Nat) (m : Int) (xs : List Sn) (hn : n ≤ maxLen) (w : World) (hR : RowK 4 sn1 w a n xs) :
    Calls Try.prog 19 #[.agg #[.int .i64 s, .int .i64 p, .int .i64 g, .int .i64 l, .int .i64 c, .int .i64 nx, .slice a n cap], .int .i64 m] w fun e w' => (∃ v u, e = .returned (.tuple #[.agg #[.int .i64 (tk (advE s p g l c nx xs m) s), .int .i64 (tk (advE s p g l c nx xs m) p), .int .i64 (tk (advE s p g l c nx xs m) g), .int .i64 (tk (advE s p g l c nx xs m) l), .int .i64 (tk (advE s p g l c nx xs m) (c + m)), .int .i64 (tk (advE s p g l c nx xs m) nx), v], u, .int .i64 (advE s p g l c nx xs m)]) ∧ OwnK 43 4 sn1 w.heap.size w' v (tl (advE s p g l c nx xs m) (adL s p g l c m xs)) ∧ OwnK 74 3 ft1 w.heap.size w' u (tl (advE s p g l c nx xs m) (adF s p g l c m xs))) ∧ Below w.heap.size w w' := by
  refine (adv_any s p g l c nx m a n cap xs hn w hR).mono fun e w' ⟨h, hb⟩ => ⟨?_, hb⟩
  rcases h with ⟨E, hE, hz, rfl⟩ | ⟨hE, -, M, rfl, -, -, -, v, u, rfl, hV, hU⟩
  · rw [hE]
    simp only [tk_no hz, tl_no hz]
    exact ⟨_, _, rfl, OwnK.nil _ _, OwnK.nil _ _⟩
  · rw [hE]
    exact ⟨v, u, rfl, hV, hU⟩
set_option maxRecDepth 100000 in
set_option maxHeartbeats 16000000 in
theorem radv_bad (s p g l c nx : Int) (a : Option Addr) (n cap : Nat) (m : Int) (xs : List Sn) (E : Int) (hE : (E != 0) = true) (w : World) (hR : RowK 4 sn1 w a n xs) (HC : Hid (∀ w, RowK 4 sn1 w a n xs → Calls Try.prog 15 #[.agg #[.int .i64 s, .int .i64 p, .int .i64 g, .int .i64 l, .int .i64 c, .int .i64 nx, .slice a n cap]] w fun e w' => e = .returned (.int .i64 E) ∧ Below w.heap.size w w')) :
    Calls Try.prog 20 #[.agg #[.int .i64 s, .int .i64 p, .int .i64 g, .int .i64 l, .int .i64 c, .int .i64 nx, .slice a n cap], .int .i64 m] w fun e w' => (∃ v u, e = .returned (.tuple #[.agg #[.int .i64 0, .int .i64 0, .int .i64 0, .int .i64 0, .int .i64 0, .int .i64 0, v], u, .int .i64 E]) ∧ OwnK 43 4 sn1 w.heap.size w' v [] ∧ OwnK 74 3 ft1 w.heap.size w' u []) ∧ Below w.heap.size w w' := by
  have HR := Lib.hid hR
  clear hR
  go_enter Try.func20, Try.ntmps20
  go_wp2_with fail
  refine (HC.out _ (HR.out.later (by (repeat' (first | (with_reducible exact Below.refl _ _) | (with_reducible assumption) | (with_reducible refine belowThru ?_ (by assumption)) | (with_reducible refine belowAlloc ?_) | (with_reducible refine Below.setCell ?_ (by first | omega | (simp; done) | (simp; omega)) _) | (with_reducible refine Below.drew ?_) | (with_reducible refine below_drewN ?_ _)))))).mono ?_
  rintro e w1 ⟨rfl, hb⟩
  have kT : Blk w1 w.heap.size #[.int .i64 s, .int .i64 p, .int .i64 g, .int .i64 l, .int .i64 c, .int .i64 nx, .slice a n cap] 26 := Blk.later hb (Blk.alloc (Blk.new rfl))
  have kR : Blk w1 (w.heap.size + 1) #[.int .i64 0, .int .i64 0, .int .i64 0, .int .i64 0, .int .i64 0, .int .i64 0, .slice none 0 0] 26 := Blk.later hb (Blk.new (by simp))
  have hB : Below w.heap.size w w1 := belowThru (belowAlloc (belowAlloc (Below.refl _ _))) hb
  clear hb
  obtain ⟨aT, bT⟩ := kT.read; obtain ⟨aR, bR⟩ := kR.read; have yT := kT.lt; have yR := kR.lt
  go_wp2_with fail
  have q2 := (kR.set7 (.int .i64 0) (.int .i64 0) (.int .i64 0) (.int .i64 0) (.int .i64 0) (.int .i64 0) (.slice none 0 0)).cells
  exact bodyPost_ret (v := .tuple #[.agg #[.int .i64 0, .int .i64 0, .int .i64 0, .int .i64 0, .int .i64 0, .int .i64 0, .slice none 0 0], .slice none 0 0, .int .i64 E]) (by simp only [results, Try.results20]; go_simp) rfl ⟨⟨_, _, rfl, OwnK.nil _ _, OwnK.nil _ _⟩, by (repeat' (first | (with_reducible exact Below.refl _ _) | (with_reducible assumption) | (with_reducible refine belowThru ?_ (by assumption)) | (with_reducible refine belowAlloc ?_) | (with_reducible refine Below.setCell ?_ (by first | omega | (simp; done) | (simp; omega)) _) | (with_reducible refine Below.drew ?_) | (with_reducible refine below_drewN ?_ _)))⟩
set_option maxRecDepth 100000 in
set_option maxHeartbeats 16000000 in
theorem radv_arg (s p g l c nx : Int) (a : Option Addr) (n cap : Nat) (m : Int) (xs : List Sn) (w : World) (hR : RowK 4 sn1 w a n xs) (HC : Hid (∀ w, RowK 4 sn1 w a n xs → Calls Try.prog 15 #[.agg #[.int .i64 s, .int .i64 p, .int .i64 g, .int .i64 l, .int .i64 c, .int .i64 nx, .slice a n cap]] w fun e w' => e = .returned (.int .i64 0) ∧ Below w.heap.size w w')) (H1 : Hid (∀ w, Calls Try.prog 41 #[.int .i64 m, .int .i64 1, .int .i64 1000] w fun e w' => e = .returned (.bool false) ∧ w = w')) :
    Calls Try.prog 20 #[.agg #[.int .i64 s, .int .i64 p, .int .i64 g, .int .i64 l, .int .i64 c, .int .i64 nx, .slice a n cap], .int .i64 m] w fun e w' => (∃ v u, e = .returned (.tuple #[.agg #[.int .i64 0, .int .i64 0, .int .i64 0, .int .i64 0, .int .i64 0, .int .i64 0, v], u, .int .i64 2]) ∧ OwnK 43 4 sn1 w.heap.size w' v [] ∧ OwnK 74 3 ft1 w.heap.size w' u []) ∧ Below w.heap.size w w' := by
  have HR := Lib.hid hR
  clear hR
  go_enter Try.func20, Try.ntmps20
  go_wp2_with fail
  refine (HC.out _ (HR.out.later (by (repeat' (first | (with_reducible exact Below.refl _ _) | (with_reducible assumption) | (with_reducible refine belowThru ?_ (by assumption)) | (with_reducible refine belowAlloc ?_) | (with_reducible refine Below.setCell ?_ (by first | omega | (simp; done) | (simp; omega)) _) | (with_reducible refine Below.drew ?_) | (with_reducible refine below_drewN ?_ _)))))).mono ?_
  rintro e w1 ⟨rfl, hb⟩
  have kT : Blk w1 w.heap.size #[.int .i64 s, .int .i64 p, .int .i64 g, .int .i64 l, .int .i64 c, .int .i64 nx, .slice a n cap] 26 := Blk.later hb (Blk.alloc (Blk.new rfl))
  have kR : Blk w1 (w.heap.size + 1) #[.int .i64 0, .int .i64 0, .int .i64 0, .int .i64 0, .int .i64 0, .int .i64 0, .slice none 0 0] 26 := Blk.later hb (Blk.new (by simp))
  have hB : Below w.heap.size w w1 := belowThru (belowAlloc (belowAlloc (Below.refl _ _))) hb
  clear hb
  obtain ⟨aT, bT⟩ := kT.read; obtain ⟨aR, bR⟩ := kR.read; have yT := kT.lt; have yR := kR.lt
  go_wp2_with (go_at_call 41; ((with_reducible refine (H1.out _).mono ?_); rintro e w2 ⟨rfl, rfl⟩))
  have q2 := (kR.set7 (.int .i64 0) (.int .i64 0) (.int .i64 0) (.int .i64 0) (.int .i64 0) (.int .i64 0) (.slice none 0 0)).cells
  exact bodyPost_ret (v := .tuple #[.agg #[.int .i64 0, .int .i64 0, .int .i64 0, .int .i64 0, .int .i64 0, .int .i64 0, .slice none 0 0], .slice none 0 0, .int .i64 2]) (by simp only [results, Try.results20]; go_simp) rfl ⟨⟨_, _, rfl, OwnK.nil _ _, OwnK.nil _ _⟩, by (repeat' (first | (with_reducible exact Below.refl _ _) | (with_reducible assumption) | (with_reducible refine belowThru ?_ (by assumption)) | (with_reducible refine belowAlloc ?_) | (with_reducible refine Below.setCell ?_ (by first | omega | (simp; done) | (simp; omega)) _) | (with_reducible refine Below.drew ?_) | (with_reducible refine below_drewN ?_ _)))⟩
set_option maxRecDepth 100000 in
set_option maxHeartbeats 16000000 in
theorem radv_full (s p g l c nx : Int) (a : Option Addr) (n cap : Nat) (m : Int) (xs : List Sn) (hc : 0 ≤ c ∧ c ≤ 1099511627776) (hm : 1 ≤ m ∧ m ≤ 1000) (hf : 1099511627776 < c + m) (w : World) (hR : RowK 4 sn1 w a n xs) (HC : Hid (∀ w, RowK 4 sn1 w a n xs → Calls Try.prog 15 #[.agg #[.int .i64 s, .int .i64 p, .int .i64 g, .int .i64 l, .int .i64 c, .int .i64 nx, .slice a n cap]] w fun e w' => e = .returned (.int .i64 0) ∧ Below w.heap.size w w')) (H1 : Hid (∀ w, Calls Try.prog 41 #[.int .i64 m, .int .i64 1, .int .i64 1000] w fun e w' => e = .returned (.bool true) ∧ w = w')) :
    Calls Try.prog 20 #[.agg #[.int .i64 s, .int .i64 p, .int .i64 g, .int .i64 l, .int .i64 c, .int .i64 nx, .slice a n cap], .int .i64 m] w fun e w' => (∃ v u, e = .returned (.tuple #[.agg #[.int .i64 0, .int .i64 0, .int .i64 0, .int .i64 0, .int .i64 0, .int .i64 0, v], u, .int .i64 9]) ∧ OwnK 43 4 sn1 w.heap.size w' v [] ∧ OwnK 74 3 ft1 w.heap.size w' u []) ∧ Below w.heap.size w w' := by
  have HR := Lib.hid hR
  have v1 : IntKind.i64.wrap (c + m) = c + m := IntWalk.i64_in _ (by omega)
  have d1 : decide (1099511627776 < c + m) = true := decide_eq_true hf
  clear hR hf hc hm
  go_enter Try.func20, Try.ntmps20
  go_wp2_with fail
  refine (HC.out _ (HR.out.later (by (repeat' (first | (with_reducible exact Below.refl _ _) | (with_reducible assumption) | (with_reducible refine belowThru ?_ (by assumption)) | (with_reducible refine belowAlloc ?_) | (with_reducible refine Below.setCell ?_ (by first | omega | (simp; done) | (simp; omega)) _) | (with_reducible refine Below.drew ?_) | (with_reducible refine below_drewN ?_ _)))))).mono ?_
  rintro e w1 ⟨rfl, hb⟩
  have kT : Blk w1 w.heap.size #[.int .i64 s, .int .i64 p, .int .i64 g, .int .i64 l, .int .i64 c, .int .i64 nx, .slice a n cap] 26 := Blk.later hb (Blk.alloc (Blk.new rfl))
  have kR : Blk w1 (w.heap.size + 1) #[.int .i64 0, .int .i64 0, .int .i64 0, .int .i64 0, .int .i64 0, .int .i64 0, .slice none 0 0] 26 := Blk.later hb (Blk.new (by simp))
  have hB : Below w.heap.size w w1 := belowThru (belowAlloc (belowAlloc (Below.refl _ _))) hb
  clear hb
  obtain ⟨aT, bT⟩ := kT.read; obtain ⟨aR, bR⟩ := kR.read; have yT := kT.lt; have yR := kR.lt
  go_wp2_with (go_at_call 41; ((with_reducible refine (H1.out _).mono ?_); rintro e w2 ⟨rfl, rfl⟩))
  have q2 := (kR.set7 (.int .i64 0) (.int .i64 0) (.int .i64 0) (.int .i64 0) (.int .i64 0) (.int .i64 0) (.slice none 0 0)).cells
  exact bodyPost_ret (v := .tuple #[.agg #[.int .i64 0, .int .i64 0, .int .i64 0, .int .i64 0, .int .i64 0, .int .i64 0, .slice none 0 0], .slice none 0 0, .int .i64 9]) (by simp only [results, Try.results20]; go_simp) rfl ⟨⟨_, _, rfl, OwnK.nil _ _, OwnK.nil _ _⟩, by (repeat' (first | (with_reducible exact Below.refl _ _) | (with_reducible assumption) | (with_reducible refine belowThru ?_ (by assumption)) | (with_reducible refine belowAlloc ?_) | (with_reducible refine Below.setCell ?_ (by first | omega | (simp; done) | (simp; omega)) _) | (with_reducible refine Below.drew ?_) | (with_reducible refine below_drewN ?_ _)))⟩
set_option maxRecDepth 100000 in
set_option maxHeartbeats 16000000 in
theorem radv_yes (s p g l c nx : Int) (a : Option Addr) (n cap : Nat) (F L : Int) (M : Nat) (m : Int) (xs : List Sn) (hmM : m = (M : Int)) (hn : n ≤ 32) (hc : 0 ≤ c ∧ c ≤ 1099511627776) (hM : 1 ≤ M ∧ M ≤ 1000) (hf : c + (M : Int) ≤ 1099511627776) (w : World) (hR : RowK 4 sn1 w a n xs) (HC : Hid (∀ w, RowK 4 sn1 w a n xs → Calls Try.prog 15 #[.agg #[.int .i64 s, .int .i64 p, .int .i64 g, .int .i64 l, .int .i64 c, .int .i64 nx, .slice a n cap]] w fun e w' => e = .returned (.int .i64 0) ∧ Below w.heap.size w w')) (H1 : Hid (∀ w, Calls Try.prog 41 #[.int .i64 m, .int .i64 1, .int .i64 1000] w fun e w' => e = .returned (.bool true) ∧ w = w')) (HT : Hid (∀ w, RowK 4 sn1 w a n xs → Calls Try.prog 7 #[.agg #[.int .i64 s, .int .i64 p, .int .i64 g, .int .i64 l, .int .i64 c, .int .i64 nx, .slice a n cap]] w fun e w' => (∃ v, e = .returned (.agg #[.int .i64 s, .int .i64 p, .int .i64 g, .int .i64 l, .int .i64 c, .int .i64 nx, v]) ∧ OwnK 43 4 sn1 w.heap.size w' v xs) ∧ Below w.heap.size w w'))
    (HP : Hid (∀ (k : Nat) (a : Option Addr) (n cap : Nat) (w : World), k < M → RowK 4 sn1 w a n (adB F L k c xs).1 → Calls Try.prog 47 #[.agg #[.int .i64 s, .int .i64 p, .int .i64 g, .int .i64 l, .int .i64 (c + (k : Int)), .int .i64 nx, .slice a n cap]] w fun e w' => (∃ v u, e = .returned (.tuple #[.agg #[.int .i64 s, .int .i64 p, .int .i64 g, .int .i64 l, .int .i64 (c + (k : Int) + 1), .int .i64 nx, v], u]) ∧ OwnK 43 4 sn1 w.heap.size w' v (leftB F L (c + (k : Int) + 1) (adB F L k c xs).1) ∧ OwnK 74 3 ft1 w.heap.size w' u (fatesB F L (c + (k : Int) + 1) (adB F L k c xs).1)) ∧ Below w.heap.size w w')) :
    Calls Try.prog 20 #[.agg #[.int .i64 s, .int .i64 p, .int .i64 g, .int .i64 l, .int .i64 c, .int .i64 nx, .slice a n cap], .int .i64 m] w fun e w' => (∃ v u, e = .returned (.tuple #[.agg #[.int .i64 s, .int .i64 p, .int .i64 g, .int .i64 l, .int .i64 (c + m), .int .i64 nx, v], u, .int .i64 0]) ∧ OwnK 43 4 sn1 w.heap.size w' v (adB F L M c xs).1 ∧ OwnK 74 3 ft1 w.heap.size w' u (adB F L M c xs).2) ∧ Below w.heap.size w w' := by
  have HR := Lib.hid hR
  have hlen := Lib.hid hR.1
  have v1 : IntKind.i64.wrap (c + m) = c + m := IntWalk.i64_in _ (by omega)
  have d1 : decide (1099511627776 < c + m) = false := decide_eq_false (by omega)
  have hn' := Lib.hid hn
  have hMm := Lib.hid hmM
  obtain ⟨M1, M2⟩ := hM
  obtain ⟨c1, c2⟩ := hc
  clear hR hn
  go_enter Try.func20, Try.ntmps20
  go_wp2_with fail
  refine (HC.out _ (HR.out.later (by (repeat' (first | (with_reducible exact Below.refl _ _) | (with_reducible assumption) | (with_reducible refine belowThru ?_ (by assumption)) | (with_reducible refine belowAlloc ?_) | (with_reducible refine Below.setCell ?_ (by first | omega | (simp; done) | (simp; omega)) _) | (with_reducible refine Below.drew ?_) | (with_reducible refine below_drewN ?_ _)))))).mono ?_
  rintro e w1 ⟨rfl, hb⟩
  have kT : Blk w1 w.heap.size #[.int .i64 s, .int .i64 p, .int .i64 g, .int .i64 l, .int .i64 c, .int .i64 nx, .slice a n cap] 26 := Blk.later hb (Blk.alloc (Blk.new rfl))
  have kR : Blk w1 (w.heap.size + 1) #[.int .i64 0, .int .i64 0, .int .i64 0, .int .i64 0, .int .i64 0, .int .i64 0, .slice none 0 0] 26 := Blk.later hb (Blk.new (by simp))
  have hB : Below w.heap.size w w1 := belowThru (belowAlloc (belowAlloc (Below.refl _ _))) hb
  clear hb
  obtain ⟨aT, bT⟩ := kT.read; obtain ⟨aR, bR⟩ := kR.read; have yT := kT.lt; have yR := kR.lt
  clear hmM
  go_wp2_with (first | (go_at_call 41; ((with_reducible refine (H1.out _).mono ?_); rintro e w2 ⟨rfl, rfl⟩)))
  refine (HT.out _ (HR.out.later hB)).mono ?_
  rintro e w2 ⟨⟨v2', rfl, hO⟩, hb⟩
  have hbs := hb.size
  have hsz := Lib.hid hB.size
  clear aT bT aR bR yT yR
  replace kT := Blk.later hb kT; replace kR := Blk.later hb kR; replace hB := belowThru hB hb
  clear hb HT HC H1
  obtain ⟨a2, c2', ev, -⟩ := hO.row elem_sn
  rw [hlen.out] at ev
  subst ev
  obtain ⟨aT, bT⟩ := kT.read; obtain ⟨aR, bR⟩ := kR.read; have yT := kT.lt; have yR := kR.lt
  go_upto_region 9 with fail
  obtain ⟨W3, hW3⟩ : ∃ W, (((((((w2.setCell ⟨w.heap.size, 0, none⟩ (.int .i64 s)).setCell ⟨w.heap.size, 1, none⟩ (.int .i64 p)).setCell ⟨w.heap.size, 2, none⟩ (.int .i64 g)).setCell ⟨w.heap.size, 3, none⟩ (.int .i64 l)).setCell ⟨w.heap.size, 4, none⟩ (.int .i64 c)).setCell ⟨w.heap.size, 5, none⟩ (.int .i64 nx)).setCell ⟨w.heap.size, 6, none⟩ (.slice a2 n c2')) = W := ⟨_, rfl⟩
  have kT3 : Blk W3 w.heap.size #[.int .i64 s, .int .i64 p, .int .i64 g, .int .i64 l, .int .i64 c, .int .i64 nx, .slice a2 n c2'] 26 := by rw [← hW3]; exact kT.set7 (.int .i64 s) (.int .i64 p) (.int .i64 g) (.int .i64 l) (.int .i64 c) (.int .i64 nx) (.slice a2 n c2')
  have kR3 : Blk W3 (w.heap.size + 1) #[.int .i64 0, .int .i64 0, .int .i64 0, .int .i64 0, .int .i64 0, .int .i64 0, .slice none 0 0] 26 := by rw [← hW3]; exact (((((((kR.other (by simp)).other (by simp)).other (by simp)).other (by simp)).other (by simp)).other (by simp)).other (by simp))
  have hO3 : OwnK 43 4 sn1 w1.heap.size W3 (.slice a2 n c2') xs := by rw [← hW3]; exact hO.other7 (.int .i64 s) (.int .i64 p) (.int .i64 g) (.int .i64 l) (.int .i64 c) (.int .i64 nx) (.slice a2 n c2') (hO.ne kT (by decide))
  have hB3 : Below w.heap.size w W3 := by rw [← hW3]; exact ((((((hB.setCell (Nat.le_refl _) _).setCell (Nat.le_refl _) _).setCell (Nat.le_refl _) _).setCell (Nat.le_refl _) _).setCell (Nat.le_refl _) _).setCell (Nat.le_refl _) _).setCell (Nat.le_refl _) _
  have hS3 : Hid (w1.heap.size ≤ W3.heap.size) := by rw [← hW3]; show w1.heap.size ≤ _; simpa using hbs
  rw [hW3]
  clear hW3 kT kR hB aT bT aR bR yT yR hO hbs
  replace hO3 := Lib.hid hO3
  go_wp2_with fail
  go_loopw [8, 9] (fun v8 j wr => ∃ (k : Nat) (ci : Int) (a2 : Option Addr) (n2 c2 : Nat), k ≤ M ∧ j = .int .i64 k ∧ Hid (ci = c + (k : Int)) ∧ Hid (OwnK 74 3 ft1 w1.heap.size wr v8 (adB F L k c xs).2) ∧ Hid (OwnK 43 4 sn1 w1.heap.size wr (.slice a2 n2 c2) (adB F L k c xs).1) ∧ Blk wr w.heap.size #[.int .i64 s, .int .i64 p, .int .i64 g, .int .i64 l, .int .i64 ci, .int .i64 nx, .slice a2 n2 c2] 26 ∧ Blk wr (w.heap.size + 1) #[.int .i64 0, .int .i64 0, .int .i64 0, .int .i64 0, .int .i64 0, .int .i64 0, .slice none 0 0] 26 ∧ Below w.heap.size w wr ∧ Hid (w1.heap.size ≤ wr.heap.size)) (fun _ j _ => M - (intOf j).toNat)
  case atStart => exact ⟨0, c, a2, n, c2', Nat.zero_le _, rfl, (Int.add_zero c).symm, OwnK.nil _ _, hO3, kT3, kR3, hB3, hS3⟩
  case round =>
    clear kT3 kR3 hO3 hB3 hS3
    obtain ⟨k, ci, a2, n2, c2', hk, rfl, hci, hU, hV, kT, kR, hB, hS⟩ := hrel
    by_cases hlt : k < M
    · have HPk := Lib.hid (HP.out k a2 n2 c2' wr hlt (rowOfS' hV.out))
      have hal := Lib.hid (adB_length F L k c xs)
      have hci' := Lib.hid (hci.out.symm)
      have HPk2 := HPk.out
      rw [hci'.out] at HPk2
      replace HPk2 := Lib.hid HPk2
      have HA1 := Lib.hid (adB_succ F L k c xs)
      have HA2 := HA1.out
      rw [hci'.out] at HA2
      replace HA2 := Lib.hid HA2
      have hci2 : Hid (ci + 1 = c + ((k + 1 : Nat) : Int)) := by have := hci.out; show ci + 1 = _; omega
      have p0 : (k : Int) < (M : Int) := by omega
      have p1 : (k : Int) < m := by have := hMm.out; omega
      have p3 : (k : Int) ≤ 1000 := by omega
      clear hci hci' HPk HA1
      obtain ⟨aT, bT⟩ := kT.read; have yT := kT.lt
      go_wp2_with fail
      refine HPk2.out.mono ?_
      rintro e w4 ⟨⟨v4, u4, rfl, hV4, hU4⟩, hb⟩
      clear aT bT yT HPk2
      have hbz := hb.size
      replace kT := Blk.later hb kT; replace kR := Blk.later hb kR; replace hB := belowThru hB hb
      replace hU := Lib.hid (hU.out.later hb)
      clear hb hV
      obtain ⟨a4, c4, ev, -⟩ := hV4.row elem_sn
      obtain ⟨n4, hn4⟩ : ∃ q, (leftB F L (ci + 1) (adB F L k c xs).1).length = q := ⟨_, rfl⟩
      rw [hn4] at ev
      subst ev
      obtain ⟨f4, g4, ev, hf4, -⟩ := hU4.row elem_ft
      obtain ⟨m4, hm4⟩ : ∃ q, (fatesB F L (ci + 1) (adB F L k c xs).1).length = q := ⟨_, rfl⟩
      rw [hm4] at ev hf4
      subst ev
      have hm5 := Lib.hid hm4
      have hll := Lib.hid (leftB_length F L (ci + 1) (adB F L k c xs).1)
      clear hn4 hm4
      go_upto_region 14 with fail
      have hyT := kT.lt
      obtain ⟨W5, hW5⟩ : ∃ W, w4.alloc (.cells #[.int .i64 s, .int .i64 p, .int .i64 g, .int .i64 l, .int .i64 (ci + 1), .int .i64 nx, .slice a4 n4 c4] 26) = W := ⟨_, rfl⟩
      obtain ⟨bX, hbX⟩ : ∃ b, w4.heap.size = b := ⟨_, rfl⟩
      have kX : Blk W5 bX #[.int .i64 s, .int .i64 p, .int .i64 g, .int .i64 l, .int .i64 (ci + 1), .int .i64 nx, .slice a4 n4 c4] 26 := by rw [← hW5, ← hbX]; exact Blk.new rfl
      replace kT : Blk W5 w.heap.size #[.int .i64 s, .int .i64 p, .int .i64 g, .int .i64 l, .int .i64 ci, .int .i64 nx, .slice a2 n2 c2'] 26 := by rw [← hW5]; exact kT.alloc
      replace kR : Blk W5 (w.heap.size + 1) #[.int .i64 0, .int .i64 0, .int .i64 0, .int .i64 0, .int .i64 0, .int .i64 0, .slice none 0 0] 26 := by rw [← hW5]; exact kR.alloc
      replace hB : Below w.heap.size w W5 := by rw [← hW5]; exact belowAlloc hB
      replace hU := Lib.hid (show OwnK 74 3 ft1 w1.heap.size W5 _ _ by rw [← hW5]; exact hU.out.alloc)
      replace hV4 := Lib.hid (show OwnK 43 4 sn1 wr.heap.size W5 _ _ by rw [← hW5]; exact hV4.alloc)
      replace hU4 := Lib.hid (show OwnK 74 3 ft1 wr.heap.size W5 (.slice f4 m4 g4) _ by rw [← hW5]; exact hU4.alloc)
      have hS5 : Hid (w1.heap.size ≤ W5.heap.size) := by rw [← hW5]; have := hS.out; show w1.heap.size ≤ _; simp; omega
      have hXn : bX ≠ w.heap.size := by omega
      clear hyT
      rw [hW5, hbX]
      clear hW5 hbX hf4
      obtain ⟨aT, bT⟩ := kT.read; have yT := kT.lt
      obtain ⟨aX, bX'⟩ := kX.read; have yX := kX.lt
      go_upto_region 15 with fail
      obtain ⟨W6, hW6⟩ : ∃ W, (((((((W5.setCell ⟨w.heap.size, 0, none⟩ (.int .i64 s)).setCell ⟨w.heap.size, 1, none⟩ (.int .i64 p)).setCell ⟨w.heap.size, 2, none⟩ (.int .i64 g)).setCell ⟨w.heap.size, 3, none⟩ (.int .i64 l)).setCell ⟨w.heap.size, 4, none⟩ (.int .i64 (ci + 1))).setCell ⟨w.heap.size, 5, none⟩ (.int .i64 nx)).setCell ⟨w.heap.size, 6, none⟩ (.slice a4 n4 c4)) = W := ⟨_, rfl⟩
      have kT6 : Blk W6 w.heap.size #[.int .i64 s, .int .i64 p, .int .i64 g, .int .i64 l, .int .i64 (ci + 1), .int .i64 nx, .slice a4 n4 c4] 26 := by rw [← hW6]; exact kT.set7 (.int .i64 s) (.int .i64 p) (.int .i64 g) (.int .i64 l) (.int .i64 (ci + 1)) (.int .i64 nx) (.slice a4 n4 c4)
      have kR6 : Blk W6 (w.heap.size + 1) #[.int .i64 0, .int .i64 0, .int .i64 0, .int .i64 0, .int .i64 0, .int .i64 0, .slice none 0 0] 26 := by rw [← hW6]; exact (((((((kR.other (by simp)).other (by simp)).other (by simp)).other (by simp)).other (by simp)).other (by simp)).other (by simp))
      have hB6 : Below w.heap.size w W6 := by rw [← hW6]; exact ((((((hB.setCell (Nat.le_refl _) _).setCell (Nat.le_refl _) _).setCell (Nat.le_refl _) _).setCell (Nat.le_refl _) _).setCell (Nat.le_refl _) _).setCell (Nat.le_refl _) _).setCell (Nat.le_refl _) _
      have hU6 : Hid (OwnK 74 3 ft1 w1.heap.size W6 u8 (adB F L k c xs).2) := by rw [← hW6]; exact hU.out.other7 (.int .i64 s) (.int .i64 p) (.int .i64 g) (.int .i64 l) (.int .i64 (ci + 1)) (.int .i64 nx) (.slice a4 n4 c4) (hU.out.ne kT (by decide))
      have hV6 : Hid (OwnK 43 4 sn1 wr.heap.size W6 (.slice a4 n4 c4) (leftB F L (ci + 1) (adB F L k c xs).1)) := by rw [← hW6]; exact hV4.out.other7 (.int .i64 s) (.int .i64 p) (.int .i64 g) (.int .i64 l) (.int .i64 (ci + 1)) (.int .i64 nx) (.slice a4 n4 c4) (hV4.out.ne kT (by decide))
      have hF6 : Hid (OwnK 74 3 ft1 wr.heap.size W6 (.slice f4 m4 g4) (fatesB F L (ci + 1) (adB F L k c xs).1)) := by rw [← hW6]; exact hU4.out.other7 (.int .i64 s) (.int .i64 p) (.int .i64 g) (.int .i64 l) (.int .i64 (ci + 1)) (.int .i64 nx) (.slice a4 n4 c4) (hU4.out.ne kT (by decide))
      have hS6 : Hid (w1.heap.size ≤ W6.heap.size) := by rw [← hW6]; have := hS5.out; show w1.heap.size ≤ _; simpa using this
      rw [hW6]
      clear hW6 kT kR hB hU hV4 hU4 aT bT yT aX bX' yX kX hS5 hXn
      have HPa : Hid (∀ ty, ∃ r w', (Builtin.append_ #[49, 49] ty #[u8, .slice f4 m4 g4]).run Try.prog W6 = .ok r w' ∧ (OwnK 74 3 ft1 w1.heap.size w' r ((adB F L k c xs).2 ++ fatesB F L (ci + 1) (adB F L k c xs).1) ∧ W6.grownBy w' u8.ownBlock ∧ Below w1.heap.size W6 w')) := fun ty => by
        obtain ⟨v', w', h1, h2, h3, h4, -⟩ := run_append_k (P := Try.prog) elem_ft ty hU6.out (rowOfF' hF6.out) (by have := hal.out; have := hll.out; have := hm5.out; have := hlen.out; have := hn'.out; omega) hS6.out
        exact ⟨v', w', h1, h2, h3, h4⟩
      have nT := Lib.hid (hU6.out.ne kT6 (by decide)); have nR := Lib.hid (hU6.out.ne kR6 (by decide))
      have nV := Lib.hid (OwnK.apart hV6.out hU6.out (by decide))
      clear hF6 hU6
      go_wp2_with (at_builtin; (refine wpList_append_w (by first | rfl | decide | (simp [Region.wanted, yielded]; done) | (go_simp; done)) _ _ _ _ rfl _ _ rfl rfl (HPa.out _) ?_); (rintro r w6 ⟨hO6, hg6, hb6⟩))
      go_roundw
      case rel => exact ⟨k + 1, ci + 1, a4, n4, c4, hlt, by go_num, hci2, Lib.hid (show OwnK 74 3 ft1 w1.heap.size w6 r _ by rw [HA2.out]; exact hO6), Lib.hid (show OwnK 43 4 sn1 w1.heap.size w6 (.slice a4 n4 c4) _ by rw [HA2.out]; exact (hV6.out.mono hS.out).but hg6 nV.out), kT6.but hg6 (fun e => nT.out e.symm), kR6.but hg6 (fun e => nR.out e.symm), hB6.trans (hb6.mono hsz.out), Lib.hid (show w1.heap.size ≤ w6.heap.size by have := hS6.out; have := hb6.size; omega)⟩
      case measure => simp [intOf]; omega
    · obtain rfl : k = M := by omega
      have eci : ci = c + m := by rw [hMm.out]; exact hci.out
      subst eci
      have p1 : ¬ (k : Int) < m := by have := hMm.out; omega
      have d2 : decide ((k : Int) < m) = false := decide_eq_false p1
      clear hlt hk hci
      have hU6 := Lib.hid ((hU.out.mono hsz.out).other7 (b := w.heap.size + 1) (.int .i64 s) (.int .i64 p) (.int .i64 g) (.int .i64 l) (.int .i64 (c + m)) (.int .i64 nx) (.slice a2 n2 c2') (hU.out.ne kR (by decide)))
      have hV6 := Lib.hid ((hV.out.mono hsz.out).other7 (b := w.heap.size + 1) (.int .i64 s) (.int .i64 p) (.int .i64 g) (.int .i64 l) (.int .i64 (c + m)) (.int .i64 nx) (.slice a2 n2 c2') (hV.out.ne kR (by decide)))
      have kR6 := kR.set7 (.int .i64 s) (.int .i64 p) (.int .i64 g) (.int .i64 l) (.int .i64 (c + m)) (.int .i64 nx) (.slice a2 n2 c2')
      clear hU hV
      obtain ⟨aT, bT⟩ := kT.read; obtain ⟨aR, bR⟩ := kR.read; have yT := kT.lt; have yR := kR.lt
      go_wp2_with fail
      have q2 := kR6.cells
      exact bodyPost_ret (v := .tuple #[.agg #[.int .i64 s, .int .i64 p, .int .i64 g, .int .i64 l, .int .i64 (c + m), .int .i64 nx, .slice a2 n2 c2'], u8, .int .i64 0]) (by simp only [results, Try.results20]; go_simp) rfl ⟨⟨_, _, rfl, hV6.out, hU6.out⟩, by (repeat' (first | (with_reducible exact Below.refl _ _) | (with_reducible assumption) | (with_reducible refine belowThru ?_ (by assumption)) | (with_reducible refine belowAlloc ?_) | (with_reducible refine Below.setCell ?_ (by first | omega | (simp; done) | (simp; omega)) _) | (with_reducible refine Below.drew ?_) | (with_reducible refine below_drewN ?_ _)))⟩
theorem radv_u (s p g l c nx : Int) (a : Option Addr) (n cap : Nat) (m : Int) (xs : List Sn) (hn : n ≤ maxLen) (w : World) (hR : RowK 4 sn1 w a n xs) :
    Calls Try.prog 20 #[.agg #[.int .i64 s, .int .i64 p, .int .i64 g, .int .i64 l, .int .i64 c, .int .i64 nx, .slice a n cap], .int .i64 m] w fun e w' => (∃ v u, e = .returned (.tuple #[.agg #[.int .i64 (tk (advE s p g l c nx xs m) s), .int .i64 (tk (advE s p g l c nx xs m) p), .int .i64 (tk (advE s p g l c nx xs m) g), .int .i64 (tk (advE s p g l c nx xs m) l), .int .i64 (tk (advE s p g l c nx xs m) (c + m)), .int .i64 (tk (advE s p g l c nx xs m) nx), v], u, .int .i64 (advE s p g l c nx xs m)]) ∧ OwnK 43 4 sn1 w.heap.size w' v (tl (advE s p g l c nx xs m) (adL s p g l c m xs)) ∧ OwnK 74 3 ft1 w.heap.size w' u (tl (advE s p g l c nx xs m) (adF s p g l c m xs))) ∧ Below w.heap.size w w' := by
  have HC := HRck s p g l c nx a n cap xs hn _ rfl
  have hl := hR.1
  by_cases h0 : ckT s p g l c nx xs = 0
  · have ho := okT_ck h0
    rw [h0] at HC
    have h32 : n ≤ 32 := by rw [← hl]; exact ho.2.2.2.1
    by_cases hm : 1 ≤ m ∧ m ≤ 1000
    · have H1 := HRw m 1 1000 true (decide_eq_true hm)
      by_cases hf : 1099511627776 < c + m
      · have e0 : advE s p g l c nx xs m = 9 := by unfold advE; rw [if_neg (by rw [h0]; simp), if_neg (by simp; omega), if_pos hf]
        rw [e0]
        simp only [tk_no (show ((9 : Int) != 0) = true from rfl), tl_no (show ((9 : Int) != 0) = true from rfl)]
        exact radv_full s p g l c nx a n cap m xs ho.2.1 hm hf w hR HC H1
      · have e0 : advE s p g l c nx xs m = 0 := by unfold advE; rw [if_neg (by rw [h0]; simp), if_neg (by simp; omega), if_neg hf]
        rw [e0]
        have hM : m = ((m.toNat : Nat) : Int) := by omega
        refine radv_yes s p g l c nx a n cap (fiB s p g) (laB s p l g) m.toNat m xs hM h32 ho.2.1 ⟨by omega, by omega⟩ (by omega) w hR HC H1 (fun w h => rtwin_any s p g l c nx a n cap xs (by omega) w h) ?_
        intro k a2 n2 c2 w2 hk hR2
        have hx : ∀ x ∈ (adB (fiB s p g) (laB s p l g) k c xs).1, 0 ≤ x.2.1 ∧ x.2.1 ≤ 1099511627776 := adB_at (p := fun t => 0 ≤ t ∧ t ≤ 1099511627776) k (okT_at ho)
        have hlen2 := adB_length (fiB s p g) (laB s p l g) k c xs
        have hn2 : n2 ≤ 32 := by rw [← hR2.1]; omega
        have hc := ho.2.1
        exact rpassed_any s p g l (c + (k : Int)) nx a2 n2 c2 (fiB s p g) (laB s p l g) _ hn2 ⟨by omega, by omega⟩ (fiB_la ho.1).2 hx w2 hR2 (rmay_ok (c := c) (nx := nx) _ ho.1 hx) (fun w => ends_any s p g l g ho.1 ho.1.2.2.1.1 ho.1.2.2.1.2 w)
    · have e0 : advE s p g l c nx xs m = 2 := by unfold advE; rw [if_neg (by rw [h0]; simp), if_pos hm]
      rw [e0]
      simp only [tk_no (show ((2 : Int) != 0) = true from rfl), tl_no (show ((2 : Int) != 0) = true from rfl)]
      exact radv_arg s p g l c nx a n cap m xs w hR HC (HRw m 1 1000 false (decide_eq_false hm))
  · have hE : (ckT s p g l c nx xs != 0) = true := by simpa using h0
    have e0 : advE s p g l c nx xs m = ckT s p g l c nx xs := by unfold advE; rw [if_pos h0]
    rw [e0]
    simp only [tk_no hE, tl_no hE]
    exact radv_bad s p g l c nx a n cap m xs _ hE w hR HC
end Go.Proofs.Ytnkpejinnbiocaa
