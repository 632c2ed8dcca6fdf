/-
  Layer 9: a part at the sensor, a verdict, by the document's own; both sides in the same words.
-/
import Derived.Test.YtnkpejinnbiocaaVRTu
namespace Go.Proofs.Ytnkpejinnbiocaa
open Go.RowKit Go.Shelf
set_option linter.unusedVariables false
set_option linter.unusedSimpArgs false

theorem rsense_u (s p g l c nx : Int) (a : Option Addr) (n cap : Nat) (xs : List Sn) (hcap : n ≤ cap) (hn : n ≤ maxLen) (w : World) (hR : RowK 4 sn1 w a n xs) :
    Calls Try.prog 11 #[.agg #[.int .i64 s, .int .i64 p, .int .i64 g, .int .i64 l, .int .i64 c, .int .i64 nx, .slice a n cap]] w fun e w' => (∃ v, e = .returned (.tuple #[.agg #[.int .i64 (tk (senE s p g l c nx xs) s), .int .i64 (tk (senE s p g l c nx xs) p), .int .i64 (tk (senE s p g l c nx xs) g), .int .i64 (tk (senE s p g l c nx xs) l), .int .i64 (tk (senE s p g l c nx xs) c), .int .i64 (tk (senE s p g l c nx xs) (nx + 1)), v], .int .i64 (tk (senE s p g l c nx xs) nx), .int .i64 (senE s p g l c nx xs)]) ∧ OwnK 43 4 sn1 w.heap.size w' v (tl (senE s p g l c nx xs) (xs ++ [(nx, c, 0, false)]))) ∧ Below w.heap.size w w' := by
  have HC := HRck s p g l c nx a n cap xs hn _ rfl
  have hl := hR.1
  by_cases h0 : ckT s p g l c nx xs = 0
  · have ho := okT_ck h0
    rw [h0] at HC
    have h32 : n ≤ 32 := by rw [← hl]; exact ho.2.2.2.1
    have HT : Hid (∀ w, RowK 4 sn1 w a n xs → _) := fun w h => rtwin_any s p g l c nx a n cap xs (by omega) w h
    have e0 : senE s p g l c nx xs = if (xs[xs.length - 1]?).any (fun x => x.2.1 == c) = true then 91 else if xs.length = 32 ∨ nx = 1099511627776 then 9 else 0 := by unfold senE; rw [if_neg (by rw [h0]; simp)]
    rw [hl] at e0
    have hnx := ho.2.2.1
    cases n with
    | zero =>
      have hx0 : xs = [] := List.eq_nil_of_length_eq_zero hl
      rw [if_neg (by rw [hx0]; simp)] at e0
      by_cases hf : nx = 1099511627776
      · rw [if_pos (.inr hf)] at e0
        rw [e0]
        simp only [tk_no (show ((9 : Int) != 0) = true from rfl), tl_no (show ((9 : Int) != 0) = true from rfl)]
        exact rsense_fullz2 s p g l c nx a cap xs (by simp [hf]) w hR HC
      · rw [if_neg (by omega)] at e0
        rw [e0]
        exact rsense_yesz s p g l c nx a cap xs ⟨by omega, by omega⟩ w hR HC HT
    | succ q =>
      have hx : ∃ x, xs[q]? = some x := ⟨xs[q]'(by omega), List.getElem?_eq_getElem _⟩
      obtain ⟨x, hx⟩ := hx
      have hq : xs[q + 1 - 1]? = some x := hx
      rw [hq] at e0
      by_cases hla : (x.2.1 == c) = true
      · rw [if_pos (by simpa using hla)] at e0
        rw [e0]
        simp only [tk_no (show ((91 : Int) != 0) = true from rfl), tl_no (show ((91 : Int) != 0) = true from rfl)]
        exact rsense_order s p g l c nx a cap q xs (by omega) (fun y hy => by rw [hx] at hy; cases hy; exact hla) w hR HC
      · rw [if_neg (by simpa using hla)] at e0
        have hne : ∀ y, xs[q]? = some y → (y.2.1 == c) = false := fun y hy => by rw [hx] at hy; cases hy; simpa using hla
        by_cases h31 : q = 31
        · rw [if_pos (.inl (by omega))] at e0
          rw [e0]
          simp only [tk_no (show ((9 : Int) != 0) = true from rfl), tl_no (show ((9 : Int) != 0) = true from rfl)]
          exact rsense_fulla1 s p g l c nx a cap q xs (by omega) hne h31 w hR HC
        by_cases hf : nx = 1099511627776
        · rw [if_pos (.inr hf)] at e0
          rw [e0]
          simp only [tk_no (show ((9 : Int) != 0) = true from rfl), tl_no (show ((9 : Int) != 0) = true from rfl)]
          exact rsense_fulla2 s p g l c nx a cap q xs (by omega) hne h31 (by simp [hf]) w hR HC
        · rw [if_neg (by omega)] at e0
          rw [e0]
          exact rsense_yesa s p g l c nx a cap q xs (by omega) hne h31 ⟨by omega, by omega⟩ w hR HC HT
  · have hE : (ckT s p g l c nx xs != 0) = true := by simpa using h0
    have e0 : senE s p g l c nx xs = ckT s p g l c nx xs := by unfold senE; rw [if_pos h0]
    rw [e0]
    simp only [tk_no hE, tl_no hE]
    exact rsense_bad s p g l c nx a n cap xs _ hE w hR HC
/-- The parts when a verdict was told. -/
def telY (xs : List Sn) (id vd : Int) : List Sn := match xs.findIdx? (fun x => x.1 == id) with
  | none => xs
  | some k => match xs[k]? with
    | none => xs
    | some x => xs.set k (id, x.2.1, vd, x.2.2.2)
theorem tell_u (s p g l c nx : Int) (a : Option Addr) (n cap : Nat) (id vd : Int) (xs : List Sn) (hn : n ≤ maxLen) (w : World) (hR : RowK 4 sn1 w a n xs) :
    Calls Try.prog 12 #[.agg #[.int .i64 s, .int .i64 p, .int .i64 g, .int .i64 l, .int .i64 c, .int .i64 nx, .slice a n cap], .int .i64 id, .int .u8 vd] w fun e w' => (∃ v, e = .returned (.tuple #[.agg #[.int .i64 (tk (telE s p g l c nx xs id vd) s), .int .i64 (tk (telE s p g l c nx xs id vd) p), .int .i64 (tk (telE s p g l c nx xs id vd) g), .int .i64 (tk (telE s p g l c nx xs id vd) l), .int .i64 (tk (telE s p g l c nx xs id vd) c), .int .i64 (tk (telE s p g l c nx xs id vd) nx), v], .int .i64 (telE s p g l c nx xs id vd)]) ∧ OwnK 43 4 sn1 w.heap.size w' v (tl (telE s p g l c nx xs id vd) (telY xs id vd))) ∧ Below w.heap.size w w' := by
  refine (tell_any s p g l c nx a n cap id vd xs hn w hR).mono fun e w' ⟨h, hb⟩ => ⟨?_, hb⟩
  rcases h with ⟨E, hE, hz, rfl⟩ | ⟨hE, -, -, k, q2, q3, q4, hk, hx, -, -, -, v, rfl, hO⟩
  · rw [hE]
    simp only [tk_no hz, tl_no hz]
    exact ⟨_, rfl, OwnK.nil _ _⟩
  · rw [hE]
    refine ⟨v, rfl, ?_⟩
    have e : telY xs id vd = xs.set k (id, q2, vd, q4) := by unfold telY; rw [hk]; simp only [hx]
    rw [e]
    exact hO
set_option maxRecDepth 100000 in
set_option maxHeartbeats 16000000 in
theorem rtell_bad (s p g l c nx : Int) (a : Option Addr) (n cap : Nat) (id vd : Int) (xs : List Sn) (E : Int) (hE : (E != 0) = true) (w : World) (hR : RowK 4 sn1 w a n xs) (HC : Hid (∀ w, RowK 4 sn1 w a n xs → Calls Try.prog 15 #[.agg #[.int .i64 s, .int .i64 p, .int .i64 g, .int .i64 l, .int .i64 c, .int .i64 nx, .slice a n cap]] w fun e w' => e = .returned (.int .i64 E) ∧ Below w.heap.size w w')) :
    Calls Try.prog 13 #[.agg #[.int .i64 s, .int .i64 p, .int .i64 g, .int .i64 l, .int .i64 c, .int .i64 nx, .slice a n cap], .int .i64 id, .int .u8 vd] w fun e w' => (∃ v, e = .returned (.tuple #[.agg #[.int .i64 0, .int .i64 0, .int .i64 0, .int .i64 0, .int .i64 0, .int .i64 0, v], .int .i64 E]) ∧ OwnK 43 4 sn1 w.heap.size w' v []) ∧ Below w.heap.size w w' := by
  have HR := Lib.hid hR
  clear hR
  go_enter Try.func13, Try.ntmps13
  go_wp2_with fail
  refine (HC.out _ (HR.out.later (by (repeat' (first | (with_reducible exact Below.refl _ _) | (with_reducible assumption) | (with_reducible refine belowThru ?_ (by assumption)) | (with_reducible refine belowAlloc ?_) | (with_reducible refine Below.setCell ?_ (by first | omega | (simp; done) | (simp; omega)) _) | (with_reducible refine Below.drew ?_) | (with_reducible refine below_drewN ?_ _)))))).mono ?_
  rintro e w1 ⟨rfl, hb⟩
  have kT : Blk w1 w.heap.size #[.int .i64 s, .int .i64 p, .int .i64 g, .int .i64 l, .int .i64 c, .int .i64 nx, .slice a n cap] 26 := Blk.later hb (Blk.alloc (Blk.new rfl))
  have kR : Blk w1 (w.heap.size + 1) #[.int .i64 0, .int .i64 0, .int .i64 0, .int .i64 0, .int .i64 0, .int .i64 0, .slice none 0 0] 26 := Blk.later hb (Blk.new (by simp))
  have hB : Below w.heap.size w w1 := belowThru (belowAlloc (belowAlloc (Below.refl _ _))) hb
  clear hb
  obtain ⟨aT, bT⟩ := kT.read; obtain ⟨aR, bR⟩ := kR.read; have yT := kT.lt; have yR := kR.lt
  go_wp2_with fail
  have q2' := (kR.set7 (.int .i64 0) (.int .i64 0) (.int .i64 0) (.int .i64 0) (.int .i64 0) (.int .i64 0) (.slice none 0 0)).cells
  exact bodyPost_ret (v := .tuple #[.agg #[.int .i64 0, .int .i64 0, .int .i64 0, .int .i64 0, .int .i64 0, .int .i64 0, .slice none 0 0], .int .i64 E]) (by simp only [results, Try.results13]; go_simp) rfl ⟨⟨_, rfl, OwnK.nil _ _⟩, by (repeat' (first | (with_reducible exact Below.refl _ _) | (with_reducible assumption) | (with_reducible refine belowThru ?_ (by assumption)) | (with_reducible refine belowAlloc ?_) | (with_reducible refine Below.setCell ?_ (by first | omega | (simp; done) | (simp; omega)) _) | (with_reducible refine Below.drew ?_) | (with_reducible refine below_drewN ?_ _)))⟩
set_option maxRecDepth 100000 in
set_option maxHeartbeats 16000000 in
theorem rtell_arg (s p g l c nx : Int) (a : Option Addr) (n cap : Nat) (id vd : Int) (xs : List Sn) (hv : ¬ (1 ≤ vd ∧ vd ≤ 3)) (w : World) (hR : RowK 4 sn1 w a n xs) (HC : Hid (∀ w, RowK 4 sn1 w a n xs → Calls Try.prog 15 #[.agg #[.int .i64 s, .int .i64 p, .int .i64 g, .int .i64 l, .int .i64 c, .int .i64 nx, .slice a n cap]] w fun e w' => e = .returned (.int .i64 0) ∧ Below w.heap.size w w')) :
    Calls Try.prog 13 #[.agg #[.int .i64 s, .int .i64 p, .int .i64 g, .int .i64 l, .int .i64 c, .int .i64 nx, .slice a n cap], .int .i64 id, .int .u8 vd] w fun e w' => (∃ v, e = .returned (.tuple #[.agg #[.int .i64 0, .int .i64 0, .int .i64 0, .int .i64 0, .int .i64 0, .int .i64 0, v], .int .i64 2]) ∧ OwnK 43 4 sn1 w.heap.size w' v []) ∧ Below w.heap.size w w' := by
  have HR := Lib.hid hR
  clear hR
  by_cases h1 : vd < 1
  · have d1 : decide (vd < 1) = true := decide_eq_true h1
    clear h1 hv
    go_enter Try.func13, Try.ntmps13
    go_wp2_with fail
    refine (HC.out _ (HR.out.later (by (repeat' (first | (with_reducible exact Below.refl _ _) | (with_reducible assumption) | (with_reducible refine belowThru ?_ (by assumption)) | (with_reducible refine belowAlloc ?_) | (with_reducible refine Below.setCell ?_ (by first | omega | (simp; done) | (simp; omega)) _) | (with_reducible refine Below.drew ?_) | (with_reducible refine below_drewN ?_ _)))))).mono ?_
    rintro e w1 ⟨rfl, hb⟩
    have kT : Blk w1 w.heap.size #[.int .i64 s, .int .i64 p, .int .i64 g, .int .i64 l, .int .i64 c, .int .i64 nx, .slice a n cap] 26 := Blk.later hb (Blk.alloc (Blk.new rfl))
    have kR : Blk w1 (w.heap.size + 1) #[.int .i64 0, .int .i64 0, .int .i64 0, .int .i64 0, .int .i64 0, .int .i64 0, .slice none 0 0] 26 := Blk.later hb (Blk.new (by simp))
    have hB : Below w.heap.size w w1 := belowThru (belowAlloc (belowAlloc (Below.refl _ _))) hb
    clear hb
    obtain ⟨aT, bT⟩ := kT.read; obtain ⟨aR, bR⟩ := kR.read; have yT := kT.lt; have yR := kR.lt
    go_wp2_with fail
    have q2' := (kR.set7 (.int .i64 0) (.int .i64 0) (.int .i64 0) (.int .i64 0) (.int .i64 0) (.int .i64 0) (.slice none 0 0)).cells
    exact bodyPost_ret (v := .tuple #[.agg #[.int .i64 0, .int .i64 0, .int .i64 0, .int .i64 0, .int .i64 0, .int .i64 0, .slice none 0 0], .int .i64 2]) (by simp only [results, Try.results13]; go_simp) rfl ⟨⟨_, rfl, OwnK.nil _ _⟩, by (repeat' (first | (with_reducible exact Below.refl _ _) | (with_reducible assumption) | (with_reducible refine belowThru ?_ (by assumption)) | (with_reducible refine belowAlloc ?_) | (with_reducible refine Below.setCell ?_ (by first | omega | (simp; done) | (simp; omega)) _) | (with_reducible refine Below.drew ?_) | (with_reducible refine below_drewN ?_ _)))⟩
  · have d1 : decide (vd < 1) = false := decide_eq_false h1
    have d2 : decide (3 < vd) = true := decide_eq_true (by omega)
    clear h1 hv
    go_enter Try.func13, Try.ntmps13
    go_wp2_with fail
    refine (HC.out _ (HR.out.later (by (repeat' (first | (with_reducible exact Below.refl _ _) | (with_reducible assumption) | (with_reducible refine belowThru ?_ (by assumption)) | (with_reducible refine belowAlloc ?_) | (with_reducible refine Below.setCell ?_ (by first | omega | (simp; done) | (simp; omega)) _) | (with_reducible refine Below.drew ?_) | (with_reducible refine below_drewN ?_ _)))))).mono ?_
    rintro e w1 ⟨rfl, hb⟩
    have kT : Blk w1 w.heap.size #[.int .i64 s, .int .i64 p, .int .i64 g, .int .i64 l, .int .i64 c, .int .i64 nx, .slice a n cap] 26 := Blk.later hb (Blk.alloc (Blk.new rfl))
    have kR : Blk w1 (w.heap.size + 1) #[.int .i64 0, .int .i64 0, .int .i64 0, .int .i64 0, .int .i64 0, .int .i64 0, .slice none 0 0] 26 := Blk.later hb (Blk.new (by simp))
    have hB : Below w.heap.size w w1 := belowThru (belowAlloc (belowAlloc (Below.refl _ _))) hb
    clear hb
    obtain ⟨aT, bT⟩ := kT.read; obtain ⟨aR, bR⟩ := kR.read; have yT := kT.lt; have yR := kR.lt
    go_wp2_with fail
    have q2' := (kR.set7 (.int .i64 0) (.int .i64 0) (.int .i64 0) (.int .i64 0) (.int .i64 0) (.int .i64 0) (.slice none 0 0)).cells
    exact bodyPost_ret (v := .tuple #[.agg #[.int .i64 0, .int .i64 0, .int .i64 0, .int .i64 0, .int .i64 0, .int .i64 0, .slice none 0 0], .int .i64 2]) (by simp only [results, Try.results13]; go_simp) rfl ⟨⟨_, rfl, OwnK.nil _ _⟩, by (repeat' (first | (with_reducible exact Below.refl _ _) | (with_reducible assumption) | (with_reducible refine belowThru ?_ (by assumption)) | (with_reducible refine belowAlloc ?_) | (with_reducible refine Below.setCell ?_ (by first | omega | (simp; done) | (simp; omega)) _) | (with_reducible refine Below.drew ?_) | (with_reducible refine below_drewN ?_ _)))⟩
set_option maxRecDepth 100000 in
set_option maxHeartbeats 16000000 in
theorem rtell_loop (s p g l c nx : Int) (a : Option Addr) (n cap : Nat) (id vd F L R : Int) (xs Y : List Sn) (hv : 1 ≤ vd ∧ vd ≤ 3) (hn : n ≤ 32) (hF : 1 ≤ F ∧ F ≤ 2000001) (hx : ∀ x ∈ xs, 0 ≤ x.2.1 ∧ x.2.1 ≤ 1099511627776) (w : World) (hR : RowK 4 sn1 w a n xs) (HC : Hid (∀ w, RowK 4 sn1 w a n xs → Calls Try.prog 15 #[.agg #[.int .i64 s, .int .i64 p, .int .i64 g, .int .i64 l, .int .i64 c, .int .i64 nx, .slice a n cap]] w fun e w' => e = .returned (.int .i64 0) ∧ Below w.heap.size w w'))
    (HE : Hid (∀ w, Calls Try.prog 37 #[.agg #[.int .i64 s, .int .i64 p, .int .i64 g, .int .i64 l], .int .i64 g] w fun e w' => e = .returned (.tuple #[.int .i64 F, .int .i64 L]) ∧ Below w.heap.size w w'))
    (HT : Hid (∀ w, RowK 4 sn1 w a n xs → Calls Try.prog 7 #[.agg #[.int .i64 s, .int .i64 p, .int .i64 g, .int .i64 l, .int .i64 c, .int .i64 nx, .slice a n cap]] w fun e w' => (∃ v, e = .returned (.agg #[.int .i64 s, .int .i64 p, .int .i64 g, .int .i64 l, .int .i64 c, .int .i64 nx, v]) ∧ OwnK 43 4 sn1 w.heap.size w' v xs) ∧ Below w.heap.size w w'))
    (HK : Hid ((∀ j x, j < n → xs[j]? = some x → x.1 ≠ id) → R = 6))
    (HL : Hid (∀ (k : Nat) (q2 q3 : Int) (q4 : Bool), (∀ j x, j < k → xs[j]? = some x → x.1 ≠ id) → xs[k]? = some (id, q2, q3, q4) → (q3 ≠ 0 ∨ q2 + F ≤ c) → R = 91))
    (HY : Hid (∀ (k : Nat) (q2 q3 : Int) (q4 : Bool), (∀ j x, j < k → xs[j]? = some x → x.1 ≠ id) → xs[k]? = some (id, q2, q3, q4) → q3 = 0 → ¬ q2 + F ≤ c → R = 0 ∧ Y = xs.set k (id, q2, vd, q4))) :
    Calls Try.prog 13 #[.agg #[.int .i64 s, .int .i64 p, .int .i64 g, .int .i64 l, .int .i64 c, .int .i64 nx, .slice a n cap], .int .i64 id, .int .u8 vd] w fun e w' => (∃ v, e = .returned (.tuple #[.agg #[.int .i64 (tk R s), .int .i64 (tk R p), .int .i64 (tk R g), .int .i64 (tk R l), .int .i64 (tk R c), .int .i64 (tk R nx), v], .int .i64 R]) ∧ OwnK 43 4 sn1 w.heap.size w' v (tl R Y)) ∧ Below w.heap.size w w' := by
  have HR := Lib.hid hR
  have hlen := Lib.hid hR.1
  have HXa := Lib.hid hx
  have hd : decide (vd < 1) = false := decide_eq_false (by omega)
  have hd2 : decide (3 < vd) = false := decide_eq_false (by omega)
  obtain ⟨f1, f2⟩ := hF
  clear hR hx hv
  go_enter Try.func13, Try.ntmps13
  go_wp2_with fail
  refine (HC.out _ (HR.out.later (by (repeat' (first | (with_reducible exact Below.refl _ _) | (with_reducible assumption) | (with_reducible refine belowThru ?_ (by assumption)) | (with_reducible refine belowAlloc ?_) | (with_reducible refine Below.setCell ?_ (by first | omega | (simp; done) | (simp; omega)) _) | (with_reducible refine Below.drew ?_) | (with_reducible refine below_drewN ?_ _)))))).mono ?_
  rintro e w1 ⟨rfl, hb⟩
  have kT : Blk w1 w.heap.size #[.int .i64 s, .int .i64 p, .int .i64 g, .int .i64 l, .int .i64 c, .int .i64 nx, .slice a n cap] 26 := Blk.later hb (Blk.alloc (Blk.new rfl))
  have kR : Blk w1 (w.heap.size + 1) #[.int .i64 0, .int .i64 0, .int .i64 0, .int .i64 0, .int .i64 0, .int .i64 0, .slice none 0 0] 26 := Blk.later hb (Blk.new (by simp))
  have hB : Below w.heap.size w w1 := belowThru (belowAlloc (belowAlloc (Below.refl _ _))) hb
  clear hb
  obtain ⟨aT, bT⟩ := kT.read; obtain ⟨aR, bR⟩ := kR.read; have yT := kT.lt; have yR := kR.lt
  go_wp2_with fail
  refine (HE.out _).mono ?_
  rintro e w2 ⟨rfl, hb⟩
  clear aT bT aR bR yT yR
  replace kT := Blk.later hb kT; replace kR := Blk.later hb kR; replace hB := belowThru hB hb
  have hsz := Lib.hid hB.size
  clear hb HE
  obtain ⟨aT, bT⟩ := kT.read; obtain ⟨aR, bR⟩ := kR.read; have yT := kT.lt; have yR := kR.lt
  go_wp2_with fail
  refine (HT.out _ (HR.out.later hB)).mono ?_
  rintro e w3 ⟨⟨v2', rfl, hO⟩, hb⟩
  clear aT bT aR bR yT yR
  replace kT := Blk.later hb kT; replace kR := Blk.later hb kR; replace hB := belowThru hB hb
  clear hb HT
  obtain ⟨a2, c2, ev, -⟩ := hO.row elem_sn
  rw [hlen.out] at ev
  subst ev
  obtain ⟨aT, bT⟩ := kT.read; obtain ⟨aR, bR⟩ := kR.read; have yT := kT.lt; have yR := kR.lt
  go_upto_region 8 with fail
  obtain ⟨W3, hW3⟩ : ∃ W, ((((((w3.setCell ⟨w.heap.size, 0, none⟩ (.int .i64 s)).setCell ⟨w.heap.size, 1, none⟩ (.int .i64 p)).setCell ⟨w.heap.size, 2, none⟩ (.int .i64 g)).setCell ⟨w.heap.size, 3, none⟩ (.int .i64 l)).setCell ⟨w.heap.size, 4, none⟩ (.int .i64 c)).setCell ⟨w.heap.size, 5, none⟩ (.int .i64 nx)).setCell ⟨w.heap.size, 6, none⟩ (.slice a2 n c2) = W := ⟨_, rfl⟩
  have kT3 : Blk W3 w.heap.size #[.int .i64 s, .int .i64 p, .int .i64 g, .int .i64 l, .int .i64 c, .int .i64 nx, .slice a2 n c2] 26 := by rw [← hW3]; exact kT.set7 (.int .i64 s) (.int .i64 p) (.int .i64 g) (.int .i64 l) (.int .i64 c) (.int .i64 nx) (.slice a2 n c2)
  have kR3 : Blk W3 (w.heap.size + 1) #[.int .i64 0, .int .i64 0, .int .i64 0, .int .i64 0, .int .i64 0, .int .i64 0, .slice none 0 0] 26 := by rw [← hW3]; exact (((((((kR.other (by simp)).other (by simp)).other (by simp)).other (by simp)).other (by simp)).other (by simp)).other (by simp))
  have hO3 : OwnK 43 4 sn1 w2.heap.size W3 (.slice a2 n c2) xs := by rw [← hW3]; exact hO.other7 (.int .i64 s) (.int .i64 p) (.int .i64 g) (.int .i64 l) (.int .i64 c) (.int .i64 nx) (.slice a2 n c2) (hO.ne kT (by decide))
  have hB3 : Below w.heap.size w W3 := by rw [← hW3]; exact ((((((hB.setCell (Nat.le_refl _) _).setCell (Nat.le_refl _) _).setCell (Nat.le_refl _) _).setCell (Nat.le_refl _) _).setCell (Nat.le_refl _) _).setCell (Nat.le_refl _) _).setCell (Nat.le_refl _) _
  rw [hW3]
  clear hW3 kT kR hB aT bT aR bR yT yR
  replace hO3 := Lib.hid hO3
  clear hO
  obtain ⟨aT, bT⟩ := kT3.read; have yT := kT3.lt
  go_wp2_with fail
  clear aT bT yT
  go_loopw [11] (fun j wr => ∃ k : Nat, k ≤ n ∧ j = .int .i64 k ∧ Hid (∀ j x, j < k → xs[j]? = some x → x.1 ≠ id) ∧ Blk wr w.heap.size #[.int .i64 s, .int .i64 p, .int .i64 g, .int .i64 l, .int .i64 c, .int .i64 nx, .slice a2 n c2] 26 ∧ Blk wr (w.heap.size + 1) #[.int .i64 0, .int .i64 0, .int .i64 0, .int .i64 0, .int .i64 0, .int .i64 0, .slice none 0 0] 26 ∧ Hid (OwnK 43 4 sn1 w2.heap.size wr (.slice a2 n c2) xs) ∧ Below w.heap.size w wr) (fun j _ => n - (intOf j).toNat)
  case atStart => exact ⟨0, Nat.zero_le _, rfl, fun j x hj => absurd hj (Nat.not_lt_zero _), kT3, kR3, hO3, hB3⟩
  case round =>
    clear kT3 kR3 hO3 hB3
    obtain ⟨k, hk, rfl, hN, kT, kR, hO, hB⟩ := hrel
    by_cases hlt : k < n
    · obtain ⟨g2, c3, ev, hg2, -, -, hg3, hg4⟩ := hO.out.at0 elem_sn (by rw [hlen.out]; omega)
      rw [hlen.out] at ev
      cases ev
      obtain ⟨⟨q1, q2, q3, q4⟩, hxk⟩ : ∃ x, xs[k]? = some x := ⟨xs[k]'(by rw [hlen.out]; exact hlt), List.getElem?_eq_getElem _⟩
      have hr12 : 0 ≤ q2 ∧ q2 ≤ 1099511627776 := HXa.out _ (List.mem_of_getElem? hxk)
      obtain ⟨r1, r2⟩ := hr12
      have d0 := hO.out.cellsAt elem_sn hxk (i := 0) rfl
      have d1 := hO.out.cellsAt elem_sn hxk (i := 1) rfl
      have d2 := hO.out.cellsAt elem_sn hxk (i := 2) rfl
      rw [Nat.add_zero] at d0
      have HX := Lib.hid hxk
      have p0 : (0 : Int) ≤ (k : Int) := by omega
      have p1 : (k : Int) < (n : Int) := by omega
      have v1 : IntKind.i64.wrap (q2 + F) = q2 + F := IntWalk.i64_in _ (by omega)
      clear hxk r1 r2
      obtain ⟨aT, bT⟩ := kT.read; obtain ⟨aR, bR⟩ := kR.read; have yT := kT.lt; have yR := kR.lt
      by_cases hid : q1 = id
      · subst hid
        have z0 : (q1 != q1) = false := by simp
        by_cases g1 : q3 = 0
        · have z1 : (q3 != 0) = false := by simp [g1]
          by_cases g3 : q2 + F ≤ c
          · have z2 : decide (q2 + F ≤ c) = true := decide_eq_true g3
            have hz := Lib.hid (HL.out k q2 q3 q4 hN.out HX.out (.inr g3))
            clear HL HY HK hN g1 g3
            go_wp2_with fail
            go_quiet (fail)
            go_wp2
            have q2' := ((kR.drewN (n := nq)).set7 (.int .i64 0) (.int .i64 0) (.int .i64 0) (.int .i64 0) (.int .i64 0) (.int .i64 0) (.slice none 0 0)).cells
            exact bodyPost_ret (v := .tuple #[.agg #[.int .i64 0, .int .i64 0, .int .i64 0, .int .i64 0, .int .i64 0, .int .i64 0, .slice none 0 0], .int .i64 91]) (by simp only [results, Try.results13]; go_simp) rfl ⟨⟨_, by rw [hz.out]; rfl, by rw [hz.out]; exact OwnK.nil _ _⟩, by (repeat' (first | (with_reducible exact Below.refl _ _) | (with_reducible assumption) | (with_reducible refine belowThru ?_ (by assumption)) | (with_reducible refine belowAlloc ?_) | (with_reducible refine Below.setCell ?_ (by first | omega | (simp; done) | (simp; omega)) _) | (with_reducible refine Below.drew ?_) | (with_reducible refine below_drewN ?_ _)))⟩
          · have z2 : decide (q2 + F ≤ c) = false := decide_eq_false g3
            have hz := Lib.hid (HY.out k q2 q3 q4 hN.out HX.out g1 (by omega))
            have hne := Lib.hid (hO.out.ne kT (by decide)); have hne2 := Lib.hid (hO.out.ne kR (by decide))
            clear HL HY HK hN g1 g3
            go_wp2_with fail
            go_quiet (fail)
            obtain ⟨W4, hW4⟩ : ∃ W, wr.drewN nq = W := ⟨_, rfl⟩
            have kT4 : Blk W4 w.heap.size #[.int .i64 s, .int .i64 p, .int .i64 g, .int .i64 l, .int .i64 c, .int .i64 nx, .slice (some ⟨g2, 0, none⟩) n c2] 26 := by rw [← hW4]; exact kT.drewN
            have kR4 : Blk W4 (w.heap.size + 1) #[.int .i64 0, .int .i64 0, .int .i64 0, .int .i64 0, .int .i64 0, .int .i64 0, .slice none 0 0] 26 := by rw [← hW4]; exact kR.drewN
            have hB4 : Below w.heap.size w W4 := by rw [← hW4]; exact below_drewN hB _
            have hO4 : OwnK 43 4 sn1 w2.heap.size W4 (.slice (some ⟨g2, 0, none⟩) n c2) xs := by rw [← hW4]; exact hO.out
            rw [hW4]
            clear hW4 kT kR hB hO d0 d1 d2 aT bT aR bR yT yR hg4
            have hO5 := Lib.hid (hO4.set elem_sn hlen.out HX.out (i := 2) (u := .int .u8 vd) (y := (q1, q2, vd, q4)) (by decide) rfl)
            have hg5 : g2 < W4.heap.size := by
              obtain ⟨g6, c6, ev, -, -, -, h6, -⟩ := hO4.at0 elem_sn (by rw [hlen.out]; omega)
              rw [hlen.out] at ev
              cases ev
              exact h6
            have hg4 : ∀ i, W4.frozen? ⟨g2, i, none⟩ = false := by
              obtain ⟨g6, c6, ev, -, -, -, -, h6⟩ := hO4.at0 elem_sn (by rw [hlen.out]; omega)
              rw [hlen.out] at ev
              cases ev
              exact h6
            have d2 := hO4.cellsAt elem_sn HX.out (i := 2) rfl
            replace hO4 := Lib.hid hO4
            obtain ⟨aT, bT⟩ := kT4.read; have yT := kT4.lt
            go_upto_region 15 with fail
            obtain ⟨W5, hW5⟩ : ∃ W, W4.setCell ⟨g2, k * 4 + 2, none⟩ (.int .u8 vd) = W := ⟨_, rfl⟩
            have kT5 : Blk W5 w.heap.size #[.int .i64 s, .int .i64 p, .int .i64 g, .int .i64 l, .int .i64 c, .int .i64 nx, .slice (some ⟨g2, 0, none⟩) n c2] 26 := by rw [← hW5]; exact kT4.other (by intro e; exact hne.out (by simp only [Value.ownBlock]; rw [e]))
            have kR5 : Blk W5 (w.heap.size + 1) #[.int .i64 0, .int .i64 0, .int .i64 0, .int .i64 0, .int .i64 0, .int .i64 0, .slice none 0 0] 26 := by rw [← hW5]; exact kR4.other (by intro e; exact hne2.out (by simp only [Value.ownBlock]; rw [e]))
            have hB5 : Below w.heap.size w W5 := by rw [← hW5]; exact hB4.setCell (Nat.le_trans hsz.out hg2) _
            have hO6 : OwnK 43 4 sn1 w2.heap.size W5 (.slice (some ⟨g2, 0, none⟩) n c2) (xs.set k (q1, q2, vd, q4)) := by rw [← hW5]; exact hO5.out
            rw [hW5]
            have hO8 := Lib.hid ((hO6.mono hsz.out).other7 (b := w.heap.size + 1) (.int .i64 s) (.int .i64 p) (.int .i64 g) (.int .i64 l) (.int .i64 c) (.int .i64 nx) (.slice (some ⟨g2, 0, none⟩) n c2) hne2.out)
            have kR8 := kR5.set7 (.int .i64 s) (.int .i64 p) (.int .i64 g) (.int .i64 l) (.int .i64 c) (.int .i64 nx) (.slice (some ⟨g2, 0, none⟩) n c2)
            clear hW5 kT4 kR4 hB4 hO4 hO5 hO6 aT bT yT d2 hg4 hg5
            obtain ⟨aT, bT⟩ := kT5.read; have yT := kT5.lt
            obtain ⟨aR, bR⟩ := kR5.read; have yR := kR5.lt
            go_wp2_with fail
            have q2' := kR8.cells
            exact bodyPost_ret (v := .tuple #[.agg #[.int .i64 s, .int .i64 p, .int .i64 g, .int .i64 l, .int .i64 c, .int .i64 nx, .slice (some ⟨g2, 0, none⟩) n c2], .int .i64 0]) (by simp only [results, Try.results13]; go_simp) rfl ⟨⟨_, by rw [hz.out.1]; rfl, by rw [hz.out.1, hz.out.2]; exact hO8.out⟩, by (repeat' (first | (with_reducible exact Below.refl _ _) | (with_reducible assumption) | (with_reducible refine belowThru ?_ (by assumption)) | (with_reducible refine belowAlloc ?_) | (with_reducible refine Below.setCell ?_ (by first | omega | (simp; done) | (simp; omega)) _) | (with_reducible refine Below.drew ?_) | (with_reducible refine below_drewN ?_ _)))⟩
        · have z1 : (q3 != 0) = true := by simp [g1]
          have hz := Lib.hid (HL.out k q2 q3 q4 hN.out HX.out (.inl g1))
          clear HL HY HK hN g1
          go_wp2_with fail
          go_quiet (fail)
          go_wp2
          have q2' := ((kR.drewN (n := nq)).set7 (.int .i64 0) (.int .i64 0) (.int .i64 0) (.int .i64 0) (.int .i64 0) (.int .i64 0) (.slice none 0 0)).cells
          exact bodyPost_ret (v := .tuple #[.agg #[.int .i64 0, .int .i64 0, .int .i64 0, .int .i64 0, .int .i64 0, .int .i64 0, .slice none 0 0], .int .i64 91]) (by simp only [results, Try.results13]; go_simp) rfl ⟨⟨_, by rw [hz.out]; rfl, by rw [hz.out]; exact OwnK.nil _ _⟩, by (repeat' (first | (with_reducible exact Below.refl _ _) | (with_reducible assumption) | (with_reducible refine belowThru ?_ (by assumption)) | (with_reducible refine belowAlloc ?_) | (with_reducible refine Below.setCell ?_ (by first | omega | (simp; done) | (simp; omega)) _) | (with_reducible refine Below.drew ?_) | (with_reducible refine below_drewN ?_ _)))⟩
      · have z0 : (q1 != id) = true := by simp [hid]
        have hN' : Hid (∀ j x, j < k + 1 → xs[j]? = some x → x.1 ≠ id) := fun j x hj h => by
          by_cases hjk : j = k
          · subst hjk; rw [HX.out] at h; cases h; exact hid
          · exact hN.out j x (by omega) h
        clear hN hid
        go_wp2_with fail
        go_roundw
        case rel => exact ⟨k + 1, hlt, by go_num, hN', kT, kR, hO, hB⟩
        case measure => simp [intOf]; omega
    · obtain rfl : k = n := by omega
      have hz := Lib.hid (HK.out hN.out)
      obtain ⟨aT, bT⟩ := kT.read; obtain ⟨aR, bR⟩ := kR.read; have yT := kT.lt; have yR := kR.lt
      clear HK HL HY hN
      go_wp2_with fail
      have q2' := (kR.set7 (.int .i64 0) (.int .i64 0) (.int .i64 0) (.int .i64 0) (.int .i64 0) (.int .i64 0) (.slice none 0 0)).cells
      exact bodyPost_ret (v := .tuple #[.agg #[.int .i64 0, .int .i64 0, .int .i64 0, .int .i64 0, .int .i64 0, .int .i64 0, .slice none 0 0], .int .i64 6]) (by simp only [results, Try.results13]; go_simp) rfl ⟨⟨_, by rw [hz.out]; rfl, by rw [hz.out]; exact OwnK.nil _ _⟩, by (repeat' (first | (with_reducible exact Below.refl _ _) | (with_reducible assumption) | (with_reducible refine belowThru ?_ (by assumption)) | (with_reducible refine belowAlloc ?_) | (with_reducible refine Below.setCell ?_ (by first | omega | (simp; done) | (simp; omega)) _) | (with_reducible refine Below.drew ?_) | (with_reducible refine below_drewN ?_ _)))⟩
theorem rtell_u (s p g l c nx : Int) (a : Option Addr) (n cap : Nat) (id vd : Int) (xs : List Sn) (hn : n ≤ maxLen) (w : World) (hR : RowK 4 sn1 w a n xs) :
    Calls Try.prog 13 #[.agg #[.int .i64 s, .int .i64 p, .int .i64 g, .int .i64 l, .int .i64 c, .int .i64 nx, .slice a n cap], .int .i64 id, .int .u8 vd] w fun e w' => (∃ v, e = .returned (.tuple #[.agg #[.int .i64 (tk (telE s p g l c nx xs id vd) s), .int .i64 (tk (telE s p g l c nx xs id vd) p), .int .i64 (tk (telE s p g l c nx xs id vd) g), .int .i64 (tk (telE s p g l c nx xs id vd) l), .int .i64 (tk (telE s p g l c nx xs id vd) c), .int .i64 (tk (telE s p g l c nx xs id vd) nx), v], .int .i64 (telE s p g l c nx xs id vd)]) ∧ OwnK 43 4 sn1 w.heap.size w' v (tl (telE s p g l c nx xs id vd) (telY xs id vd))) ∧ Below w.heap.size w w' := by
  have HC := HRck s p g l c nx a n cap xs hn _ rfl
  have hl := hR.1
  by_cases h0 : ckT s p g l c nx xs = 0
  · have ho := okT_ck h0
    rw [h0] at HC
    have h32 : n ≤ 32 := by rw [← hl]; exact ho.2.2.2.1
    by_cases hv : 1 ≤ vd ∧ vd ≤ 3
    · have e0 : (telE s p g l c nx xs id vd) = match xs.findIdx? (fun x => x.1 == id) with
        | none => 6
        | some k => if (xs[k]?).any (fun x => (x.2.2.1 != 0) || decide (x.2.1 + fiB s p g ≤ c)) = true then 91 else 0 := by
        unfold telE; rw [if_neg (by rw [h0]; simp), if_neg (by simpa using hv)]
        rfl
      have hfi : ∀ (k : Nat) (q2 q3 : Int) (q4 : Bool), (∀ j x, j < k → xs[j]? = some x → x.1 ≠ id) → xs[k]? = some (id, q2, q3, q4) → xs.findIdx? (fun x => x.1 == id) = some k := fun k q2 q3 q4 hN hx => by
        rw [List.findIdx?_eq_some_iff_getElem]
        obtain ⟨hk, e⟩ := List.getElem?_eq_some_iff.1 hx
        refine ⟨hk, by rw [e]; simp, fun j hj => ?_⟩
        have := hN j xs[j] hj (List.getElem?_eq_getElem (by omega))
        simpa using this
      refine rtell_loop s p g l c nx a n cap id vd (fiB s p g) (laB s p l g) _ xs (telY xs id vd) hv h32 (fiB_la ho.1).1 (okT_at ho) w hR HC (fun w => ends_any s p g l g ho.1 ho.1.2.2.1.1 ho.1.2.2.1.2 w) (fun w h => rtwin_any s p g l c nx a n cap xs (by omega) w h) ?_ ?_ ?_
      · intro hN
        have e1 : xs.findIdx? (fun x => x.1 == id) = none := by
          rw [List.findIdx?_eq_none_iff]
          intro x hx
          obtain ⟨j, hj, rfl⟩ := List.mem_iff_getElem.1 hx
          have := hN j xs[j] (by omega) (List.getElem?_eq_getElem hj)
          simpa using this
        rw [e0, e1]
      · intro k q2 q3 q4 hN hx hw
        rw [e0, hfi k q2 q3 q4 hN hx]
        simp only [hx]
        rw [if_pos]
        rcases hw with h | h <;> simp [h]
      · intro k q2 q3 q4 hN hx h3 h4
        refine ⟨?_, ?_⟩
        · rw [e0, hfi k q2 q3 q4 hN hx]
          simp only [hx]
          rw [if_neg]
          simp [h3, h4]
        · unfold telY
          rw [hfi k q2 q3 q4 hN hx]
          simp only [hx]
    · have e0 : (telE s p g l c nx xs id vd) = 2 := by unfold telE; rw [if_neg (by rw [h0]; simp), if_pos hv]
      rw [e0]
      simp only [tk_no (show ((2 : Int) != 0) = true from rfl), tl_no (show ((2 : Int) != 0) = true from rfl)]
      exact rtell_arg s p g l c nx a n cap id vd xs hv w hR HC
  · have hE : (ckT s p g l c nx xs != 0) = true := by simpa using h0
    have e0 : (telE s p g l c nx xs id vd) = ckT s p g l c nx xs := by unfold telE; rw [if_pos h0]
    rw [e0]
    simp only [tk_no hE, tl_no hE]
    exact rtell_bad s p g l c nx a n cap id vd xs _ hE w hR HC
end Go.Proofs.Ytnkpejinnbiocaa
