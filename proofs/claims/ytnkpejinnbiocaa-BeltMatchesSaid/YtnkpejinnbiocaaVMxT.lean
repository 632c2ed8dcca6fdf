/-
  The law BeltMatches.
-/
import Derived.Test.YtnkpejinnbiocaaVMxE
import Derived.Test.YtnkpejinnbiocaaVMtd
namespace Go.Proofs.Ytnkpejinnbiocaa
open Go.RowKit Go.Shelf
set_option linter.unusedVariables false
set_option linter.unusedSimpArgs false

theorem ext_any (s p g l : Int) (a1 a2 : Option Addr) (n m c1 c2 : Nat) (zs us : List Int) (hs : 1 ≤ s ∧ s ≤ 1000) (hp : 0 ≤ p ∧ p ≤ s - 1) (hz : ∀ z ∈ zs, 0 ≤ z ∧ z ≤ 1099511627776) (hu : ∀ z ∈ us, 0 ≤ z ∧ z ≤ 1099511627776) (hn : n ≤ 10) (hm : m ≤ 10) :
    ∀ (k r : Nat) (ax : Option Addr) (cx : Nat) (xs : List Int) (w : World), r + k = m → (∀ v ∈ xs, 0 ≤ v ∧ v < (n : Int)) → RowK 1 in1 w a1 n zs → RowK 1 in1 w a2 m us → OwnK 3 1 in1 0 w (.slice ax r cx) xs →
      Calls Try.prog 53 #[.agg #[.int .i64 s, .int .i64 p, .int .i64 g, .int .i64 l], .slice a1 n c1, .slice a2 m c2, .slice ax r cx] w fun e w' => (∃ v, e = .returned v ∧ AllE w.heap.size w' v (extR s p zs us n k xs)) ∧ Below w.heap.size w w' := by
  intro k
  induction k with
  | zero =>
    intro r ax cx xs w hrk hx h1 h2 hO
    have HA : Hid (∀ w, RowK 1 in1 w a1 n zs → RowK 1 in1 w a2 m us → RowK 1 in1 w ax r xs → Calls Try.prog 62 #[.agg #[.int .i64 s, .int .i64 p, .int .i64 g, .int .i64 l], .slice a1 n c1, .slice a2 m c2, .slice ax r cx] w fun e w' => e = .returned (.bool (asnB s p zs us xs)) ∧ Below w.heap.size w w') := fun w h1 h2 h3 => asn_any s p g l a1 a2 ax n m r c1 c2 cx zs us xs hs hp hz hu hx (by omega) hm w h1 h2 h3
    cases hb : asnB s p zs us xs with
    | false =>
      rw [hb] at HA
      exact ext_no s p g l a1 a2 ax n m r c1 c2 cx zs us xs 0 hb w h1 h2 hO HA
    | true =>
      rw [hb] at HA
      exact ext_leaf s p g l a1 a2 ax n m r c1 c2 cx zs us xs hb (by omega) w h1 h2 hO HA
  | succ k ih =>
    intro r ax cx xs w hrk hx h1 h2 hO
    have HA : Hid (∀ w, RowK 1 in1 w a1 n zs → RowK 1 in1 w a2 m us → RowK 1 in1 w ax r xs → Calls Try.prog 62 #[.agg #[.int .i64 s, .int .i64 p, .int .i64 g, .int .i64 l], .slice a1 n c1, .slice a2 m c2, .slice ax r cx] w fun e w' => e = .returned (.bool (asnB s p zs us xs)) ∧ Below w.heap.size w w') := fun w h1 h2 h3 => asn_any s p g l a1 a2 ax n m r c1 c2 cx zs us xs hs hp hz hu hx (by omega) hm w h1 h2 h3
    cases hb : asnB s p zs us xs with
    | false =>
      rw [hb] at HA
      exact ext_no s p g l a1 a2 ax n m r c1 c2 cx zs us xs (k + 1) hb w h1 h2 hO HA
    | true =>
      rw [hb] at HA
      refine ext_node s p g l a1 a2 ax n m r c1 c2 cx zs us xs k hb (by omega) hn hm w h1 h2 hO HA (fun ax' cx' i w' hi h1 h2 hO' => ?_)
      refine ih (r + 1) ax' cx' (xs ++ [(i : Int)]) w' (by omega) (fun v hv => ?_) h1 h2 hO'
      rcases List.mem_append.1 hv with h | h
      · exact hx v h
      · rw [List.mem_singleton] at h; omega
/-- What Match says, and finds. -/
def maE (s p g l : Int) (n m : Nat) (zs us : List Int) : Int := if okB s p g l then (if 10 < n ∨ 10 < m then 4 else if ¬ (cntF (-1) zs ∧ cntF (-1) us) then 2 else if asgB s p zs us n m [] 0 0 = [] then 6 else 0) else 90
def maL (s p g l : Int) (n m : Nat) (zs us : List Int) : List (List Int) := tl (maE s p g l n m zs us) (asgB s p zs us n m [] 0 0)
theorem match_u (s p g l : Int) (a1 a2 : Option Addr) (n m c1 c2 : Nat) (zs us : List Int) (hn : n ≤ maxLen) (hm : m ≤ maxLen) (w : World) (hR1 : RowK 1 in1 w a1 n zs) (hR2 : RowK 1 in1 w a2 m us) :
    Calls Try.prog 22 #[.agg #[.int .i64 s, .int .i64 p, .int .i64 g, .int .i64 l], .slice a1 n c1, .slice a2 m c2] w fun e w' => (∃ av cv, e = .returned (.tuple #[.slice av (maL s p g l n m zs us).length cv, .int .i64 (maE s p g l n m zs us)]) ∧ RdL w' av (maL s p g l n m zs us).length (maL s p g l n m zs us)) ∧ Below w.heap.size w w' := by
  unfold maL
  by_cases ho : okB s p g l
  · by_cases hb : 10 < n ∨ 10 < m
    · have eE : maE s p g l n m zs us = 4 := by unfold maE; rw [if_pos ho, if_pos hb]
      rw [eE, tl_no (show ((4 : Int) != 0) = true from rfl)]
      exact (match_many s p g l a1 a2 n m c1 c2 w hb hn hm (HCk s p g l 0 (if_pos ho))).mono fun e w2 ⟨he, hb⟩ => ⟨⟨none, 0, he, ⟨[], RowK.nil _ _, rfl, fun i h y hi _ => by cases hi⟩⟩, hb⟩
    · by_cases hc : cntF (-1) zs ∧ cntF (-1) us
      · by_cases he : asgB s p zs us n m [] 0 0 = []
        · have eE : maE s p g l n m zs us = 6 := by unfold maE; rw [if_pos ho, if_neg hb, if_neg (fun h => h hc), if_pos he]
          rw [eE, tl_no (show ((6 : Int) != 0) = true from rfl)]
          refine (match_ok ho (by omega) (by omega) hc.1 hc.2 w (rowIv hR1) (rowIv hR2)).mono fun e w2 ⟨⟨av, cv, hE, hAll⟩, hb⟩ => ⟨?_, hb⟩
          rcases hE with ⟨h0, rfl⟩ | ⟨h0, rfl⟩
          · exact ⟨none, 0, rfl, ⟨[], RowK.nil _ _, rfl, fun i h y hi _ => by cases hi⟩⟩
          · rw [he] at h0; simp at h0
        · have eE : maE s p g l n m zs us = 0 := by unfold maE; rw [if_pos ho, if_neg hb, if_neg (fun h => h hc), if_neg he]
          rw [eE, tl_ok]
          refine (match_ok ho (by omega) (by omega) hc.1 hc.2 w (rowIv hR1) (rowIv hR2)).mono fun e w2 ⟨⟨av, cv, hE, hAll⟩, hb⟩ => ⟨?_, hb⟩
          rcases hE with ⟨h0, rfl⟩ | ⟨h0, rfl⟩
          · exact absurd h0 he
          · exact ⟨av, cv, rfl, hAll.rd rfl⟩
      · have eE : maE s p g l n m zs us = 2 := by unfold maE; rw [if_pos ho, if_neg hb, if_pos hc]
        rw [eE, tl_no (show ((2 : Int) != 0) = true from rfl)]
        have H1 : ∀ w, Row w a1 n (iv zs) → Calls Try.prog 48 #[.slice a1 n c1] w fun e w' => e = .returned (.bool (decide (cntF (-1) zs))) ∧ Below w.heap.size w w' := fun w hR => areCounts_any a1 n c1 zs hn w hR
        have H2 : ∀ w, Row w a2 m (iv us) → Calls Try.prog 48 #[.slice a2 m c2] w fun e w' => e = .returned (.bool (decide (cntF (-1) us))) ∧ Below w.heap.size w w' := fun w hR => areCounts_any a2 m c2 us hm w hR
        refine (match_arg s p g l a1 a2 n m c1 c2 zs us (decide (cntF (-1) zs)) (decide (cntF (-1) us)) (Int.lt_or_le _ _) ?_ w (by omega) (by omega) (rowIv hR1) (rowIv hR2) (HCk s p g l 0 (if_pos ho)) H1 H2).mono fun e w2 ⟨he, hb⟩ => ⟨⟨none, 0, he, ⟨[], RowK.nil _ _, rfl, fun i h y hi _ => by cases hi⟩⟩, hb⟩
        by_cases hz : cntF (-1) zs
        · exact .inr ⟨decide_eq_true hz, decide_eq_false (fun hu => hc ⟨hz, hu⟩)⟩
        · exact .inl (decide_eq_false hz)
  · have eE : maE s p g l n m zs us = 90 := by unfold maE; rw [if_neg ho]
    rw [eE, tl_no (show ((90 : Int) != 0) = true from rfl)]
    exact (match_bad s p g l a1 a2 n m c1 c2 90 rfl w (HCk s p g l 90 (if_neg ho))).mono fun e w2 ⟨he, hb⟩ => ⟨⟨none, 0, he, ⟨[], RowK.nil _ _, rfl, fun i h y hi _ => by cases hi⟩⟩, hb⟩
set_option maxRecDepth 100000 in
set_option maxHeartbeats 16000000 in
theorem rmatch_bad (s p g l : Int) (a1 a2 : Option Addr) (n m c1 c2 : Nat) (w : World) (HV : Hid (∀ w, Calls Try.prog 31 #[.agg #[.int .i64 s, .int .i64 p, .int .i64 g, .int .i64 l]] w fun e w' => e = .returned (.bool false) ∧ Below w.heap.size w w')) :
    Calls Try.prog 23 #[.agg #[.int .i64 s, .int .i64 p, .int .i64 g, .int .i64 l], .slice a1 n c1, .slice a2 m c2] w fun e w' => e = .returned (.tuple #[.slice none 0 0, .int .i64 90]) ∧ Below w.heap.size w w' := by
  go_enter Try.func23, Try.ntmps23
  go_wp2_with fail
  refine (HV.out _).mono ?_
  rintro e w1 ⟨rfl, hb⟩
  have kB : Blk w1 w.heap.size #[.int .i64 s, .int .i64 p, .int .i64 g, .int .i64 l] 23 := Blk.later hb (Blk.new rfl)
  have hB : Below w.heap.size w w1 := belowThru (belowAlloc (Below.refl _ _)) hb
  clear hb
  go_wp2_with fail
  go_ret2
  exact ⟨rfl, hB⟩
set_option maxRecDepth 100000 in
set_option maxHeartbeats 16000000 in
theorem rmatch_many (s p g l : Int) (a1 a2 : Option Addr) (n m c1 c2 : Nat) (hn : n ≤ maxLen) (hm : m ≤ maxLen) (h : 10 < n ∨ 10 < m) (w : World) (HV : Hid (∀ w, Calls Try.prog 31 #[.agg #[.int .i64 s, .int .i64 p, .int .i64 g, .int .i64 l]] w fun e w' => e = .returned (.bool true) ∧ Below w.heap.size w w')) :
    Calls Try.prog 23 #[.agg #[.int .i64 s, .int .i64 p, .int .i64 g, .int .i64 l], .slice a1 n c1, .slice a2 m c2] w fun e w' => e = .returned (.tuple #[.slice none 0 0, .int .i64 4]) ∧ Below w.heap.size w w' := by
  unfold maxLen at hn hm
  by_cases h1 : 10 < n
  · have d1 : decide ((10 : Int) < n) = true := decide_eq_true (by omega)
    clear h h1
    go_enter Try.func23, Try.ntmps23
    go_wp2_with fail
    refine (HV.out _).mono ?_
    rintro e w1 ⟨rfl, hb⟩
    have kB : Blk w1 w.heap.size #[.int .i64 s, .int .i64 p, .int .i64 g, .int .i64 l] 23 := Blk.later hb (Blk.new rfl)
    have hB : Below w.heap.size w w1 := belowThru (belowAlloc (Below.refl _ _)) hb
    clear hb
    go_wp2_with fail
    go_ret2
    exact ⟨rfl, hB⟩
  · have d1 : decide ((10 : Int) < n) = false := decide_eq_false (by omega)
    have d2 : decide ((10 : Int) < m) = true := decide_eq_true (by omega)
    clear h h1
    go_enter Try.func23, Try.ntmps23
    go_wp2_with fail
    refine (HV.out _).mono ?_
    rintro e w1 ⟨rfl, hb⟩
    have kB : Blk w1 w.heap.size #[.int .i64 s, .int .i64 p, .int .i64 g, .int .i64 l] 23 := Blk.later hb (Blk.new rfl)
    have hB : Below w.heap.size w w1 := belowThru (belowAlloc (Below.refl _ _)) hb
    clear hb
    go_wp2_with fail
    go_ret2
    exact ⟨rfl, hB⟩
set_option maxRecDepth 100000 in
set_option maxHeartbeats 16000000 in
theorem rmatch_arg (s p g l : Int) (a1 a2 : Option Addr) (n m c1 c2 : Nat) (zs us : List Int) (b1 b2 : Bool) (hn : n ≤ 10) (hm : m ≤ 10) (hb : b1 = false ∨ b1 = true ∧ b2 = false) (w : World) (hR1 : RowK 1 in1 w a1 n zs) (hR2 : RowK 1 in1 w a2 m us) (HV : Hid (∀ w, Calls Try.prog 31 #[.agg #[.int .i64 s, .int .i64 p, .int .i64 g, .int .i64 l]] w fun e w' => e = .returned (.bool true) ∧ Below w.heap.size w w')) (C1 : Hid (∀ w, RowK 1 in1 w a1 n zs → Calls Try.prog 52 #[.slice a1 n c1] w fun e w' => e = .returned (.bool b1) ∧ Below w.heap.size w w')) (C2 : Hid (∀ w, RowK 1 in1 w a2 m us → Calls Try.prog 52 #[.slice a2 m c2] w fun e w' => e = .returned (.bool b2) ∧ Below w.heap.size w w')) :
    Calls Try.prog 23 #[.agg #[.int .i64 s, .int .i64 p, .int .i64 g, .int .i64 l], .slice a1 n c1, .slice a2 m c2] w fun e w' => e = .returned (.tuple #[.slice none 0 0, .int .i64 2]) ∧ Below w.heap.size w w' := by
  have d1 : decide ((10 : Int) < n) = false := decide_eq_false (by omega)
  have d2 : decide ((10 : Int) < m) = false := decide_eq_false (by omega)
  have H1 := Lib.hid hR1; have H2 := Lib.hid hR2
  clear hR1 hR2
  rcases hb with rfl | ⟨rfl, rfl⟩
  · go_enter Try.func23, Try.ntmps23
    go_wp2_with fail
    refine (HV.out _).mono ?_
    rintro e w1 ⟨rfl, hb⟩
    have kB : Blk w1 w.heap.size #[.int .i64 s, .int .i64 p, .int .i64 g, .int .i64 l] 23 := Blk.later hb (Blk.new rfl)
    have hB : Below w.heap.size w w1 := belowThru (belowAlloc (Below.refl _ _)) hb
    clear hb
    go_wp2_with fail
    refine (C1.out _ (H1.out.later hB)).mono ?_
    rintro e w2 ⟨rfl, hb⟩
    go_wp2_with fail
    go_ret2
    exact ⟨rfl, belowThru hB hb⟩
  · go_enter Try.func23, Try.ntmps23
    go_wp2_with fail
    refine (HV.out _).mono ?_
    rintro e w1 ⟨rfl, hb⟩
    have kB : Blk w1 w.heap.size #[.int .i64 s, .int .i64 p, .int .i64 g, .int .i64 l] 23 := Blk.later hb (Blk.new rfl)
    have hB : Below w.heap.size w w1 := belowThru (belowAlloc (Below.refl _ _)) hb
    clear hb
    go_wp2_with fail
    refine (C1.out _ (H1.out.later hB)).mono ?_
    rintro e w2 ⟨rfl, hb⟩
    replace hB := belowThru hB hb
    clear hb
    go_wp2_with fail
    refine (C2.out _ (H2.out.later hB)).mono ?_
    rintro e w3 ⟨rfl, hb⟩
    go_wp2_with fail
    go_ret2
    exact ⟨rfl, belowThru hB hb⟩
set_option maxRecDepth 100000 in
set_option maxHeartbeats 16000000 in
theorem rmatch_none (s p g l : Int) (a1 a2 : Option Addr) (n m c1 c2 : Nat) (zs us : List Int) (L : List (List Int)) (hL : (L = []) = True) (hn : n ≤ 10) (hm : m ≤ 10) (w : World) (hR1 : RowK 1 in1 w a1 n zs) (hR2 : RowK 1 in1 w a2 m us) (HV : Hid (∀ w, Calls Try.prog 31 #[.agg #[.int .i64 s, .int .i64 p, .int .i64 g, .int .i64 l]] w fun e w' => e = .returned (.bool true) ∧ Below w.heap.size w w')) (C1 : Hid (∀ w, RowK 1 in1 w a1 n zs → Calls Try.prog 52 #[.slice a1 n c1] w fun e w' => e = .returned (.bool true) ∧ Below w.heap.size w w')) (C2 : Hid (∀ w, RowK 1 in1 w a2 m us → Calls Try.prog 52 #[.slice a2 m c2] w fun e w' => e = .returned (.bool true) ∧ Below w.heap.size w w')) (HX : Hid (∀ w, RowK 1 in1 w a1 n zs → RowK 1 in1 w a2 m us → Calls Try.prog 53 #[.agg #[.int .i64 s, .int .i64 p, .int .i64 g, .int .i64 l], .slice a1 n c1, .slice a2 m c2, .slice none 0 0] w fun e w' => (∃ v, e = .returned v ∧ AllE w.heap.size w' v L) ∧ Below w.heap.size w w')) :
    Calls Try.prog 23 #[.agg #[.int .i64 s, .int .i64 p, .int .i64 g, .int .i64 l], .slice a1 n c1, .slice a2 m c2] w fun e w' => e = .returned (.tuple #[.slice none 0 0, .int .i64 6]) ∧ Below w.heap.size w w' := by
  have d1 : decide ((10 : Int) < n) = false := decide_eq_false (by omega)
  have d2 : decide ((10 : Int) < m) = false := decide_eq_false (by omega)
  have H1 := Lib.hid hR1; have H2 := Lib.hid hR2
  clear hR1 hR2
  have z0 : ((L.length : Int) == 0) = true := by
    cases L with
    | nil => rfl
    | cons a l => simp at hL
  clear hL
  go_enter Try.func23, Try.ntmps23
  go_wp2_with fail
  refine (HV.out _).mono ?_
  rintro e w1 ⟨rfl, hb⟩
  have kB : Blk w1 w.heap.size #[.int .i64 s, .int .i64 p, .int .i64 g, .int .i64 l] 23 := Blk.later hb (Blk.new rfl)
  have hB : Below w.heap.size w w1 := belowThru (belowAlloc (Below.refl _ _)) hb
  clear hb
  obtain ⟨aB, bB⟩ := kB.read; have yB := kB.lt
  go_wp2_with fail
  refine (C1.out _ (H1.out.later hB)).mono ?_
  rintro e w2 ⟨rfl, hb⟩
  replace hB := belowThru hB hb; replace kB := Blk.later hb kB
  clear hb aB bB yB
  go_wp2_with fail
  refine (C2.out _ (H2.out.later hB)).mono ?_
  rintro e w3 ⟨rfl, hb⟩
  replace hB := belowThru hB hb; replace kB := Blk.later hb kB
  clear hb
  obtain ⟨aB, bB⟩ := kB.read; have yB := kB.lt
  go_wp2_with fail
  refine (HX.out _ (H1.out.later hB) (H2.out.later hB)).mono ?_
  rintro e w4 ⟨⟨v, rfl, hA⟩, hb⟩
  replace hB := belowThru hB hb
  clear hb aB bB yB
  obtain ⟨av, cv, ev⟩ := hA.form
  subst ev
  go_wp2_with fail
  go_ret2
  exact ⟨rfl, hB⟩
set_option maxRecDepth 100000 in
set_option maxHeartbeats 16000000 in
theorem rmatch_yes (s p g l : Int) (a1 a2 : Option Addr) (n m c1 c2 : Nat) (zs us : List Int) (L : List (List Int)) (hL : (L = []) = False) (hn : n ≤ 10) (hm : m ≤ 10) (w : World) (hR1 : RowK 1 in1 w a1 n zs) (hR2 : RowK 1 in1 w a2 m us) (HV : Hid (∀ w, Calls Try.prog 31 #[.agg #[.int .i64 s, .int .i64 p, .int .i64 g, .int .i64 l]] w fun e w' => e = .returned (.bool true) ∧ Below w.heap.size w w')) (C1 : Hid (∀ w, RowK 1 in1 w a1 n zs → Calls Try.prog 52 #[.slice a1 n c1] w fun e w' => e = .returned (.bool true) ∧ Below w.heap.size w w')) (C2 : Hid (∀ w, RowK 1 in1 w a2 m us → Calls Try.prog 52 #[.slice a2 m c2] w fun e w' => e = .returned (.bool true) ∧ Below w.heap.size w w')) (HX : Hid (∀ w, RowK 1 in1 w a1 n zs → RowK 1 in1 w a2 m us → Calls Try.prog 53 #[.agg #[.int .i64 s, .int .i64 p, .int .i64 g, .int .i64 l], .slice a1 n c1, .slice a2 m c2, .slice none 0 0] w fun e w' => (∃ v, e = .returned v ∧ AllE w.heap.size w' v L) ∧ Below w.heap.size w w')) :
    Calls Try.prog 23 #[.agg #[.int .i64 s, .int .i64 p, .int .i64 g, .int .i64 l], .slice a1 n c1, .slice a2 m c2] w fun e w' => (∃ av cv, e = .returned (.tuple #[.slice av L.length cv, .int .i64 0]) ∧ RdL w' av L.length L) ∧ Below w.heap.size w w' := by
  have d1 : decide ((10 : Int) < n) = false := decide_eq_false (by omega)
  have d2 : decide ((10 : Int) < m) = false := decide_eq_false (by omega)
  have H1 := Lib.hid hR1; have H2 := Lib.hid hR2
  clear hR1 hR2
  have z0 : ((L.length : Int) == 0) = false := by
    cases L with
    | nil => simp at hL
    | cons a l => simp; omega
  clear hL
  go_enter Try.func23, Try.ntmps23
  go_wp2_with fail
  refine (HV.out _).mono ?_
  rintro e w1 ⟨rfl, hb⟩
  have kB : Blk w1 w.heap.size #[.int .i64 s, .int .i64 p, .int .i64 g, .int .i64 l] 23 := Blk.later hb (Blk.new rfl)
  have hB : Below w.heap.size w w1 := belowThru (belowAlloc (Below.refl _ _)) hb
  clear hb
  obtain ⟨aB, bB⟩ := kB.read; have yB := kB.lt
  go_wp2_with fail
  refine (C1.out _ (H1.out.later hB)).mono ?_
  rintro e w2 ⟨rfl, hb⟩
  replace hB := belowThru hB hb; replace kB := Blk.later hb kB
  clear hb aB bB yB
  go_wp2_with fail
  refine (C2.out _ (H2.out.later hB)).mono ?_
  rintro e w3 ⟨rfl, hb⟩
  replace hB := belowThru hB hb; replace kB := Blk.later hb kB
  clear hb
  obtain ⟨aB, bB⟩ := kB.read; have yB := kB.lt
  go_wp2_with fail
  refine (HX.out _ (H1.out.later hB) (H2.out.later hB)).mono ?_
  rintro e w4 ⟨⟨v, rfl, hA⟩, hb⟩
  replace hB := belowThru hB hb
  clear hb aB bB yB
  obtain ⟨av, cv, ev⟩ := hA.form
  subst ev
  go_wp2_with fail
  go_ret2
  exact ⟨⟨av, cv, rfl, hA.rd rfl⟩, hB⟩
theorem rmatch_u (s p g l : Int) (a1 a2 : Option Addr) (n m c1 c2 : Nat) (zs us : List Int) (hn : n ≤ maxLen) (hm : m ≤ maxLen) (w : World) (hR1 : RowK 1 in1 w a1 n zs) (hR2 : RowK 1 in1 w a2 m us) :
    Calls Try.prog 23 #[.agg #[.int .i64 s, .int .i64 p, .int .i64 g, .int .i64 l], .slice a1 n c1, .slice a2 m c2] w fun e w' => (∃ av cv, e = .returned (.tuple #[.slice av (maL s p g l n m zs us).length cv, .int .i64 (maE s p g l n m zs us)]) ∧ RdL w' av (maL s p g l n m zs us).length (maL s p g l n m zs us)) ∧ Below w.heap.size w w' := by
  unfold maL
  by_cases ho : okB s p g l
  · by_cases hb : 10 < n ∨ 10 < m
    · have eE : maE s p g l n m zs us = 4 := by unfold maE; rw [if_pos ho, if_pos hb]
      rw [eE, tl_no (show ((4 : Int) != 0) = true from rfl)]
      exact (rmatch_many s p g l a1 a2 n m c1 c2 hn hm hb w (HRv s p g l true (decide_eq_true ho))).mono fun e w2 ⟨he, hb⟩ => ⟨⟨none, 0, he, ⟨[], RowK.nil _ _, rfl, fun i h y hi _ => by cases hi⟩⟩, hb⟩
    · by_cases hc : cntF (-1) zs ∧ cntF (-1) us
      · by_cases he : asgB s p zs us n m [] 0 0 = []
        · have eE : maE s p g l n m zs us = 6 := by unfold maE; rw [if_pos ho, if_neg hb, if_neg (fun h => h hc), if_pos he]
          rw [eE, tl_no (show ((6 : Int) != 0) = true from rfl)]
          have HC1 : Hid (∀ w, RowK 1 in1 w a1 n zs → Calls Try.prog 52 #[.slice a1 n c1] w fun e w' => e = .returned (.bool true) ∧ Below w.heap.size w w') := fun w hR => by have := rcounts_any a1 n c1 zs hn w hR; rwa [decide_eq_true hc.1] at this
          have HC2 : Hid (∀ w, RowK 1 in1 w a2 m us → Calls Try.prog 52 #[.slice a2 m c2] w fun e w' => e = .returned (.bool true) ∧ Below w.heap.size w w') := fun w hR => by have := rcounts_any a2 m c2 us hm w hR; rwa [decide_eq_true hc.2] at this
          have HX : Hid (∀ w, RowK 1 in1 w a1 n zs → RowK 1 in1 w a2 m us → Calls Try.prog 53 #[.agg #[.int .i64 s, .int .i64 p, .int .i64 g, .int .i64 l], .slice a1 n c1, .slice a2 m c2, .slice none 0 0] w fun e w' => (∃ v, e = .returned v ∧ AllE w.heap.size w' v (asgB s p zs us n m [] 0 0)) ∧ Below w.heap.size w w') := fun w h1 h2 => by
            have := ext_any s p g l a1 a2 n m c1 c2 zs us ho.1 ho.2.1 (cntF_all hc.1) (cntF_all hc.2) (by omega) (by omega) m 0 none 0 [] w (by omega) (fun v h => by cases h) h1 h2 (OwnK.nil _ _)
            rwa [ext_all] at this
          exact (rmatch_none s p g l a1 a2 n m c1 c2 zs us _ (eq_true he) (by omega) (by omega) w hR1 hR2 (HRv s p g l true (decide_eq_true ho)) HC1 HC2 HX).mono fun e w2 ⟨he, hb⟩ => ⟨⟨none, 0, he, ⟨[], RowK.nil _ _, rfl, fun i h y hi _ => by cases hi⟩⟩, hb⟩
        · have eE : maE s p g l n m zs us = 0 := by unfold maE; rw [if_pos ho, if_neg hb, if_neg (fun h => h hc), if_neg he]
          rw [eE, tl_ok]
          have HC1 : Hid (∀ w, RowK 1 in1 w a1 n zs → Calls Try.prog 52 #[.slice a1 n c1] w fun e w' => e = .returned (.bool true) ∧ Below w.heap.size w w') := fun w hR => by have := rcounts_any a1 n c1 zs hn w hR; rwa [decide_eq_true hc.1] at this
          have HC2 : Hid (∀ w, RowK 1 in1 w a2 m us → Calls Try.prog 52 #[.slice a2 m c2] w fun e w' => e = .returned (.bool true) ∧ Below w.heap.size w w') := fun w hR => by have := rcounts_any a2 m c2 us hm w hR; rwa [decide_eq_true hc.2] at this
          have HX : Hid (∀ w, RowK 1 in1 w a1 n zs → RowK 1 in1 w a2 m us → Calls Try.prog 53 #[.agg #[.int .i64 s, .int .i64 p, .int .i64 g, .int .i64 l], .slice a1 n c1, .slice a2 m c2, .slice none 0 0] w fun e w' => (∃ v, e = .returned v ∧ AllE w.heap.size w' v (asgB s p zs us n m [] 0 0)) ∧ Below w.heap.size w w') := fun w h1 h2 => by
            have := ext_any s p g l a1 a2 n m c1 c2 zs us ho.1 ho.2.1 (cntF_all hc.1) (cntF_all hc.2) (by omega) (by omega) m 0 none 0 [] w (by omega) (fun v h => by cases h) h1 h2 (OwnK.nil _ _)
            rwa [ext_all] at this
          exact rmatch_yes s p g l a1 a2 n m c1 c2 zs us _ (eq_false he) (by omega) (by omega) w hR1 hR2 (HRv s p g l true (decide_eq_true ho)) HC1 HC2 HX
      · have eE : maE s p g l n m zs us = 2 := by unfold maE; rw [if_pos ho, if_neg hb, if_pos hc]
        rw [eE, tl_no (show ((2 : Int) != 0) = true from rfl)]
        refine (rmatch_arg s p g l a1 a2 n m c1 c2 zs us (decide (cntF (-1) zs)) (decide (cntF (-1) us)) (by omega) (by omega) ?_ w hR1 hR2 (HRv s p g l true (decide_eq_true ho)) (fun w hR => rcounts_any a1 n c1 zs hn w hR) (fun w hR => rcounts_any a2 m c2 us hm w hR)).mono fun e w2 ⟨he, hb⟩ => ⟨⟨none, 0, he, ⟨[], RowK.nil _ _, rfl, fun i h y hi _ => by cases hi⟩⟩, hb⟩
        by_cases hz : cntF (-1) zs
        · exact .inr ⟨decide_eq_true hz, decide_eq_false (fun hu => hc ⟨hz, hu⟩)⟩
        · exact .inl (decide_eq_false hz)
  · have eE : maE s p g l n m zs us = 90 := by unfold maE; rw [if_neg ho]
    rw [eE, tl_no (show ((90 : Int) != 0) = true from rfl)]
    exact (rmatch_bad s p g l a1 a2 n m c1 c2 w (HRv s p g l false (decide_eq_false ho))).mono fun e w2 ⟨he, hb⟩ => ⟨⟨none, 0, he, ⟨[], RowK.nil _ _, rfl, fun i h y hi _ => by cases hi⟩⟩, hb⟩
set_option maxRecDepth 100000 in
set_option maxHeartbeats 16000000 in
theorem matches_long (s p g l : Int) (a1 a2 : Option Addr) (n m c1 c2 : Nat) (hn : n ≤ maxLen) (hm : m ≤ maxLen) (h : 50 < n ∨ 50 < m) (w : World) :
    Calls Try.prog 5 #[.agg #[.int .i64 s, .int .i64 p, .int .i64 g, .int .i64 l], .slice a1 n c1, .slice a2 m c2] w fun e w' => e = .returned (.bool true) ∧ Below w.heap.size w w' := by
  unfold maxLen at hn hm
  by_cases h1 : 50 < n
  · have d1 : decide ((50 : Int) < n) = true := decide_eq_true (by omega)
    clear h h1
    go_enter Try.func5, Try.ntmps5
    go_wp2_with fail
    go_ret
    exact ⟨rfl, by (repeat' (first | (with_reducible exact Below.refl _ _) | (with_reducible assumption) | (with_reducible refine belowThru ?_ (by assumption)) | (with_reducible refine belowAlloc ?_) | (with_reducible refine Below.setCell ?_ (by first | omega | (simp; done) | (simp; omega)) _) | (with_reducible refine Below.drew ?_) | (with_reducible refine below_drewN ?_ _)))⟩
  · have d1 : decide ((50 : Int) < n) = false := decide_eq_false (by omega)
    have d2 : decide ((50 : Int) < m) = true := decide_eq_true (by omega)
    clear h h1
    go_enter Try.func5, Try.ntmps5
    go_wp2_with fail
    go_ret
    exact ⟨rfl, by (repeat' (first | (with_reducible exact Below.refl _ _) | (with_reducible assumption) | (with_reducible refine belowThru ?_ (by assumption)) | (with_reducible refine belowAlloc ?_) | (with_reducible refine Below.setCell ?_ (by first | omega | (simp; done) | (simp; omega)) _) | (with_reducible refine Below.drew ?_) | (with_reducible refine below_drewN ?_ _)))⟩
set_option maxRecDepth 100000 in
set_option maxHeartbeats 16000000 in
theorem matches_walk (s p g l : Int) (a1 a2 : Option Addr) (n m c1 c2 : Nat) (zs us : List Int) (K : List (List Int)) (q : Nat) (E : Int) (hn : n ≤ 50) (hm : m ≤ 50) (hq : q ≤ 1099511627776) (hK : ∀ y ∈ K, y.length ≤ 1099511627776) (w : World) (hR1 : RowK 1 in1 w a1 n zs) (hR2 : RowK 1 in1 w a2 m us)
    (M1 : Hid (∀ w, RowK 1 in1 w a1 n zs → RowK 1 in1 w a2 m us → Calls Try.prog 22 #[.agg #[.int .i64 s, .int .i64 p, .int .i64 g, .int .i64 l], .slice a1 n c1, .slice a2 m c2] w fun e w' => (∃ av cv, e = .returned (.tuple #[.slice av q cv, .int .i64 E]) ∧ RdL w' av q K) ∧ Below w.heap.size w w'))
    (M2 : Hid (∀ w, RowK 1 in1 w a1 n zs → RowK 1 in1 w a2 m us → Calls Try.prog 23 #[.agg #[.int .i64 s, .int .i64 p, .int .i64 g, .int .i64 l], .slice a1 n c1, .slice a2 m c2] w fun e w' => (∃ av cv, e = .returned (.tuple #[.slice av q cv, .int .i64 E]) ∧ RdL w' av q K) ∧ Below w.heap.size w w')) :
    Calls Try.prog 5 #[.agg #[.int .i64 s, .int .i64 p, .int .i64 g, .int .i64 l], .slice a1 n c1, .slice a2 m c2] w fun e w' => e = .returned (.bool true) ∧ Below w.heap.size w w' := by
  have d1 : decide ((50 : Int) < n) = false := decide_eq_false (by omega)
  have d2 : decide ((50 : Int) < m) = false := decide_eq_false (by omega)
  have z0 : (E == E) = true := by simp
  have H1 := Lib.hid hR1; have H2 := Lib.hid hR2; have HQ := Lib.hid hq; have HK := Lib.hid hK
  clear hR1 hR2 hn hm hq hK
  go_enter Try.func5, Try.ntmps5
  go_wp2_with fail
  have kB : Blk (w.alloc (.cells #[.int .i64 s, .int .i64 p, .int .i64 g, .int .i64 l] 23)) w.heap.size #[.int .i64 s, .int .i64 p, .int .i64 g, .int .i64 l] 23 := Blk.new rfl
  have hB : Below w.heap.size w (w.alloc (.cells #[.int .i64 s, .int .i64 p, .int .i64 g, .int .i64 l] 23)) := belowAlloc (Below.refl _ _)
  refine (M1.out _ (H1.out.later hB) (H2.out.later hB)).mono ?_
  rintro e w1 ⟨⟨av, cv, rfl, hX⟩, hb⟩
  replace kB := Blk.later hb kB; replace hB := belowThru hB hb
  clear hb
  replace hX := Lib.hid hX
  obtain ⟨aB, bB⟩ := kB.read; have yB := kB.lt
  go_wp2_with fail
  refine (M2.out _ (H1.out.later hB) (H2.out.later hB)).mono ?_
  rintro e w2 ⟨⟨au, cu, rfl, hY⟩, hb⟩
  replace hX := Lib.hid (hX.out.later hb); replace hB := belowThru hB hb
  replace hY := Lib.hid hY
  clear hb aB bB yB
  go_wp2_with fail
  refine (sameLists_any av au q q cv cu K K HQ.out HK.out _ hX.out hY.out).mono ?_
  rintro e w3 ⟨rfl, hb⟩
  rw [decide_eq_true (show K = K from rfl)]
  go_wp2_with fail
  go_ret
  exact ⟨rfl, belowThru hB hb⟩
theorem matches_true (s p g l : Int) (a1 a2 : Option Addr) (n m c1 c2 : Nat) (zs us : List Int) (hn : n ≤ maxLen) (hm : m ≤ maxLen) (w : World) (hR1 : RowK 1 in1 w a1 n zs) (hR2 : RowK 1 in1 w a2 m us) :
    Calls Try.prog 5 #[.agg #[.int .i64 s, .int .i64 p, .int .i64 g, .int .i64 l], .slice a1 n c1, .slice a2 m c2] w fun e w' => e = .returned (.bool true) ∧ Below w.heap.size w w' := by
  by_cases h50 : 50 < n ∨ 50 < m
  · exact matches_long s p g l a1 a2 n m c1 c2 hn hm h50 w
  · have key : maE s p g l n m zs us = 0 → n ≤ 10 ∧ m ≤ 10 := by
      intro h
      unfold maE at h
      split at h
      · split at h
        · cases h
        · omega
      · cases h
    have hq : (maL s p g l n m zs us).length ≤ 1099511627776 := by
      unfold maL tl
      split
      · rename_i h
        obtain ⟨h1, h2⟩ := key h
        refine Nat.le_trans (asgB_len s p zs us n m [] 0 0) (Nat.le_trans (Nat.pow_le_pow_left (show n + 1 ≤ 11 by omega) m) (Nat.le_trans (Nat.pow_le_pow_right (by decide) h2) (by decide)))
      · simp
    have hK : ∀ y ∈ maL s p g l n m zs us, y.length ≤ 1099511627776 := by
      intro y hy
      unfold maL tl at hy
      split at hy
      · rename_i h
        obtain ⟨h1, h2⟩ := key h
        have := (asg_ok m [] 0 (okAs_nil s p zs us n) (fun v h => by cases h) hy).2
        simp at this
        omega
      · cases hy
    exact matches_walk s p g l a1 a2 n m c1 c2 zs us (maL s p g l n m zs us) _ (maE s p g l n m zs us) (by omega) (by omega) hq hK w hR1 hR2
      (fun w h1 h2 => match_u s p g l a1 a2 n m c1 c2 zs us hn hm w h1 h2) (fun w h1 h2 => rmatch_u s p g l a1 a2 n m c1 c2 zs us hn hm w h1 h2)
end Go.Proofs.Ytnkpejinnbiocaa
