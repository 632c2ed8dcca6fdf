/-
  Layer 9: more examples, one by one.
-/
import Derived.Test.YtbcnoklaaigclaaVAl3
namespace Go.Proofs.Ytbcnoklaaigclaa
open Go.RowKit Go.Shelf
set_option linter.unusedVariables false
set_option linter.unusedSimpArgs false


set_option maxRecDepth 100000 in
set_option maxHeartbeats 16000000 in
theorem run_zero (w : World) :
    Calls Try.prog 23 #[.int .i64 0] w fun e w' => (∃ a cap, e = .returned (.agg #[.int .i64 10, .int .i64 2, .int .i64 60, .int .i64 20, .int .i64 0, .int .i64 1, .slice a 1 cap]) ∧ 1 ≤ cap ∧ OwnK 68 4 sn1 w.heap.size w' (.slice a 1 cap) [(0, 0, 0, false)]) ∧ Below w.heap.size w w' := by
  have HT := Lib.hid ten_any
  have HN := Lib.hid ten_new
  have HS := Lib.hid ten_sense
  go_enter Try.func23, Try.ntmps23
  go_wp2_with fail
  refine (HT.out _).mono ?_
  rintro e w1 ⟨rfl, hb⟩
  have kR : Blk w1 w.heap.size #[.int .i64 0, .int .i64 0, .int .i64 0, .int .i64 0, .int .i64 0, .int .i64 0, .slice none 0 0] 36 := Blk.later hb (Blk.new rfl)
  have hB : Below w.heap.size w w1 := belowThru (belowAlloc (Below.refl _ _)) hb
  clear hb
  go_wp2_with fail
  refine (HN.out _).mono ?_
  rintro e w2 ⟨rfl, hb⟩
  replace kR := Blk.later hb kR; replace hB := belowThru hB hb
  clear hb
  have yR := kR.lt
  go_wp2_with fail
  obtain ⟨W1, hW1⟩ : ∃ W, w2.alloc (.cells #[.int .i64 10, .int .i64 2, .int .i64 60, .int .i64 20, .int .i64 0, .int .i64 0, .slice none 0 0] 36) = W := ⟨_, rfl⟩
  obtain ⟨bT, hbT⟩ : ∃ b, w2.heap.size = b := ⟨_, rfl⟩
  have kT : Blk W1 bT #[.int .i64 10, .int .i64 2, .int .i64 60, .int .i64 20, .int .i64 0, .int .i64 0, .slice none 0 0] 36 := by rw [← hW1, ← hbT]; exact Blk.new rfl
  replace kR : Blk W1 w.heap.size #[.int .i64 0, .int .i64 0, .int .i64 0, .int .i64 0, .int .i64 0, .int .i64 0, .slice none 0 0] 36 := by rw [← hW1]; exact kR.alloc
  replace hB : Below w.heap.size w W1 := by rw [← hW1]; exact belowAlloc hB
  have hne : w.heap.size ≠ bT := by omega
  have hle : w.heap.size ≤ bT := by omega
  rw [hW1, hbT]
  clear hW1 hbT yR
  refine (HS.out _).mono ?_
  rintro e w3 ⟨⟨v1, rfl, hO⟩, hb⟩
  replace kR := Blk.later hb kR; replace kT := Blk.later hb kT; replace hO := hO.mono hB.size; replace hB := belowThru hB hb
  clear hb
  obtain ⟨a3, c3, e3, hR3, hc3, -⟩ := hO.row elem_sn
  have hc3 : 1 ≤ c3 := hc3
  have e3 : v1 = .slice a3 1 c3 := e3
  subst e3
  obtain ⟨aT, bT2⟩ := kT.read; have yT := kT.lt
  have kT4 := kT.set7 (.int .i64 10) (.int .i64 2) (.int .i64 60) (.int .i64 20) (.int .i64 0) (.int .i64 1) (.slice a3 1 c3)
  have kR4 := (((((((Blk.other kR hne : Blk (w3.setCell ⟨bT, 0, none⟩ (.int .i64 10)) _ _ _).other hne : Blk (World.setCell _ ⟨bT, 1, none⟩ (.int .i64 2)) _ _ _).other hne : Blk (World.setCell _ ⟨bT, 2, none⟩ (.int .i64 60)) _ _ _).other hne : Blk (World.setCell _ ⟨bT, 3, none⟩ (.int .i64 20)) _ _ _).other hne : Blk (World.setCell _ ⟨bT, 4, none⟩ (.int .i64 0)) _ _ _).other hne : Blk (World.setCell _ ⟨bT, 5, none⟩ (.int .i64 1)) _ _ _).other hne : Blk (World.setCell _ ⟨bT, 6, none⟩ (.slice a3 1 c3)) _ _ _)
  have hO4 := Lib.hid (hO.other7 (b := bT) (.int .i64 10) (.int .i64 2) (.int .i64 60) (.int .i64 20) (.int .i64 0) (.int .i64 1) (.slice a3 1 c3) (hO.ne kT (by decide)))
  have hB4 : Below w.heap.size w (((((((w3.setCell ⟨bT, 0, none⟩ (.int .i64 10)).setCell ⟨bT, 1, none⟩ (.int .i64 2)).setCell ⟨bT, 2, none⟩ (.int .i64 60)).setCell ⟨bT, 3, none⟩ (.int .i64 20)).setCell ⟨bT, 4, none⟩ (.int .i64 0)).setCell ⟨bT, 5, none⟩ (.int .i64 1)).setCell ⟨bT, 6, none⟩ (.slice a3 1 c3)) := ((((((hB.setCell hle _).setCell hle _).setCell hle _).setCell hle _).setCell hle _).setCell hle _).setCell hle _
  have q2 := (kR4.set7 (.int .i64 10) (.int .i64 2) (.int .i64 60) (.int .i64 20) (.int .i64 0) (.int .i64 1) (.slice a3 1 c3)).cells
  obtain ⟨aR, bR⟩ := kR4.read; have yR := kR4.lt
  have hO6 := Lib.hid (hO4.out.other7 (b := w.heap.size) (.int .i64 10) (.int .i64 2) (.int .i64 60) (.int .i64 20) (.int .i64 0) (.int .i64 1) (.slice a3 1 c3) (hO4.out.ne kR4 (by decide)))
  have hB6 := Lib.hid hB4
  have hlr : w.heap.size ≤ w.heap.size := Nat.le_refl _
  clear hO hR3
  go_wp2_with fail
  exact bodyPost_ret (v := .agg #[.int .i64 10, .int .i64 2, .int .i64 60, .int .i64 20, .int .i64 0, .int .i64 1, .slice a3 1 c3]) (by simp only [results, Try.results23]; go_simp) rfl ⟨⟨_, _, rfl, hc3, hO6.out⟩, ((((((hB6.out.setCell hlr _).setCell hlr _).setCell hlr _).setCell hlr _).setCell hlr _).setCell hlr _).setCell hlr _⟩
theorem rowOf {w : World} {B n : Nat} {a : Option Addr} {cap : Nat} {xs : List Sn} (h : OwnK 68 4 sn1 B w (.slice a n cap) xs) : RowK 4 sn1 w a n xs ∧ n ≤ cap := by
  obtain ⟨a', c, e, hr, hc, -⟩ := h.row elem_sn
  have e : Value.slice a n cap = Value.slice a' xs.length c := e
  cases e
  exact ⟨hr, hc⟩
theorem g_a6 : okT 10 2 60 20 0 1 [(0, 0, 2, false)] ∧ adB 5 11 6 0 [(0, 0, 2, false)] = ([(0, 0, 2, true)], []) := by decide
theorem g_s1 : okT 10 2 60 20 6 1 [(0, 0, 2, true)] := by decide
theorem g_t2 : okT 10 2 60 20 6 2 [(0, 0, 2, true), (1, 6, 0, false)] := by decide
theorem g_a5 : okT 10 2 60 20 6 2 [(0, 0, 2, true), (1, 6, 1, false)] ∧ adB 5 11 5 6 [(0, 0, 2, true), (1, 6, 1, false)] = ([(1, 6, 1, true)], [(0, 2, true)]) := by decide
theorem g_a7 : okT 10 2 60 20 11 2 [(1, 6, 1, true)] ∧ adB 5 11 6 11 [(1, 6, 1, true)] = ([], [(1, 1, true)]) := by decide
theorem g_r0 : okT 10 2 60 20 0 1 [(0, 0, 0, false)] := by decide
theorem g_ct : ckT 10 2 60 20 (-1) 0 [] = 8 := by decide
theorem g_m1 : asgB 10 2 [0, 10, 30] [100, 118] 3 2 [] 0 0 = [[1, 2]] := by decide
theorem g_m2 : asgB 10 2 [0, 10, 30] [] 3 0 [] 0 0 = [[]] := by decide
theorem g_m3 : asgB 10 2 [] [1] 0 1 [] 0 0 = [] := by decide
theorem g_w : (wiF 10 2 60 20 24 = 2 ∧ wiL 10 2 60 20 24 = 6 ∧ wiE 10 2 60 20 24 = 0) ∧ (wiF 10 2 60 20 0 = 0 ∧ wiL 10 2 60 20 0 = 0 ∧ wiE 10 2 60 20 0 = 2) ∧ (reF 10 2 60 20 5 = 40 ∧ reL 10 2 60 20 5 = 60 ∧ reE 10 2 60 20 5 = 0) := by decide
def trk (M nx : Int) (v : Value) : Value := .agg #[.int .i64 10, .int .i64 2, .int .i64 60, .int .i64 20, .int .i64 M, .int .i64 nx, v]
theorem e_win (d a b e : Int) (h : wiF 10 2 60 20 d = a ∧ wiL 10 2 60 20 d = b ∧ wiE 10 2 60 20 d = e) : Hid (∀ w, Calls Try.prog 16 #[.agg #[.int .i64 10, .int .i64 2, .int .i64 60, .int .i64 20], .int .i64 d] w fun r w' => r = .returned (.tuple #[.int .i64 a, .int .i64 b, .int .i64 e]) ∧ Below w.heap.size w w') := fun w => by
  have q := window_any 10 2 60 20 d w
  rwa [h.1, h.2.1, h.2.2] at q
theorem e_rea : Hid (∀ w, Calls Try.prog 18 #[.agg #[.int .i64 10, .int .i64 2, .int .i64 60, .int .i64 20], .int .i64 5] w fun r w' => r = .returned (.tuple #[.int .i64 40, .int .i64 60, .int .i64 0]) ∧ Below w.heap.size w w') := fun w => by
  have q := reach_any 10 2 60 20 5 w
  rwa [g_w.2.2.1, g_w.2.2.2.1, g_w.2.2.2.2] at q
theorem e_mat (n m c1 c2 : Nat) (zs us : List Int) (hn : zs.length = n) (hm : us.length = m) (h : n ≤ 10 ∧ m ≤ 10) (hz : cntF (-1) zs) (hu : cntF (-1) us) (L : List (List Int)) (k : Nat) (hk : L.length = k) (h0 : 0 < k) (hL : asgB 10 2 zs us n m [] 0 0 = L) : Hid (∀ (a b : Option Addr) (w : World), Row w a n (iv zs) → Row w b m (iv us) → Calls Try.prog 19 #[.agg #[.int .i64 10, .int .i64 2, .int .i64 60, .int .i64 20], .slice a n c1, .slice b m c2] w fun e w' => (∃ av cv, e = .returned (.tuple #[.slice av k cv, .int .i64 0]) ∧ AllR w.heap.size w' (.slice av k cv) L) ∧ Below w.heap.size w w') := fun a b w k1 k2 => by
  have q := match_ok (s := 10) (p := 2) (g := 60) (l := 20) (c1 := c1) (c2 := c2) (by decide) h.1 h.2 hz hu w k1 k2
  rw [hL] at q
  refine q.mono fun e' w' hh => ?_
  obtain ⟨⟨av, cv, h1, h2⟩, h3⟩ := hh
  rw [hk] at h1 h2
  rcases h1 with ⟨h1, -⟩ | ⟨-, h1⟩
  · rw [h1] at hk; simp at hk; omega
  · exact ⟨⟨av, cv, h1, h2⟩, h3⟩
theorem e_mat3 : Hid (∀ (b : Nat) (w : World), Blk w b (ints [1]) 3 → Calls Try.prog 19 #[.agg #[.int .i64 10, .int .i64 2, .int .i64 60, .int .i64 20], .slice none 0 0, .slice (some ⟨b, 0, none⟩) 1 1] w fun e w' => e = .returned (.tuple #[.slice none 0 0, .int .i64 6]) ∧ Below w.heap.size w w') := fun b w k2 => by
  have q := match_ok (s := 10) (p := 2) (g := 60) (l := 20) (c1 := 0) (c2 := 1) (by decide) (by decide) (by decide) (by decide : cntF (-1) []) (by decide : cntF (-1) [1]) w (Row.nil _ none) (Row.of_blk k2)
  have e3 : asgB 10 2 [] [1] 0 ([1] : List Int).length [] 0 0 = [] := g_m3
  rw [e3] at q
  refine q.mono fun e' w' hh => ?_
  obtain ⟨⟨av, cv, h1, h2⟩, h3⟩ := hh
  rcases h1 with ⟨-, h1⟩ | ⟨h1, -⟩
  · exact ⟨h1, h3⟩
  · simp at h1
theorem e_t1 : Hid (∀ (a : Option Addr) (cap : Nat) (w : World), RowK 4 sn1 w a 1 [(0, 0, 0, false)] → Calls Try.prog 22 #[.agg #[.int .i64 10, .int .i64 2, .int .i64 60, .int .i64 20, .int .i64 0, .int .i64 1, .slice a 1 cap], .int .i64 0, .int .u8 2] w fun e w' => (∃ v, e = .returned (.tuple #[.agg #[.int .i64 10, .int .i64 2, .int .i64 60, .int .i64 20, .int .i64 0, .int .i64 1, v], .int .i64 0]) ∧ OwnK 68 4 sn1 w.heap.size w' v [(0, 0, 2, false)]) ∧ Below w.heap.size w w') := fun a cap w hR =>
  tell_ok (s := 10) (p := 2) (g := 60) (l := 20) (c := 0) (nx := 1) g_r0 0 2 (by decide) 0 0 0 0 false rfl (by decide) (by decide) (by decide) w hR
theorem e_s1 : Hid (∀ (a : Option Addr) (cap : Nat) (w : World), 1 ≤ cap → RowK 4 sn1 w a 1 [(0, 0, 2, true)] → Calls Try.prog 25 #[.agg #[.int .i64 10, .int .i64 2, .int .i64 60, .int .i64 20, .int .i64 6, .int .i64 1, .slice a 1 cap]] w fun e w' => (∃ v, e = .returned (.tuple #[.agg #[.int .i64 10, .int .i64 2, .int .i64 60, .int .i64 20, .int .i64 6, .int .i64 2, v], .int .i64 1, .int .i64 0]) ∧ OwnK 68 4 sn1 w.heap.size w' v [(0, 0, 2, true), (1, 6, 0, false)]) ∧ Below w.heap.size w w') := fun a cap w hc hR =>
  sense_ok (s := 10) (p := 2) (g := 60) (l := 20) (c := 6) (nx := 1) g_s1 (by decide) (by decide) (fun x h => by cases h; decide) hc w hR
theorem e_t2 : Hid (∀ (a : Option Addr) (cap : Nat) (w : World), RowK 4 sn1 w a 2 [(0, 0, 2, true), (1, 6, 0, false)] → Calls Try.prog 22 #[.agg #[.int .i64 10, .int .i64 2, .int .i64 60, .int .i64 20, .int .i64 6, .int .i64 2, .slice a 2 cap], .int .i64 1, .int .u8 1] w fun e w' => (∃ v, e = .returned (.tuple #[.agg #[.int .i64 10, .int .i64 2, .int .i64 60, .int .i64 20, .int .i64 6, .int .i64 2, v], .int .i64 0]) ∧ OwnK 68 4 sn1 w.heap.size w' v [(0, 0, 2, true), (1, 6, 1, false)]) ∧ Below w.heap.size w w') := fun a cap w hR =>
  tell_ok (s := 10) (p := 2) (g := 60) (l := 20) (c := 6) (nx := 2) g_t2 1 1 (by decide) 1 1 6 0 false rfl (by decide) (by decide) (by decide) w hR
theorem e_s2 : Hid (∀ (a : Option Addr) (cap : Nat) (w : World), RowK 4 sn1 w a 2 [(0, 0, 2, true), (1, 6, 1, false)] → Calls Try.prog 25 #[.agg #[.int .i64 10, .int .i64 2, .int .i64 60, .int .i64 20, .int .i64 6, .int .i64 2, .slice a 2 cap]] w fun e w' => e = .returned (.tuple #[.agg #[.int .i64 0, .int .i64 0, .int .i64 0, .int .i64 0, .int .i64 0, .int .i64 0, .slice none 0 0], .int .i64 0, .int .i64 91]) ∧ Below w.heap.size w w') := fun a cap w hR =>
  sense_order 10 2 60 20 6 2 a 2 cap _ (by decide) (fun x h => by cases h; rfl) w hR (HCt 10 2 60 20 6 2 a 2 cap _ (by decide) 0 (ckT_yes g_a5.1))
theorem e_tn : Hid (∀ (a : Option Addr) (cap : Nat) (w : World), RowK 4 sn1 w a 1 [(0, 0, 0, false)] → Calls Try.prog 22 #[.agg #[.int .i64 10, .int .i64 2, .int .i64 60, .int .i64 20, .int .i64 0, .int .i64 1, .slice a 1 cap], .int .i64 1, .int .u8 1] w fun e w' => e = .returned (.tuple #[.agg #[.int .i64 0, .int .i64 0, .int .i64 0, .int .i64 0, .int .i64 0, .int .i64 0, .slice none 0 0], .int .i64 6]) ∧ Below w.heap.size w w') := fun a cap w hR =>
  tell_none 10 2 60 20 0 1 a 1 cap 1 1 _ (by decide) (by decide) w hR (HCt 10 2 60 20 0 1 a 1 cap _ (by decide) 0 (ckT_yes g_r0)) (tellIx a 1 cap _ 1 (-1) (by decide) (by decide))
theorem e_ta : Hid (∀ (a : Option Addr) (cap : Nat) (w : World), RowK 4 sn1 w a 1 [(0, 0, 0, false)] → Calls Try.prog 22 #[.agg #[.int .i64 10, .int .i64 2, .int .i64 60, .int .i64 20, .int .i64 0, .int .i64 1, .slice a 1 cap], .int .i64 0, .int .u8 4] w fun e w' => e = .returned (.tuple #[.agg #[.int .i64 0, .int .i64 0, .int .i64 0, .int .i64 0, .int .i64 0, .int .i64 0, .slice none 0 0], .int .i64 2]) ∧ Below w.heap.size w w') := fun a cap w hR =>
  tell_arg 10 2 60 20 0 1 a 1 cap 0 4 _ (by decide) w hR (HCt 10 2 60 20 0 1 a 1 cap _ (by decide) 0 (ckT_yes g_r0))
theorem e_cb : Hid (∀ w, Calls Try.prog 26 #[.agg #[.int .i64 0, .int .i64 0, .int .i64 0, .int .i64 0]] w fun r w' => r = .returned (.int .i64 90) ∧ Below w.heap.size w w') := HCk 0 0 0 0 90 (by decide)
theorem e_ct : Hid (∀ w, Calls Try.prog 27 #[.agg #[.int .i64 10, .int .i64 2, .int .i64 60, .int .i64 20, .int .i64 (-1), .int .i64 0, .slice none 0 0]] w fun r w' => r = .returned (.int .i64 8) ∧ Below w.heap.size w w') := fun w =>
  HCt 10 2 60 20 (-1) 0 none 0 0 [] (by decide) 8 g_ct w (RowK.nil _ _)
end Go.Proofs.Ytbcnoklaaigclaa
