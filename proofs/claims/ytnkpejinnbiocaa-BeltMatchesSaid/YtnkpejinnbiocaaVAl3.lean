/-
  Layer 9: the chapter's examples, by the code (alive).
-/
import Derived.Test.YtnkpejinnbiocaaVAl2
import Derived.Test.YtnkpejinnbiocaaVRef
namespace Go.Proofs.Ytnkpejinnbiocaa
open Go.RowKit Go.Shelf
set_option linter.unusedVariables false
set_option linter.unusedSimpArgs false


theorem hm_true : Hid (∀ (b1 b2 : Nat) (w : World), Blk w b1 (ints [0, 10, 30]) 3 → Blk w b2 (ints [100, 129]) 3 → Calls Try.prog 22 #[.agg #[.int .i64 10, .int .i64 2, .int .i64 60, .int .i64 20], .slice (some ⟨b1, 0, none⟩) 3 3, .slice (some ⟨b2, 0, none⟩) 2 2] w fun e w' => (∃ av cv, e = .returned (.tuple #[.slice av 2 cv, .int .i64 0]) ∧ AllR w.heap.size w' (.slice av 2 cv) [[0, 2], [1, 2]]) ∧ Below w.heap.size w w') := fun b1 b2 w k1 k2 => by
  have h := match_ok (s := 10) (p := 2) (g := 60) (l := 20) (c1 := 3) (c2 := 2) (by decide) (by decide) (by decide) (by decide : cntF (-1) [0, 10, 30]) (by decide : cntF (-1) [100, 129]) w (Row.of_blk k1) (Row.of_blk k2)
  have e3 : asgB 10 2 [0, 10, 30] [100, 129] ([0, 10, 30] : List Int).length ([100, 129] : List Int).length [] 0 0 = [[0, 2], [1, 2]] := f_asg
  rw [e3] at h
  refine h.mono fun e' w' hh => ?_
  obtain ⟨⟨av, cv, h1, h2⟩, h3⟩ := hh
  rcases h1 with ⟨h1, -⟩ | ⟨-, h1⟩
  · cases h1
  · exact ⟨⟨av, cv, h1, h2⟩, h3⟩
set_option maxRecDepth 100000 in
set_option maxHeartbeats 16000000 in
theorem alive_true (w : World) :
    Calls Try.prog 25 #[] w fun e w' => e = .returned (.bool true) ∧ Below w.heap.size w w' := by
  have HT := Lib.hid ten_any
  have HW1 : Hid (∀ w, Calls Try.prog 26 #[.agg #[.int .i64 10, .int .i64 2, .int .i64 60, .int .i64 20], .int .i64 60] w fun e w' => e = .returned (.tuple #[.int .i64 5, .int .i64 11, .int .i64 0]) ∧ Below w.heap.size w w') := fun w => by
    have h := window_any 10 2 60 20 60 w
    rw [f_w.1, f_w.2.1, f_w.2.2] at h
    exact h
  have HCl : Hid (∀ w, Calls Try.prog 27 #[.agg #[.int .i64 10, .int .i64 2, .int .i64 60, .int .i64 20]] w fun e w' => e = .returned (.tuple #[.int .i64 7, .int .i64 0]) ∧ Below w.heap.size w w') := fun w => by
    have h := clear_any 10 2 60 20 w
    rw [f_c.1, f_c.2] at h
    exact h
  have HR3 := run_n 3 3 0 false rfl (by decide) f_3
  have HR4 := run_n 4 4 0 false rfl (by decide) f_4
  have HR5 := run_n 5 5 0 true rfl (by decide) f_5
  have HO3 := open_n 3 1 [(0, 0, 0, false)] false f_o3.1 f_o3.2
  have HO4 := open_n 4 1 [(0, 0, 0, false)] true f_o4.1 f_o4.2
  have HA1 := adv_n 7 7 4 11 1 [(0, 0, 0, false)] [] [(0, 0, true)] rfl (by decide) (by decide) (by decide) f_o4.1 f_a1
  have HA2 := adv_n 7 7 4 11 1 [(0, 0, 1, false)] [] [(0, 1, false)] rfl (by decide) (by decide) (by decide) f_a2.1 f_a2.2
  have HTl : Hid (∀ (a : Option Addr) (cap : Nat) (w : World), RowK 4 sn1 w a 1 [(0, 0, 0, false)] → Calls Try.prog 12 #[.agg #[.int .i64 10, .int .i64 2, .int .i64 60, .int .i64 20, .int .i64 4, .int .i64 1, .slice a 1 cap], .int .i64 0, .int .u8 1] w fun e w' => (∃ v, e = .returned (.tuple #[.agg #[.int .i64 10, .int .i64 2, .int .i64 60, .int .i64 20, .int .i64 4, .int .i64 1, v], .int .i64 0]) ∧ OwnK 43 4 sn1 w.heap.size w' v [(0, 0, 1, false)]) ∧ Below w.heap.size w w') := fun a cap w hR =>
    tell_ok (s := 10) (p := 2) (g := 60) (l := 20) (c := 4) (nx := 1) f_o4.1 0 1 (by decide) 0 0 0 0 false rfl (by decide) (by decide) (by decide) w hR
  have HTn : Hid (∀ (a : Option Addr) (cap : Nat) (w : World), RowK 4 sn1 w a 1 [(0, 0, 0, true)] → Calls Try.prog 12 #[.agg #[.int .i64 10, .int .i64 2, .int .i64 60, .int .i64 20, .int .i64 5, .int .i64 1, .slice a 1 cap], .int .i64 0, .int .u8 1] w fun e w' => e = .returned (.tuple #[.agg #[.int .i64 0, .int .i64 0, .int .i64 0, .int .i64 0, .int .i64 0, .int .i64 0, .slice none 0 0], .int .i64 91]) ∧ Below w.heap.size w w') := fun a cap w hR =>
    tell_no (s := 10) (p := 2) (g := 60) (l := 20) (c := 5) (nx := 1) f_t5 0 1 (by decide) 0 0 0 0 true rfl (by decide) (by decide) w hR
  have HM := hm_true
  go_enter Try.func25, Try.ntmps25
  go_wp2_with fail
  refine (HT.out _).mono ?_
  rintro e w1 ⟨rfl, hb⟩
  have hB : Below w.heap.size w w1 := hb
  clear hb
  go_wp2_with fail
  refine (HW1.out _).mono ?_
  rintro e w2 ⟨rfl, hb⟩
  replace hB : Below w.heap.size w w2 := belowThru hB hb
  clear hb
  go_wp2_with fail
  refine (HT.out _).mono ?_
  rintro e w3 ⟨rfl, hb⟩
  replace hB : Below w.heap.size w w3 := belowThru hB hb
  clear hb
  go_wp2_with fail
  refine (HCl.out _).mono ?_
  rintro e w4 ⟨rfl, hb⟩
  replace hB : Below w.heap.size w w4 := belowThru hB hb
  clear hb
  go_wp2_with fail
  refine (HR3.out _).mono ?_
  rintro e w5 ⟨⟨a3, c3, rfl, h3⟩, hb⟩
  replace hB : Below w.heap.size w w5 := belowThru hB hb
  clear hb
  go_wp2_with fail
  refine (HO3.out _ _ _ _ (ownRow1 h3)).mono ?_
  rintro e w6 ⟨rfl, hb⟩
  replace hB : Below w.heap.size w w6 := belowThru hB hb
  clear hb
  clear h3
  go_wp2_with fail
  refine (HR4.out _).mono ?_
  rintro e w7 ⟨⟨a4, c4, rfl, h4⟩, hb⟩
  replace hB : Below w.heap.size w w7 := belowThru hB hb
  clear hb
  go_wp2_with fail
  refine (HO4.out _ _ _ _ (ownRow1 h4)).mono ?_
  rintro e w8 ⟨rfl, hb⟩
  replace hB : Below w.heap.size w w8 := belowThru hB hb
  clear hb
  clear h4
  go_wp2_with fail
  refine (HR4.out _).mono ?_
  rintro e w9 ⟨⟨a5, c5, rfl, h5⟩, hb⟩
  replace hB : Below w.heap.size w w9 := belowThru hB hb
  clear hb
  go_wp2_with fail
  refine (HA1.out _ _ _ _ (ownRow1 h5)).mono ?_
  rintro e w10 ⟨⟨v6, uf, rfl, hV6, hU6⟩, hb⟩
  replace hB : Below w.heap.size w w10 := belowThru hB hb
  clear hb
  clear h5
  obtain ⟨gf, cf, rfl, -, -, -, yf, -⟩ := hU6.at0 elem_ft (by decide)
  have f0 := hU6.cellsAt elem_ft (j := 0) (i := 0) rfl rfl
  have f1 := hU6.cellsAt elem_ft (j := 0) (i := 1) rfl rfl
  have f2 := hU6.cellsAt elem_ft (j := 0) (i := 2) rfl rfl
  simp only [Nat.zero_mul, Nat.zero_add, List.length_cons, List.length_nil] at f0 f1 f2
  obtain ⟨a6, n6, c6, e6⟩ : ∃ a n c, v6 = .slice a n c := by obtain ⟨a, c, e, -⟩ := hV6.row elem_sn; exact ⟨a, _, c, e⟩
  subst e6
  have qeq : ∀ w, Sem.run Try.prog (binOp .neq 74 (.agg #[.int .i64 0, .int .u8 0, .bool true]) (.agg #[.int .i64 0, .int .u8 0, .bool true])) w = .ok (.bool false) w := fun w => by kernel_rfl
  clear hV6 hU6
  go_wp2_with fail
  refine (HR4.out _).mono ?_
  rintro e w11 ⟨⟨a7, c7, rfl, h7⟩, hb⟩
  replace hB : Below w.heap.size w w11 := belowThru (belowAlloc hB) hb
  clear hb
  clear f0 f1 f2 yf
  go_wp2_with fail
  refine (HTl.out _ _ _ (ownRow1 h7)).mono ?_
  rintro e w12 ⟨⟨v8, rfl, h8⟩, hb⟩
  replace hB : Below w.heap.size w w12 := belowThru hB hb
  clear hb
  clear h7
  obtain ⟨a8, c8, e8, hr8, -⟩ := h8.row elem_sn
  have e8 : v8 = .slice a8 1 c8 := e8
  subst e8
  go_wp2_with fail
  refine (HA2.out a8 1 c8 _ (RowK.later (belowAlloc (Below.refl _ _)) hr8)).mono ?_
  rintro e w13 ⟨⟨v9, uf9, rfl, -, hU9⟩, hb⟩
  replace hB : Below w.heap.size w w13 := belowThru (belowAlloc hB) hb
  clear hb
  clear h8 hr8
  go_wp2_with fail
  refine (HR5.out _).mono ?_
  rintro e w14 ⟨⟨a10, c10, rfl, h10⟩, hb⟩
  replace hB : Below w.heap.size w w14 := belowThru hB hb
  replace hU9 := OwnK.later hb hU9
  clear hb
  go_wp2_with fail
  refine (HTn.out _ _ _ (ownRow1 h10)).mono ?_
  rintro e w15 ⟨rfl, hb⟩
  replace hB : Below w.heap.size w w15 := belowThru hB hb
  replace hU9 := OwnK.later hb hU9
  clear hb
  clear h10
  go_wp2_with fail
  refine (HT.out _).mono ?_
  rintro e w16 ⟨rfl, hb⟩
  replace hB : Below w.heap.size w w16 := belowThru hB hb
  replace hU9 := OwnK.later hb hU9
  clear hb
  have kF : Blk ((w16.alloc (.cells (ints [0, 10, 30]) 3)).alloc (.cells (ints [100, 129]) 3)) w16.heap.size (ints [0, 10, 30]) 3 := Blk.alloc (Blk.new rfl)
  have kS : Blk ((w16.alloc (.cells (ints [0, 10, 30]) 3)).alloc (.cells (ints [100, 129]) 3)) (w16.heap.size + 1) (ints [100, 129]) 3 := Blk.new (by simp)
  have hU10 := hU9.alloc (o := .cells (ints [0, 10, 30]) 3)
  have hU11 := hU10.alloc (o := .cells (ints [100, 129]) 3)
  clear hU9 hU10
  go_wp2_with fail
  refine (HM.out _ _ _ kF kS).mono ?_
  rintro e w17 ⟨⟨av, cv, rfl, hX⟩, hb⟩
  replace hB : Below w.heap.size w w17 := belowThru (belowAlloc (belowAlloc hB)) hb
  replace hU11 := OwnK.later hb hU11
  clear hb
  clear kF kS
  obtain ⟨gh, ch, rfl, -, -, -, yh, -⟩ := hU11.at0 elem_ft (by decide)
  have f0 := hU11.cellsAt elem_ft (j := 0) (i := 0) rfl rfl
  have f1 := hU11.cellsAt elem_ft (j := 0) (i := 1) rfl rfl
  have f2 := hU11.cellsAt elem_ft (j := 0) (i := 2) rfl rfl
  simp only [Nat.zero_mul, Nat.zero_add, List.length_cons, List.length_nil] at f0 f1 f2
  have qeq2 : ∀ w, Sem.run Try.prog (binOp .eql 74 (.agg #[.int .i64 0, .int .u8 1, .bool false]) (.agg #[.int .i64 0, .int .u8 1, .bool false])) w = .ok (.bool true) w := fun w => by kernel_rfl
  clear hU11
  have HX := Lib.hid hX
  clear hX
  go_wp2_with fail
  have k1 : Blk ((w17.alloc (.cells (ints [0, 2]) 3)).alloc (.cells (ints [1, 2]) 3)) w17.heap.size (ints [0, 2]) 3 := Blk.alloc (Blk.new rfl)
  have k2 : Blk ((w17.alloc (.cells (ints [0, 2]) 3)).alloc (.cells (ints [1, 2]) 3)) (w17.heap.size + 1) (ints [1, 2]) 3 := Blk.new (by simp)
  have k3 := k1.alloc (o := .cells #[.slice (some ⟨w17.heap.size, 0, none⟩) 2 2, .slice (some ⟨w17.heap.size + 1, 0, none⟩) 2 2] 56)
  have k4 := k2.alloc (o := .cells #[.slice (some ⟨w17.heap.size, 0, none⟩) 2 2, .slice (some ⟨w17.heap.size + 1, 0, none⟩) 2 2] 56)
  have hx : AllR _ (((w17.alloc (.cells (ints [0, 2]) 3)).alloc (.cells (ints [1, 2]) 3)).alloc (.cells #[.slice (some ⟨w17.heap.size, 0, none⟩) 2 2, .slice (some ⟨w17.heap.size + 1, 0, none⟩) 2 2] 56)) (.slice av 2 cv) [[0, 2], [1, 2]] := (AllR.later (belowAlloc (belowAlloc (belowAlloc (Below.refl _ _)))) HX.out)
  refine (sameLists_any av (some ⟨w17.heap.size + 1 + 1, 0, none⟩) 2 2 cv 2 [[0, 2], [1, 2]] [[0, 2], [1, 2]] (by decide) (by decide) _ (hx.rd rfl) (rdL_lit (y := [0, 2]) (z := [1, 2]) (Blk.new (by simp)) k3 k4)).mono ?_
  rintro e w18 ⟨rfl, hb⟩
  rw [decide_eq_true rfl]
  go_wp2_with fail
  go_ret
  exact ⟨rfl, belowThru (belowAlloc (belowAlloc (belowAlloc hB))) hb⟩
end Go.Proofs.Ytnkpejinnbiocaa
