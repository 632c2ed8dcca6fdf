/-
  Layer 2: sums: the document's own, and all answers of the code.
-/
import Derived.Laws.AppendOwn
import Derived.Maps.AppendAt
import Derived.Test.YtgalmepljonhpaaIBoxC
import Derived.Test.YtgalmepljonhpaaISource
import Derived.Test.YtgalmepljonhpaaIRefW
import Derived.Test.YtgalmepljonhpaaITwin
namespace Go.Proofs.Ytgalmepljonhpaa
open Go.RowKit
set_option linter.unusedVariables false
set_option linter.unusedSimpArgs false

/-- A list of numbers and an error. -/
def RetL (zs : List Int) (er : Int) (w : World) (e : Ending) (w' : World) : Prop :=
  ∃ (v : Option Addr) (c : Nat), e = .returned (.tuple #[.slice v zs.length c, .int .i64 er]) ∧ Row w' v zs.length (iv zs) ∧ Below w.heap.size w w'
theorem retL_nil {w w' : World} {er : Int} (h : Below w.heap.size w w') : RetL [] er w (.returned (.tuple #[.slice none 0 0, .int .i64 er])) w' := ⟨none, 0, rfl, ⟨rfl, fun h => absurd h (Nat.lt_irrefl 0)⟩, h⟩
theorem retL_blk {w w' : World} {zs : List Int} {er : Int} {g N : Nat} (hN : zs.length = N) (hk : Blk w' g (ints zs) 3) (h : Below w.heap.size w w') : RetL zs er w (.returned (.tuple #[.slice (some ⟨g, 0, none⟩) N N, .int .i64 er])) w' := by
  subst hN; exact ⟨_, _, rfl, Row.of_blk hk, h⟩
theorem ownsRow_row {w : World} {base : Nat} {v : Value} {zs : List Int} (h : w.ownsRow base 3 1 v zs.length (iv zs)) : ∃ a c, v = .slice a zs.length c ∧ Row w a zs.length (iv zs) := by
  rcases h.2 with ⟨rfl, h0⟩ | ⟨g, cap, cur, rfl, hb, hh, hnc, _, hcs, ht⟩
  · exact ⟨none, 0, by rw [h0], ⟨iv_length zs, fun hn => absurd hn (by omega)⟩⟩
  · refine ⟨_, _, rfl, ⟨iv_length zs, fun hn => ⟨g, 0, rfl, lt_of_block hh, fun j hj => ?_⟩⟩⟩
    have e : w.cell? ⟨g, 0 + j, none⟩ = cur[j]? := by simp [World.cell?, hh]
    rw [e, ← ht, Nat.mul_one, List.getElem?_take_of_lt hj, Array.getElem?_toList]
theorem ownsRow_later {w w' : World} {base e size : Nat} {v : Value} {n : Nat} {xs : List Value} (hb : Below w.heap.size w w') (h : w.ownsRow base e size v n xs) : w'.ownsRow base e size v n xs := by
  refine ⟨h.1, ?_⟩
  rcases h.2 with h0 | ⟨g, cap, cur, h1, h2, hh, h3⟩
  · exact .inl h0
  · exact .inr ⟨g, cap, cur, h1, h2, (hb.block g (lt_of_block hh)).trans hh, h3⟩
theorem below_growL {w wr W w3 : World} {v : Value} {n : Nat} {xs : List Value} (hown : wr.ownsRow (w.heap.size + 1) 3 1 v n xs) (hW : Below w.heap.size w W) (hg : W.grownBy w3 v.ownBlock) : Below w.heap.size w w3 :=
  hW.grown hg hW.size (fun k hk => by have := (hown.lt k hk).1; omega)
theorem own_map {w : World} {base : Nat} {v : Value} {k : Nat} {f : Nat → Int} (h : w.ownsRow base 3 1 v (k + 1) (iv ((List.range k).map f) ++ [.int .i64 (f k)])) : w.ownsRow base 3 1 v (k + 1) (iv ((List.range (k + 1)).map f)) := by
  have e : iv ((List.range (k + 1)).map f) = iv ((List.range k).map f) ++ [.int .i64 (f k)] := by simp [iv, List.range_succ]
  rw [e]; exact h
theorem pix_px {Wn : Nat} {W : Int} (hW : W = (Wn : Int)) (zs : List Int) (x y : Nat) : pixAt W zs (x : Int) (y : Int) = pxN Wn zs x y := by
  unfold pixAt pxN
  have : ((y : Int) * W + (x : Int)).toNat = y * Wn + x := by rw [hW]; omega
  rw [this]
theorem box_bd31 {Wn : Nat} {zs : List Int} (h : ∀ z ∈ zs, okV z) (x0 y0 x1 y1 : Nat) (hx : x1 ≤ 16) (hy : y1 ≤ 16) : -549755813888 ≤ boxN Wn zs x0 y0 x1 y1 ∧ boxN Wn zs x0 y0 x1 y1 ≤ 549755813888 := by
  have hv : ∀ z ∈ zs, -2147483648 ≤ z ∧ z ≤ 2147483648 := fun z hz => by have := h z hz; unfold okV at this; exact this
  have h1 := box_bd (W := Wn) (by decide) hv x0 y0 x1 y1
  have h2 : (y1 : Int) * ((x1 : Int) * 2147483648) ≤ 16 * (16 * 2147483648) := Int.mul_le_mul (by omega) (by omega) (by omega) (by omega)
  omega
theorem row_bd31 {Wn : Nat} {zs : List Int} (h : ∀ z ∈ zs, okV z) (y x0 x1 : Nat) (hx : x1 ≤ 16) : -34359738368 ≤ sumR (fun x => pxN Wn zs x y) x0 x1 ∧ sumR (fun x => pxN Wn zs x y) x0 x1 ≤ 34359738368 := by
  have h1 := sumR_bd (f := fun x => pxN Wn zs x y) (a := x0) (b := x1) (B := 2147483648) (by decide) (fun x _ _ => by
    show _ ≤ pxN Wn zs x y ∧ pxN Wn zs x y ≤ _
    unfold pxN
    by_cases hk : y * Wn + x < zs.length
    · rw [List.getElem?_eq_getElem hk]; have := h _ (List.getElem_mem hk); unfold okV at this; exact this
    · rw [List.getElem?_eq_none (by omega)]; exact ⟨by decide, by decide⟩)
  omega
theorem pxN_bd {Wn : Nat} {zs : List Int} (h : ∀ z ∈ zs, okV z) (x y : Nat) : -2147483648 ≤ pxN Wn zs x y ∧ pxN Wn zs x y ≤ 2147483648 := by
  unfold pxN
  by_cases hk : y * Wn + x < zs.length
  · rw [List.getElem?_eq_getElem hk]; have := h _ (List.getElem_mem hk); unfold okV at this; exact this
  · rw [List.getElem?_eq_none (by omega)]; exact ⟨by decide, by decide⟩
theorem sumR_ge (f : Nat → Int) {a b : Nat} (h : b ≤ a) : sumR f a b = 0 := by unfold sumR; rw [show b - a = 0 by omega]; rfl

set_option maxRecDepth 100000 in
set_option maxHeartbeats 4000000 in
theorem rsum_any (W H : Int) (Wn Hn x0 y0 x1 y1 : Nat) (hWn : W = (Wn : Int)) (hHn : H = (Hn : Int)) (hx : x1 ≤ Wn) (hy : y1 ≤ Hn) (hx0 : x0 ≤ 1000) (hy0 : y0 ≤ 1000) (a : Option Addr) (n c : Nat) (zs : List Int) (hI : okI W H zs) (w : World) (hR : Row w a n (iv zs)) :
    Calls Try.prog 81 #[.agg #[.int .i64 W, .int .i64 H, .slice a n c], .int .i64 x0, .int .i64 y0, .int .i64 x1, .int .i64 y1] w fun e w' => e = .returned (.int .i64 (boxN Wn zs x0 y0 x1 y1)) ∧ Below w.heap.size w w' := by
  have hs := hI.1
  unfold okS at hs
  have hW16 : Wn ≤ 16 := by omega
  have hH16 : Hn ≤ 16 := by omega
  have HV := Lib.hid hI.2.2
  have HA : Hid (∀ (x y : Nat), x < Wn → y < Hn → ∀ w, Row w a n (iv zs) → Calls Try.prog 114 #[.agg #[.int .i64 W, .int .i64 H, .slice a n c], .int .i64 (x : Int), .int .i64 (y : Int)] w fun e w' => e = .returned (.int .i64 (pxN Wn zs x y)) ∧ Below w.heap.size w w') := by
    intro x y h1 h2 w h
    have := rat_z W H x y a n c zs hI ⟨⟨by omega, by omega⟩, by omega, by omega⟩ w h
    rwa [pix_px hWn] at this
  have HR := Lib.hid hR
  have g1 : (x1 : Int) ≤ 16 := by omega
  have g2 : (y1 : Int) ≤ 16 := by omega
  have HWN := Lib.hid hWn; have HHN := Lib.hid hHn
  clear hI hR hs hWn hHn
  go_enter Try.func81, Try.ntmps81
  go_wp2
  go_loopw [11, 12, 13] (fun s11 s12 _ wr => ∃ y : Nat, y0 ≤ y ∧ (y ≤ y1 ∨ y = y0) ∧ s12 = .int .i64 y ∧ s11 = .int .i64 (boxN Wn zs x0 y0 x1 y) ∧ Blk wr w.heap.size #[.int .i64 W, .int .i64 H, .slice a n c] 24 ∧ Below w.heap.size w wr) (fun _ s12 _ _ => y1 - (intOf s12).toNat)
  case atStart => exact ⟨y0, Nat.le_refl _, .inr rfl, rfl, by unfold boxN; rw [sumR_self], by (repeat' (first | (with_reducible assumption) | ((with_reducible refine Blk.new ?_); first | rfl | (simp; done)) | (with_reducible refine Blk.later (by assumption) ?_) | (with_reducible refine Blk.alloc ?_) | (with_reducible refine Blk.drewN ?_) | (with_reducible refine Blk.drew ?_) | (with_reducible refine Blk.other ?_ (by first | omega | (simp; done) | (simp; omega))))), by (repeat' (first | (with_reducible exact Below.refl _ _) | (with_reducible assumption) | (with_reducible refine belowThru ?_ (by assumption)) | (with_reducible refine belowAlloc ?_) | (with_reducible refine Below.setCell ?_ (by first | omega | (simp; done) | (simp; omega)) _) | (with_reducible refine Below.drew ?_) | (with_reducible refine below_drewN ?_ _)))⟩
  case round =>
    obtain ⟨y, hy1, hy2, rfl, rfl, k0, hB⟩ := hrel
    obtain ⟨wo, rfl⟩ : ∃ wo : World, wo = wr := ⟨_, rfl⟩
    obtain ⟨a0, b0⟩ := k0.read
    have p0 : (0 : Int) ≤ (y : Int) := by omega
    by_cases hlt : y < y1
    · have p1 : (y : Int) < (y1 : Int) := by omega
      have hbx := box_bd31 (Wn := Wn) HV.out x0 y0 x1 y (by omega) (by omega)
      obtain ⟨S, hS⟩ : ∃ S, boxN Wn zs x0 y0 x1 y = S := ⟨_, rfl⟩
      have HSN : Hid (boxN Wn zs x0 y0 x1 (y + 1) = S + sumR (fun x => pxN Wn zs x y) x0 x1) := by show _ = _; rw [← hS]; unfold boxN; rw [sumR_succ _ hy1]
      rw [hS] at hbx ⊢
      clear hS
      obtain ⟨g3, g4⟩ := hbx
      go_wp2
      go_loopw [11, 13] (fun s11 s13 wr => ∃ x : Nat, x0 ≤ x ∧ (x ≤ x1 ∨ x = x0) ∧ s13 = .int .i64 x ∧ s11 = .int .i64 (S + sumR (fun x => pxN Wn zs x y) x0 x) ∧ Blk wr w.heap.size #[.int .i64 W, .int .i64 H, .slice a n c] 24 ∧ Below w.heap.size w wr) (fun _ s13 _ => x1 - (intOf s13).toNat)
      case atStart => exact ⟨x0, Nat.le_refl _, .inr rfl, rfl, by rw [sumR_self, Int.add_zero], k0, hB⟩
      case round =>
        obtain ⟨x, hx1, hx2, rfl, rfl, k0, hB⟩ := hrel
        obtain ⟨a0, b0⟩ := k0.read
        have p2 : (0 : Int) ≤ (x : Int) := by omega
        by_cases hlx : x < x1
        · have p3 : (x : Int) < (x1 : Int) := by omega
          have hrb := row_bd31 (Wn := Wn) HV.out y x0 x (by omega)
          have hpb := pxN_bd (Wn := Wn) HV.out x y
          have HRN := Lib.hid (sumR_succ (fun x => pxN Wn zs x y) hx1)
          have HA1 := Lib.hid (HA.out x y (by omega) (by omega))
          obtain ⟨T, hT⟩ : ∃ T, sumR (fun x => pxN Wn zs x y) x0 x = T := ⟨_, rfl⟩
          obtain ⟨v, hv⟩ : ∃ v, pxN Wn zs x y = v := ⟨_, rfl⟩
          rw [hT] at hrb HRN ⊢
          have HRN2 : Hid (sumR (fun x => pxN Wn zs x y) x0 (x + 1) = T + v) := by show _ = _; rw [← hv]; exact HRN.out
          rw [hv] at hpb HA1
          clear hT hv HRN
          obtain ⟨g5, g6⟩ := hrb
          obtain ⟨g7, g8⟩ := hpb
          go_wp2_with (go_at_call 114; (with_reducible refine (HA1.out _ (HR.out.later hB)).mono ?_); rintro e w1 ⟨rfl, hb⟩)
          go_roundw
          case rel => exact ⟨x + 1, by omega, .inl hlx, by go_num, by rw [HRN2.out, Int.add_assoc], Blk.later hb k0, by (repeat' (first | (with_reducible exact Below.refl _ _) | (with_reducible assumption) | (with_reducible refine belowThru ?_ (by assumption)) | (with_reducible refine belowAlloc ?_) | (with_reducible refine Below.setCell ?_ (by first | omega | (simp; done) | (simp; omega)) _) | (with_reducible refine Below.drew ?_) | (with_reducible refine below_drewN ?_ _)))⟩
          case measure => simp [intOf]; omega
        · have p3 : (x1 : Int) ≤ (x : Int) := by omega
          have HE : Hid (S + sumR (fun x => pxN Wn zs x y) x0 x = boxN Wn zs x0 y0 x1 (y + 1)) := by
            show _ = _
            rw [HSN.out]
            rcases hx2 with h | rfl
            · rw [show x = x1 by omega]
            · rw [sumR_self, sumR_ge _ (by omega)]
          clear hx2
          rw [HE.out]
          go_wp2
          go_roundw
          case rel => exact ⟨y + 1, by omega, .inl hlt, by go_num, rfl, k0, hB⟩
          case measure => simp [intOf]; omega
    · have p1 : (y1 : Int) ≤ (y : Int) := by omega
      have HE : Hid (boxN Wn zs x0 y0 x1 y = boxN Wn zs x0 y0 x1 y1) := by
        show _ = _
        rcases hy2 with h | rfl
        · rw [show y = y1 by omega]
        · unfold boxN; rw [sumR_self, sumR_ge _ (by omega)]
      clear hy2
      rw [HE.out]
      go_wp2
      go_ret
      exact ⟨rfl, hB⟩

set_option maxRecDepth 100000 in
set_option maxHeartbeats 4000000 in
theorem rrows_ok (W H : Int) (Wn Hn : Nat) (hWn : W = (Wn : Int)) (hHn : H = (Hn : Int)) (a : Option Addr) (n c : Nat) (zs : List Int) (hI : okI W H zs) (hn : n ≤ maxLen) (w : World) (hR : Row w a n (iv zs)) :
    Calls Try.prog 30 #[.agg #[.int .i64 W, .int .i64 H, .slice a n c]] w (RetL ((List.range Hn).map fun k => boxN Wn zs 0 k Wn (k + 1)) 0 w) := by
  have hs := hI.1
  unfold okS at hs
  have hW16 : Wn ≤ 16 := by omega
  have hH16 : Hn ≤ 16 := by omega
  have HV := Lib.hid (rvalid_ok hI a n c hn)
  have HS : Hid (∀ k, k < Hn → ∀ w, Row w a n (iv zs) → Calls Try.prog 81 #[.agg #[.int .i64 W, .int .i64 H, .slice a n c], .int .i64 0, .int .i64 (k : Int), .int .i64 W, .int .i64 ((k : Int) + 1)] w fun e w' => e = .returned (.int .i64 ((fun k => boxN Wn zs 0 k Wn (k + 1)) k)) ∧ Below w.heap.size w w') := by
    intro k hk w h
    exact by have := rsum_any W H Wn Hn 0 k Wn (k + 1) hWn hHn (Nat.le_refl _) hk (by omega) (by omega) a n c zs hI w h; rw [hWn]; rw [hWn] at this; exact this
  generalize (fun k => boxN Wn zs 0 k Wn (k + 1)) = f at HS ⊢
  have HR := Lib.hid hR
  have HWN := Lib.hid hWn
  have HHN := Lib.hid hHn
  obtain ⟨i0, hi, hz0, hz1, hz2⟩ := info_parts info_tin
  have g1 : H = ((Hn : Nat) : Int) := by first | exact hWn | exact hHn
  have g2 : 1 ≤ W := by omega
  have g3 : W ≤ 16 := by omega
  have g4 : 1 ≤ H := by omega
  have g5 : H ≤ 16 := by omega
  have G1 := Lib.hid g1
  clear hI hR hs hWn hHn g1
  go_enter Try.func30, Try.ntmps30
  go_wp2_with (go_at_call 43; (with_reducible refine (HV.out _ (HR.out.later (by (repeat' (first | (with_reducible exact Below.refl _ _) | (with_reducible assumption) | (with_reducible refine belowThru ?_ (by assumption)) | (with_reducible refine belowAlloc ?_) | (with_reducible refine Below.setCell ?_ (by first | omega | (simp; done) | (simp; omega)) _) | (with_reducible refine Below.drew ?_) | (with_reducible refine below_drewN ?_ _)))))).mono ?_); rintro e w1 ⟨rfl, hb⟩; (first | ((with_reducible have k0 := Blk.later hb (Blk.new rfl)); skip; obtain ⟨a0, b0⟩ := k0.read; have zl := k0.lt) | ((try (have zk := k0.lt; (first | ((with_reducible refine Blk.keepG hb k0 (fun h => ?_) ?_); (focus ((repeat' (first | (with_reducible assumption) | ((with_reducible refine Blk.new ?_); first | rfl | (simp; done)) | (with_reducible refine Blk.later (by assumption) ?_) | (with_reducible refine Blk.alloc ?_) | (with_reducible refine Blk.drewN ?_) | (with_reducible refine Blk.drew ?_) | (with_reducible refine Blk.other ?_ (by first | omega | (simp; done) | (simp; omega))))); done)); clear k0; intro k0) | (with_reducible replace k0 := Blk.later hb (Blk.set (Blk.set k0))) | (with_reducible replace k0 := Blk.later hb (Blk.set k0))); clear a0 b0; obtain ⟨a0, b0⟩ := k0.read; have zl := k0.lt)))))
  go_loopw [4, 5] (fun v s5 wr => ∃ k : Nat, k ≤ Hn ∧ s5 = .int .i64 k ∧ wr.ownsRow (w.heap.size + 1) 3 1 v k (iv ((List.range k).map f)) ∧ Blk wr w.heap.size #[.int .i64 W, .int .i64 H, .slice a n c] 24 ∧ Below w.heap.size w wr) (fun _ s5 _ => Hn - (intOf s5).toNat)
  case atStart => exact ⟨0, Nat.zero_le _, rfl, World.ownsRow_nil _ _ _ _, by (repeat' (first | (with_reducible assumption) | ((with_reducible refine Blk.new ?_); first | rfl | (simp; done)) | (with_reducible refine Blk.later (by assumption) ?_) | (with_reducible refine Blk.alloc ?_) | (with_reducible refine Blk.drewN ?_) | (with_reducible refine Blk.drew ?_) | (with_reducible refine Blk.other ?_ (by first | omega | (simp; done) | (simp; omega))))), by (repeat' (first | (with_reducible exact Below.refl _ _) | (with_reducible assumption) | (with_reducible refine belowThru ?_ (by assumption)) | (with_reducible refine belowAlloc ?_) | (with_reducible refine Below.setCell ?_ (by first | omega | (simp; done) | (simp; omega)) _) | (with_reducible refine Below.drew ?_) | (with_reducible refine below_drewN ?_ _)))⟩
  case round =>
    clear k0 a0 b0
    obtain ⟨k, hk, rfl, hown, k0, hB⟩ := hrel
    obtain ⟨a0, b0⟩ := k0.read
    have p0 : (0 : Int) ≤ (k : Int) := by omega
    have zk0 := k0.lt
    by_cases hlt : k < Hn
    · have p1 : (k : Int) < H := by have := G1.out; omega
      have HS1 := Lib.hid (HS.out k hlt)
      have hzB := hB.size
      go_wp2_with (first
        | (go_at_call 81; (with_reducible refine (HS1.out _ (HR.out.later hB)).mono ?_); rintro e w1 ⟨rfl, hb⟩; have hown1 := ownsRow_later hb hown; have hb' := hb.size)
        | (at_builtin; refine wpList_append_own _ rfl _ _ 22 rfl (w.heap.size + 1) 3 i0 (.int .i64 0) 1 8 Try.underlying22 hi hz0 hz1 hz2 rfl (by decide) _ _ _ rfl (hown1.alloc _) ⟨w1.heap.size, 0, none⟩ 1 1 [.int .i64 (f k)] rfl rfl (cell_one_new _ _ _) (fun x hx => by simp at hx; subst hx; rfl) (by unfold maxLen; omega) (by omega) (by simp; omega) ?_; intro v' w3 hown' hgrow3 hnil3))
      have hB' := below_growL hown1 (belowAlloc (belowThru hB hb)) hgrow3
      have HO := Lib.hid (own_map hown')
      have kq : Blk w3 w.heap.size #[.int .i64 W, .int .i64 H, .slice a n c] 24 := (hgrow3.block w.heap.size (Nat.lt_of_lt_of_le zk0 (by simp; omega)) (fun e => by have := hown1.lt _ e.symm; omega)).trans (Blk.alloc (Blk.later hb k0))
      clear hown' hgrow3 hnil3 hown hown1
      go_roundw
      case rel => exact ⟨k + 1, hlt, by go_num, HO.out, kq, hB'⟩
      case measure => simp [intOf]; omega
    · obtain rfl : k = Hn := by omega
      have p1 : H ≤ (k : Int) := by have := G1.out; omega
      have hln : ((List.range k).map f).length = k := by simp
      obtain ⟨v, e, rfl, hr⟩ := ownsRow_row (zs := (List.range k).map f) (by rw [hln]; exact hown)
      have HQ := Lib.hid hr
      have HL := Lib.hid hln
      clear hr hown hln
      rw [HL.out]
      go_wp2
      go_ret2
      exact ⟨v, e, by rw [HL.out]; rfl, HQ.out, hB⟩

set_option maxRecDepth 100000 in
set_option maxHeartbeats 4000000 in
theorem rcols_ok (W H : Int) (Wn Hn : Nat) (hWn : W = (Wn : Int)) (hHn : H = (Hn : Int)) (a : Option Addr) (n c : Nat) (zs : List Int) (hI : okI W H zs) (hn : n ≤ maxLen) (w : World) (hR : Row w a n (iv zs)) :
    Calls Try.prog 32 #[.agg #[.int .i64 W, .int .i64 H, .slice a n c]] w (RetL ((List.range Wn).map fun k => boxN Wn zs k 0 (k + 1) Hn) 0 w) := by
  have hs := hI.1
  unfold okS at hs
  have hW16 : Wn ≤ 16 := by omega
  have hH16 : Hn ≤ 16 := by omega
  have HV := Lib.hid (rvalid_ok hI a n c hn)
  have HS : Hid (∀ k, k < Wn → ∀ w, Row w a n (iv zs) → Calls Try.prog 81 #[.agg #[.int .i64 W, .int .i64 H, .slice a n c], .int .i64 (k : Int), .int .i64 0, .int .i64 ((k : Int) + 1), .int .i64 H] w fun e w' => e = .returned (.int .i64 ((fun k => boxN Wn zs k 0 (k + 1) Hn) k)) ∧ Below w.heap.size w w') := by
    intro k hk w h
    exact by have := rsum_any W H Wn Hn k 0 (k + 1) Hn hWn hHn hk (Nat.le_refl _) (by omega) (by omega) a n c zs hI w h; rw [hHn]; rw [hHn] at this; exact this
  generalize (fun k => boxN Wn zs k 0 (k + 1) Hn) = f at HS ⊢
  have HR := Lib.hid hR
  have HWN := Lib.hid hWn
  have HHN := Lib.hid hHn
  obtain ⟨i0, hi, hz0, hz1, hz2⟩ := info_parts info_tin
  have g1 : W = ((Wn : Nat) : Int) := by first | exact hWn | exact hHn
  have g2 : 1 ≤ W := by omega
  have g3 : W ≤ 16 := by omega
  have g4 : 1 ≤ H := by omega
  have g5 : H ≤ 16 := by omega
  have G1 := Lib.hid g1
  clear hI hR hs hWn hHn g1
  go_enter Try.func32, Try.ntmps32
  go_wp2_with (go_at_call 43; (with_reducible refine (HV.out _ (HR.out.later (by (repeat' (first | (with_reducible exact Below.refl _ _) | (with_reducible assumption) | (with_reducible refine belowThru ?_ (by assumption)) | (with_reducible refine belowAlloc ?_) | (with_reducible refine Below.setCell ?_ (by first | omega | (simp; done) | (simp; omega)) _) | (with_reducible refine Below.drew ?_) | (with_reducible refine below_drewN ?_ _)))))).mono ?_); rintro e w1 ⟨rfl, hb⟩; (first | ((with_reducible have k0 := Blk.later hb (Blk.new rfl)); skip; obtain ⟨a0, b0⟩ := k0.read; have zl := k0.lt) | ((try (have zk := k0.lt; (first | ((with_reducible refine Blk.keepG hb k0 (fun h => ?_) ?_); (focus ((repeat' (first | (with_reducible assumption) | ((with_reducible refine Blk.new ?_); first | rfl | (simp; done)) | (with_reducible refine Blk.later (by assumption) ?_) | (with_reducible refine Blk.alloc ?_) | (with_reducible refine Blk.drewN ?_) | (with_reducible refine Blk.drew ?_) | (with_reducible refine Blk.other ?_ (by first | omega | (simp; done) | (simp; omega))))); done)); clear k0; intro k0) | (with_reducible replace k0 := Blk.later hb (Blk.set (Blk.set k0))) | (with_reducible replace k0 := Blk.later hb (Blk.set k0))); clear a0 b0; obtain ⟨a0, b0⟩ := k0.read; have zl := k0.lt)))))
  go_loopw [4, 5] (fun v s5 wr => ∃ k : Nat, k ≤ Wn ∧ s5 = .int .i64 k ∧ wr.ownsRow (w.heap.size + 1) 3 1 v k (iv ((List.range k).map f)) ∧ Blk wr w.heap.size #[.int .i64 W, .int .i64 H, .slice a n c] 24 ∧ Below w.heap.size w wr) (fun _ s5 _ => Wn - (intOf s5).toNat)
  case atStart => exact ⟨0, Nat.zero_le _, rfl, World.ownsRow_nil _ _ _ _, by (repeat' (first | (with_reducible assumption) | ((with_reducible refine Blk.new ?_); first | rfl | (simp; done)) | (with_reducible refine Blk.later (by assumption) ?_) | (with_reducible refine Blk.alloc ?_) | (with_reducible refine Blk.drewN ?_) | (with_reducible refine Blk.drew ?_) | (with_reducible refine Blk.other ?_ (by first | omega | (simp; done) | (simp; omega))))), by (repeat' (first | (with_reducible exact Below.refl _ _) | (with_reducible assumption) | (with_reducible refine belowThru ?_ (by assumption)) | (with_reducible refine belowAlloc ?_) | (with_reducible refine Below.setCell ?_ (by first | omega | (simp; done) | (simp; omega)) _) | (with_reducible refine Below.drew ?_) | (with_reducible refine below_drewN ?_ _)))⟩
  case round =>
    clear k0 a0 b0
    obtain ⟨k, hk, rfl, hown, k0, hB⟩ := hrel
    obtain ⟨a0, b0⟩ := k0.read
    have p0 : (0 : Int) ≤ (k : Int) := by omega
    have zk0 := k0.lt
    by_cases hlt : k < Wn
    · have p1 : (k : Int) < W := by have := G1.out; omega
      have HS1 := Lib.hid (HS.out k hlt)
      have hzB := hB.size
      go_wp2_with (first
        | (go_at_call 81; (with_reducible refine (HS1.out _ (HR.out.later hB)).mono ?_); rintro e w1 ⟨rfl, hb⟩; have hown1 := ownsRow_later hb hown; have hb' := hb.size)
        | (at_builtin; refine wpList_append_own _ rfl _ _ 22 rfl (w.heap.size + 1) 3 i0 (.int .i64 0) 1 8 Try.underlying22 hi hz0 hz1 hz2 rfl (by decide) _ _ _ rfl (hown1.alloc _) ⟨w1.heap.size, 0, none⟩ 1 1 [.int .i64 (f k)] rfl rfl (cell_one_new _ _ _) (fun x hx => by simp at hx; subst hx; rfl) (by unfold maxLen; omega) (by omega) (by simp; omega) ?_; intro v' w3 hown' hgrow3 hnil3))
      have hB' := below_growL hown1 (belowAlloc (belowThru hB hb)) hgrow3
      have HO := Lib.hid (own_map hown')
      have kq : Blk w3 w.heap.size #[.int .i64 W, .int .i64 H, .slice a n c] 24 := (hgrow3.block w.heap.size (Nat.lt_of_lt_of_le zk0 (by simp; omega)) (fun e => by have := hown1.lt _ e.symm; omega)).trans (Blk.alloc (Blk.later hb k0))
      clear hown' hgrow3 hnil3 hown hown1
      go_roundw
      case rel => exact ⟨k + 1, hlt, by go_num, HO.out, kq, hB'⟩
      case measure => simp [intOf]; omega
    · obtain rfl : k = Wn := by omega
      have p1 : W ≤ (k : Int) := by have := G1.out; omega
      have hln : ((List.range k).map f).length = k := by simp
      obtain ⟨v, e, rfl, hr⟩ := ownsRow_row (zs := (List.range k).map f) (by rw [hln]; exact hown)
      have HQ := Lib.hid hr
      have HL := Lib.hid hln
      clear hr hown hln
      rw [HL.out]
      go_wp2
      go_ret2
      exact ⟨v, e, by rw [HL.out]; rfl, HQ.out, hB⟩

end Go.Proofs.Ytgalmepljonhpaa
