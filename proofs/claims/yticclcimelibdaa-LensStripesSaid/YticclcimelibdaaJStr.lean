/-
  Layer 4: the numbers that a stripe may be, by the code.
-/
import Derived.Laws.AppendOwn
import Derived.Maps.AppendAt
import Derived.Test.YticclcimelibdaaJGray
namespace Go.Proofs.Yticclcimelibdaa
open Go.RowKit
set_option linter.unusedVariables false
set_option linter.unusedSimpArgs false

theorem info_tin : (Try.prog.info? 3).map (fun i => (i.zero, i.size, i.bytes)) = some (some (.int .i64 0), 1, 8) := by kernel_rfl
/-- The lists and the noise may be those of a stripe. -/
def okStr (noise : Int) (xs ys : List Int) : Prop := (1 ≤ xs.length ∧ xs.length ≤ 8) ∧ ys.length = xs.length ∧ AllIn 0 255 xs ∧ AllIn 0 255 ys ∧ 0 ≤ noise ∧ noise ≤ 64
/-- What Stripes returns. -/
def RetS (zs : List Int) (er : Int) (w : World) (e : Ending) (w' : World) : Prop :=
  ∃ (v : Option Addr) (c : Nat), e = .returned (.tuple #[.slice v zs.length c, .int .i64 er]) ∧ Row w' v zs.length (iv zs) ∧ Below w.heap.size w w'

theorem and_eq_yes (g f : Nat) (hg : g < 256) (hf : f < 256) (h : g &&& f = f) : bits .and .i64 (g : Int) (f : Int) = (f : Int) := by rw [i64_and_nat _ _ (by omega) (by omega), h]
theorem and_eq_no (g f : Nat) (hg : g < 256) (hf : f < 256) (h : ¬ g &&& f = f) : (bits .and .i64 (g : Int) (f : Int) == (f : Int)) = false := by rw [i64_and_nat _ _ (by omega) (by omega)]; simp; omega
theorem and_zero_yes (g f : Nat) (hg : g < 256) (hf : f < 256) (h : g &&& f = 0) : bits .and .i64 (g : Int) (f : Int) = 0 := by rw [i64_and_nat _ _ (by omega) (by omega), h]; rfl
theorem and_zero_no (g f : Nat) (hg : g < 256) (hf : f < 256) (h : ¬ g &&& f = 0) : (bits .and .i64 (g : Int) (f : Int) == 0) = false := by rw [i64_and_nat _ _ (by omega) (by omega)]; simp; omega
theorem fromBits_256 (bs : List Bool) (h : bs.length ≤ 8) : fromBits bs < 256 := by
  have h1 := fromBits_lt bs
  have h2 : 2 ^ bs.length ≤ 2 ^ 8 := Nat.pow_le_pow_right (by omega) h
  omega
theorem wrap_two_pow (n : Nat) (h : n ≤ 8) : wrap64 ((2 : Int) ^ n) = ((2 ^ n : Nat) : Int) := by
  have h2 : 2 ^ n ≤ 2 ^ 8 := Nat.pow_le_pow_right (by omega) h
  have e : ((2 : Int) ^ n) = ((2 ^ n : Nat) : Int) := by simp
  have h3 := Nat.two_pow_pos n
  rw [e, wrap64]; omega
theorem ownsRow_row {w : World} {base : Nat} {v : Value} {zs : List Int} (h : w.ownsRow base 3 1 v zs.length (iv zs)) : ∃ a c, v = .slice a zs.length c ∧ Row w a zs.length (iv zs) := by
  rcases h.2 with ⟨rfl, h0⟩ | ⟨g, cap, cur, rfl, hb, hh, hnc, _, hcs, ht⟩
  · exact ⟨none, 0, by rw [h0], ⟨iv_length zs, fun hn => absurd hn (by omega)⟩⟩
  · refine ⟨_, _, rfl, ⟨iv_length zs, fun hn => ⟨g, 0, rfl, lt_of_block hh, fun j hj => ?_⟩⟩⟩
    have e : w.cell? ⟨g, 0 + j, none⟩ = cur[j]? := by simp [World.cell?, hh]
    rw [e, ← ht, Nat.mul_one, List.getElem?_take_of_lt hj, Array.getElem?_toList]
theorem below_grow {w wr w3 : World} {v : Value} {o : Obj} {n : Nat} {xs : List Value} (hB : Below w.heap.size w wr) (hown : wr.ownsRow w.heap.size 3 1 v n xs) (hg : (wr.alloc o).grownBy w3 v.ownBlock) : Below w.heap.size w w3 :=
  (belowAlloc hB).grown hg (by have := hB.size; simp; omega) (fun k hk => (hown.lt k hk).1)
theorem own_snoc {w : World} {base : Nat} {v : Value} {zs ys : List Int} {k : Int} (h : w.ownsRow base 3 1 v (zs.length + 1) (iv zs ++ [.int .i64 k])) (e : ys = zs ++ [k]) : w.ownsRow base 3 1 v ys.length (iv ys) := by
  subst e
  have h1 : (zs ++ [k]).length = zs.length + 1 := by simp
  have h2 : iv (zs ++ [k]) = iv zs ++ [.int .i64 k] := by simp [iv]
  rw [h1, h2]; exact h
set_option maxRecDepth 100000 in
set_option maxHeartbeats 4000000 in
theorem stripes_ok (noise : Int) (a b : Option Addr) (n c d : Nat) (xs ys : List Int) (w : World) (hR : Row w a n (iv xs)) (hS : Row w b n (iv ys)) (h : okStr noise xs ys) :
    Calls Try.prog 44 #[.slice a n c, .slice b n d, .int .i64 noise] w (RetS (stripes (2 * noise) xs ys (2 ^ n)) 0 w) := by
  have hx : xs.length = n := by have := hR.1; rwa [iv_length] at this
  have hy : ys.length = n := by have := hS.1; rwa [iv_length] at this
  obtain ⟨⟨g1, g2⟩, g3, g4, g5, g6, g7⟩ := h
  rw [hx] at g1 g2
  have HX := Lib.hid hx; have HY := Lib.hid hy; have HR := Lib.hid hR; have HS := Lib.hid hS; have HV := Lib.hid g4; have HU := Lib.hid g5
  clear hx hy hR hS g3 g4 g5
  have hn : n ≤ maxLen := by unfold maxLen; omega
  have HW1 : Hid (∀ (B : Nat) (w : World), w.cell? ⟨B, 0, none⟩ = some (.int .i64 n) → w.cell? ⟨B, 1, none⟩ = some (.int .i64 n) → Calls Try.prog 60 #[.int .i64 1, .int .i64 8, .slice (some ⟨B, 0, none⟩) 2 2] w fun e w' => e = .returned (.bool true) ∧ Below w.heap.size w w') := by
    intro B w h0 h1
    have := jwithin_any 1 8 (some ⟨B, 0, none⟩) 2 2 [(n : Int), n] (by unfold maxLen; omega) w (Row.two h0 h1)
    rwa [decide_eq_true (show AllIn 1 8 [(n : Int), n] from fun z hz => by simp at hz; omega)] at this
  have HW2 : Hid (∀ (v : Option Addr) (e : Nat) (zs : List Int) (w : World), AllIn 0 255 zs → Row w v n (iv zs) → Calls Try.prog 60 #[.int .i64 0, .int .i64 255, .slice v n e] w fun e w' => e = .returned (.bool true) ∧ Below w.heap.size w w') := by
    intro v e zs w hz hr
    have := jwithin_any 0 255 v n e zs hn w hr
    rwa [decide_eq_true hz] at this
  have HW3 : Hid (∀ (B : Nat) (w : World), w.cell? ⟨B, 0, none⟩ = some (.int .i64 noise) → Calls Try.prog 60 #[.int .i64 0, .int .i64 64, .slice (some ⟨B, 0, none⟩) 1 1] w fun e w' => e = .returned (.bool true) ∧ Below w.heap.size w w') := by
    intro B w h0
    have := jwithin_any 0 64 (some ⟨B, 0, none⟩) 1 1 [noise] (by unfold maxLen; omega) w (Row.one h0)
    rwa [decide_eq_true (show AllIn 0 64 [noise] from fun z hz => by simp at hz; omega)] at this
  have p0 : (1 : Int) ≤ (n : Int) := by omega
  have p1 : (n : Int) ≤ 8 := by omega
  obtain ⟨C, hC⟩ : ∃ C : Nat, 2 ^ n = C := ⟨_, rfl⟩
  have hCle : C ≤ 256 := by rw [← hC]; exact Nat.pow_le_pow_right (n := 2) (by omega) g2
  have hwp := wrap_two_pow n g2
  rw [hC] at hwp ⊢
  have HC := Lib.hid hC
  clear hC
  obtain ⟨F, hF0⟩ : ∃ F : Nat, fromBits (brs (2 * noise) xs ys) = F := ⟨_, rfl⟩
  obtain ⟨G, hG0⟩ : ∃ G : Nat, fromBits (brs (2 * noise) ys xs) = G := ⟨_, rfl⟩
  have hF : F < 256 := by rw [← hF0]; exact fromBits_256 _ (by rw [brs_length _ _ _ (HX.out.trans HY.out.symm), HX.out]; exact g2)
  have hG : G < 256 := by rw [← hG0]; exact fromBits_256 _ (by rw [brs_length _ _ _ (HY.out.trans HX.out.symm), HY.out]; exact g2)
  have HF := Lib.hid hF0; have HG := Lib.hid hG0
  clear hF0 hG0
  obtain ⟨i0, hi, hz0, hz1, hz2⟩ := info_parts info_tin
  have HB1 : Hid (∀ w, Row w a n (iv xs) → Row w b n (iv ys) → Calls Try.prog 86 #[.slice a n c, .slice b n d, .int .i64 (2 * noise)] w fun e w' => e = .returned (.int .i64 (F : Int)) ∧ Below w.heap.size w w') := by
    intro w h1 h2; have := brighter_any (2 * noise) a b n c d xs ys (by omega) w h1 h2 HV.out HU.out; rwa [HF.out] at this
  have HB2 : Hid (∀ w, Row w a n (iv xs) → Row w b n (iv ys) → Calls Try.prog 86 #[.slice b n d, .slice a n c, .int .i64 (2 * noise)] w fun e w' => e = .returned (.int .i64 (G : Int)) ∧ Below w.heap.size w w') := by
    intro w h1 h2; have := brighter_any (2 * noise) b a n d c ys xs (by omega) w h2 h1 HU.out HV.out; rwa [HG.out] at this
  go_enter Try.func44, Try.ntmps44
  go_wp2_with (first
    | (go_at_call 60; ((with_reducible refine (HW1.out _ _ (by simp [go_sem]) (by simp [go_sem])).mono ?_); rintro e w1 ⟨rfl, hb⟩; have hB1 : Below w.heap.size w w1 := by (repeat' (first | (with_reducible exact Below.refl _ _) | (with_reducible assumption) | (with_reducible refine belowThru ?_ (by assumption)) | (with_reducible refine belowAlloc ?_) | (with_reducible refine Below.setCell ?_ (by first | omega | (simp; done) | (simp; omega)) _) | (with_reducible refine Below.drew ?_) | (with_reducible refine below_drewN ?_ _)))))
    | (go_at_call 60; ((with_reducible refine (HW2.out a c xs _ HV.out (HR.out.later (by (repeat' (first | (with_reducible exact Below.refl _ _) | (with_reducible assumption) | (with_reducible refine belowThru ?_ (by assumption)) | (with_reducible refine belowAlloc ?_) | (with_reducible refine Below.setCell ?_ (by first | omega | (simp; done) | (simp; omega)) _) | (with_reducible refine Below.drew ?_) | (with_reducible refine below_drewN ?_ _)))))).mono ?_); rintro e w2 ⟨rfl, hb2⟩; have hB2 : Below w.heap.size w w2 := by (repeat' (first | (with_reducible exact Below.refl _ _) | (with_reducible assumption) | (with_reducible refine belowThru ?_ (by assumption)) | (with_reducible refine belowAlloc ?_) | (with_reducible refine Below.setCell ?_ (by first | omega | (simp; done) | (simp; omega)) _) | (with_reducible refine Below.drew ?_) | (with_reducible refine below_drewN ?_ _)))))
    | (go_at_call 60; ((with_reducible refine (HW2.out b d ys _ HU.out (HS.out.later (by (repeat' (first | (with_reducible exact Below.refl _ _) | (with_reducible assumption) | (with_reducible refine belowThru ?_ (by assumption)) | (with_reducible refine belowAlloc ?_) | (with_reducible refine Below.setCell ?_ (by first | omega | (simp; done) | (simp; omega)) _) | (with_reducible refine Below.drew ?_) | (with_reducible refine below_drewN ?_ _)))))).mono ?_); rintro e w3 ⟨rfl, hb3⟩; have hB3 : Below w.heap.size w w3 := by (repeat' (first | (with_reducible exact Below.refl _ _) | (with_reducible assumption) | (with_reducible refine belowThru ?_ (by assumption)) | (with_reducible refine belowAlloc ?_) | (with_reducible refine Below.setCell ?_ (by first | omega | (simp; done) | (simp; omega)) _) | (with_reducible refine Below.drew ?_) | (with_reducible refine below_drewN ?_ _)))))
    | (go_at_call 60; ((with_reducible refine (HW3.out _ _ (by simp [go_sem])).mono ?_); rintro e w4 ⟨rfl, hb4⟩; have hB4 : Below w.heap.size w w4 := by (repeat' (first | (with_reducible exact Below.refl _ _) | (with_reducible assumption) | (with_reducible refine belowThru ?_ (by assumption)) | (with_reducible refine belowAlloc ?_) | (with_reducible refine Below.setCell ?_ (by first | omega | (simp; done) | (simp; omega)) _) | (with_reducible refine Below.drew ?_) | (with_reducible refine below_drewN ?_ _)))))
    | (go_at_call 86; ((with_reducible refine (HB1.out _ (HR.out.later (by (repeat' (first | (with_reducible exact Below.refl _ _) | (with_reducible assumption) | (with_reducible refine belowThru ?_ (by assumption)) | (with_reducible refine belowAlloc ?_) | (with_reducible refine Below.setCell ?_ (by first | omega | (simp; done) | (simp; omega)) _) | (with_reducible refine Below.drew ?_) | (with_reducible refine below_drewN ?_ _))))) (HS.out.later (by (repeat' (first | (with_reducible exact Below.refl _ _) | (with_reducible assumption) | (with_reducible refine belowThru ?_ (by assumption)) | (with_reducible refine belowAlloc ?_) | (with_reducible refine Below.setCell ?_ (by first | omega | (simp; done) | (simp; omega)) _) | (with_reducible refine Below.drew ?_) | (with_reducible refine below_drewN ?_ _)))))).mono ?_); rintro e w5 ⟨rfl, hb5⟩; have hB5 : Below w.heap.size w w5 := by (repeat' (first | (with_reducible exact Below.refl _ _) | (with_reducible assumption) | (with_reducible refine belowThru ?_ (by assumption)) | (with_reducible refine belowAlloc ?_) | (with_reducible refine Below.setCell ?_ (by first | omega | (simp; done) | (simp; omega)) _) | (with_reducible refine Below.drew ?_) | (with_reducible refine below_drewN ?_ _)))))
    | (go_at_call 86; ((with_reducible refine (HB2.out _ (HR.out.later (by (repeat' (first | (with_reducible exact Below.refl _ _) | (with_reducible assumption) | (with_reducible refine belowThru ?_ (by assumption)) | (with_reducible refine belowAlloc ?_) | (with_reducible refine Below.setCell ?_ (by first | omega | (simp; done) | (simp; omega)) _) | (with_reducible refine Below.drew ?_) | (with_reducible refine below_drewN ?_ _))))) (HS.out.later (by (repeat' (first | (with_reducible exact Below.refl _ _) | (with_reducible assumption) | (with_reducible refine belowThru ?_ (by assumption)) | (with_reducible refine belowAlloc ?_) | (with_reducible refine Below.setCell ?_ (by first | omega | (simp; done) | (simp; omega)) _) | (with_reducible refine Below.drew ?_) | (with_reducible refine below_drewN ?_ _)))))).mono ?_); rintro e w6 ⟨rfl, hb6⟩; have hB6 : Below w.heap.size w w6 := by (repeat' (first | (with_reducible exact Below.refl _ _) | (with_reducible assumption) | (with_reducible refine belowThru ?_ (by assumption)) | (with_reducible refine belowAlloc ?_) | (with_reducible refine Below.setCell ?_ (by first | omega | (simp; done) | (simp; omega)) _) | (with_reducible refine Below.drew ?_) | (with_reducible refine below_drewN ?_ _))))))
  simp only [hwp]
  clear hwp
  go_loopw [10, 11, 53] (fun v _ i wr => ∃ k : Nat, k ≤ C ∧ i = .int .i64 k ∧ wr.ownsRow w.heap.size 3 1 v (stripes (2 * noise) xs ys k).length (iv (stripes (2 * noise) xs ys k)) ∧ Below w.heap.size w wr) (fun _ _ i _ => C - (intOf i).toNat)
  case atStart => exact ⟨0, Nat.zero_le _, rfl, World.ownsRow_nil _ _ _ _, by (repeat' (first | (with_reducible exact Below.refl _ _) | (with_reducible assumption) | (with_reducible refine belowThru ?_ (by assumption)) | (with_reducible refine belowAlloc ?_) | (with_reducible refine Below.setCell ?_ (by first | omega | (simp; done) | (simp; omega)) _) | (with_reducible refine Below.drew ?_) | (with_reducible refine below_drewN ?_ _)))⟩
  case round =>
    obtain ⟨k, hk, rfl, hown, hB⟩ := hrel
    by_cases hlt : k < C
    · have hg := grayN_lt k (by omega)
      have HM : Hid (mayB (2 * noise) xs ys k = ((grayN k &&& F == F) && (grayN k &&& G == 0))) := by show _ = _; unfold mayB; rw [HF.out, HG.out]
      have HN := Lib.hid (stripes_snoc (2 * noise) xs ys k)
      have hl := stripes_len (2 * noise) xs ys k
      have hzB := hB.size
      have p2 : (0 : Int) ≤ (k : Int) := by omega
      have p3 : (k : Int) < (C : Int) := by omega
      by_cases m1 : grayN k &&& F = F
      · have b1 := and_eq_yes (grayN k) F hg hF m1
        by_cases m2 : grayN k &&& G = 0
        · have b2 := and_zero_yes (grayN k) G hg hG m2
          have HN' : Hid (stripes (2 * noise) xs ys (k + 1) = stripes (2 * noise) xs ys k ++ [(k : Int)]) := by show _ = _; rw [HN.out, HM.out, m1, m2]; simp
          clear HN HM m1 m2
          go_wp2_with (first
            | (go_at_call 68; ((with_reducible refine (gray_any k (by omega) _).mono ?_); rintro e w1 ⟨rfl, rfl⟩))
            | (at_builtin; refine wpList_append_own _ rfl _ _ 49 rfl w.heap.size 3 i0 (.int .i64 0) 1 8 Try.underlying49 hi hz0 hz1 hz2 rfl (by decide) _ _ _ rfl (hown.alloc _) ⟨wr.heap.size, 0, none⟩ 1 1 [.int .i64 (k : Int)] rfl rfl (cell_one_new _ _ _) (fun x hx => by simp at hx; subst hx; rfl) (by unfold maxLen; omega) (by omega) (by simp; omega) ?_; intro v' w3 hown' hgrow3 hnil3))
          have hB' := below_grow hB hown hgrow3
          have HO := Lib.hid (own_snoc hown' HN'.out)
          clear hown' hgrow3 hnil3 hown
          go_roundw
          case rel => exact ⟨k + 1, hlt, by go_num, HO.out, hB'⟩
          case measure => simp [intOf]; omega
        · have b2 := and_zero_no (grayN k) G hg hG m2
          have HN' : Hid (stripes (2 * noise) xs ys (k + 1) = stripes (2 * noise) xs ys k) := by show _ = _; rw [HN.out, HM.out, m1]; simp [m2]
          clear HN HM m1 m2
          go_wp2_with (go_at_call 68; ((with_reducible refine (gray_any k (by omega) _).mono ?_); rintro e w1 ⟨rfl, rfl⟩))
          go_roundw
          case rel => exact ⟨k + 1, hlt, by go_num, by rw [HN'.out]; exact hown, hB⟩
          case measure => simp [intOf]; omega
      · have b1 := and_eq_no (grayN k) F hg hF m1
        have HN' : Hid (stripes (2 * noise) xs ys (k + 1) = stripes (2 * noise) xs ys k) := by show _ = _; rw [HN.out, HM.out]; simp [m1]
        clear HN HM m1
        go_wp2_with (go_at_call 68; ((with_reducible refine (gray_any k (by omega) _).mono ?_); rintro e w1 ⟨rfl, rfl⟩))
        go_roundw
        case rel => exact ⟨k + 1, hlt, by go_num, by rw [HN'.out]; exact hown, hB⟩
        case measure => simp [intOf]; omega
    · obtain rfl : k = C := by omega
      obtain ⟨v, e, rfl, hr⟩ := ownsRow_row hown
      have HQ : Hid (Row wr v (stripes (2 * noise) xs ys k).length (iv (stripes (2 * noise) xs ys k))) := hr
      clear hr hown
      go_wp2
      go_ret2
      exact ⟨v, e, rfl, HQ.out, hB⟩
end Go.Proofs.Yticclcimelibdaa
