/-
  Layer 2: the iterator over the pixels of an image.
-/
import Derived.Test.YtihefdlolfpbnaaIPlace
namespace Go.Proofs.Ytihefdlolfpbnaa
open Go.RowKit Go.Shelf
set_option linter.unusedVariables false
set_option linter.unusedSimpArgs false

attribute [local go_sem] Oper.semAt_some

/-- What lies there of an image that is gone through: its box, and of each value what R says. -/
def PixG (Bm b off len c : Nat) (Wd Hd : Int) (R : Nat → Int → Prop) (W : World) : Prop :=
  W.cell? ⟨Bm, 0, none⟩ = some (.int .i64 Wd) ∧ W.cell? ⟨Bm, 1, none⟩ = some (.int .i64 Hd) ∧ W.cell? ⟨Bm, 2, none⟩ = some (.slice (some ⟨b, off, none⟩) len c) ∧ ∀ j, j < len → ∃ z, R j z ∧ W.cell? ⟨b, off + j, none⟩ = some (.int .i64 z)
/-- An element that the iterator hands on: an index below the length, and its value. -/
abbrev Pel (len : Nat) (R : Nat → Int → Prop) := { x : Nat × Int // x.1 < len ∧ R x.1 x.2 }
def pxEnc {len : Nat} {R : Nat → Int → Prop} (Wd : Int) (x : Pel len R) : Array Value := #[.agg #[.int .i64 ((x.1.1 : Int) % Wd), .int .i64 ((x.1.1 : Int) / Wd)], .int .i64 x.1.2]
/-- All of them have come, in order. -/
def PixAll {len : Nat} {R : Nat → Int → Prop} (k : Nat) (xs : List (Pel len R)) : Prop := xs.map (fun x => x.1.1) = List.range k
theorem PixAll.snoc {len : Nat} {R : Nat → Int → Prop} {k : Nat} {xs : List (Pel len R)} (h : PixAll k xs) (x : Pel len R) (hx : x.1.1 = k) : PixAll (k + 1) (xs ++ [x]) := by
  unfold PixAll at *
  rw [List.map_append, h, List.range_succ, List.map_singleton, hx]
theorem PixAll.length {len : Nat} {R : Nat → Int → Prop} {k : Nat} {xs : List (Pel len R)} (h : PixAll k xs) : xs.length = k := by
  have := congrArg List.length h
  simpa using this
theorem PixG.drew {Bm b off len c : Nat} {Wd Hd : Int} {R : Nat → Int → Prop} {W : World} (h : PixG Bm b off len c Wd Hd R W) : PixG Bm b off len c Wd Hd R W.drew := h

/-- The word of a round, in one piece. -/
def Went (J Jx : World → Prop) (g : Bool) (W : World) : Prop := (g = true ∧ J W) ∨ (g = false ∧ Jx W)

theorem small_div (k : Nat) (Wd : Int) (h : 1 ≤ Wd) (hk : (k : Int) ≤ 4096) : IntKind.i64.wrap ((k : Int) / Wd) = (k : Int) / Wd ∧ (k : Int).tmod Wd = (k : Int) % Wd ∧ 0 ≤ (k : Int) / Wd ∧ (k : Int) / Wd ≤ k ∧ 0 ≤ (k : Int) % Wd ∧ (k : Int) % Wd < Wd := by
  have a := Int.ediv_nonneg (show (0 : Int) ≤ k by omega) (show 0 ≤ Wd by omega)
  have b := Int.ediv_le_self Wd (show (0 : Int) ≤ k by omega)
  have c := Int.emod_nonneg (k : Int) (show Wd ≠ 0 by omega)
  have d := Int.emod_lt_of_pos (k : Int) (show 0 < Wd by omega)
  have f : (k : Int) % Wd ≤ k := by
    have := Int.mul_ediv_add_emod (k : Int) Wd
    have := Int.mul_nonneg (show 0 ≤ Wd by omega) a
    omega
  exact ⟨IntWalk.i64_in _ (by omega), Int.tmod_eq_emod_of_nonneg (by omega), a, b, c, d⟩

set_option maxRecDepth 100000 in
set_option maxHeartbeats 2000000 in
theorem pix1_in (n l Bm b off len c : Nat) (Wd Hd : Int) (R : Nat → Int → Prop) (hn : 1 ≤ n) (hW : 1 ≤ Wd) (hlen : len ≤ 4096) (J Jx : List (Pel len R) → World → Prop) (B : Nat)
    (hJ : AbidesFrom B J)
    (hY : ∀ pre x W, J pre W → pre.length < len → YieldAt Fence.wide (n - 1) Try.prog l (pxEnc Wd x) W fun e W' =>
      (e = .returned (.bool true) ∧ J (pre ++ [x]) W' ∧ (PixG Bm b off len c Wd Hd R W → PixG Bm b off len c Wd Hd R W')) ∨ (e = .returned (.bool false) ∧ Jx (pre ++ [x]) W'))
    (W : World) (hG : PixG Bm b off len c Wd Hd R W) (h0 : J [] W) :
    CallsIn Fence.wide n Try.prog 114 #[.func (.yield l) #[] #[], .pointer (some ⟨Bm, 0, none⟩)] W fun e W' => (∃ v, e = .returned v) ∧
      ((∃ xs, PixAll len xs ∧ J xs W') ∨ (∃ pre, True ∧ Jx pre W')) := by
  have HY := Lib.hid hY
  clear hY
  have hmx : Try.prog.follows .mixedOrders = true := by kernel_rfl
  obtain ⟨g0, g1, g2, g3⟩ := hG
  have HG := Lib.hid (⟨g0, g1, g2, g3⟩ : PixG Bm b off len c Wd Hd R W)
  clear g3
  refine callsIn_of_wp Try.func114 rfl trivial ?_ rfl
  simp only [Try.ntmps114, List.size_toArray, List.length_cons, List.length_nil, Nat.reduceAdd, Nat.reduceSub, Array.replicate_succ, Array.replicate_zero, List.push_toArray, List.append_toArray, List.nil_append, List.cons_append]
  gi_wp2
  clear g0 g1 g2
  gi_loopw [8] (fun i wr => ∃ k : Nat, k ≤ len ∧ i = .int .i64 k ∧ ∃ pre, PixAll k pre ∧ J pre wr ∧ Hid (PixG Bm b off len c Wd Hd R wr))
    (fun i _ => len - (intOf i).toNat)
  case atStart => exact ⟨0, Nat.zero_le _, rfl, [], rfl, h0, HG⟩
  case round =>
    obtain ⟨k, hk, rfl, pre, hpre, hJs, HG'⟩ := hrel
    clear HG h0
    by_cases hlt : k < len
    · obtain ⟨c0, c1, c2, c3⟩ := HG'.out
      obtain ⟨z, hz, cz⟩ := c3 k hlt
      clear c3
      obtain ⟨v1, v2, v3, v4, v5, v6⟩ := small_div k Wd hW (by omega)
      have hne : ¬ Wd = 0 := by omega
      have hJd : J pre wr.drew := hJ pre wr wr.drew none hJs ⟨rfl, rfl, rfl, Nat.le_refl _, fun _ _ _ => rfl⟩ (fun r e => by cases e)
      obtain ⟨fn, tmps, assign, body, hy, hR⟩ := HY.out pre ⟨(k, z), hlt, hz⟩ wr.drew hJd (by rw [hpre.length]; exact hlt)
      dsimp only [pxEnc] at hy
      have hR' : RoundIn Fence.wide (n - 1) Try.prog l fn tmps assign body wr.drew (fun e W' => ∃ g, e = .returned (.bool g) ∧ Went (fun W' => J (pre ++ [⟨(k, z), hlt, hz⟩]) W' ∧ Hid (PixG Bm b off len c Wd Hd R W')) (fun W' => Jx (pre ++ [⟨(k, z), hlt, hz⟩]) W') g W') := by
        refine hR.mono ?_
        rintro e W3 (⟨rfl, hJ3, hk3⟩ | ⟨rfl, hJx3⟩)
        · exact ⟨true, rfl, .inl ⟨rfl, hJ3, Lib.hid (hk3 HG'.out.drew)⟩⟩
        · exact ⟨false, rfl, .inr ⟨rfl, hJx3⟩⟩
      clear hR
      gi_wp2
      gi_region_with_o (refine hR'.mono ?_; rintro e W3 ⟨g, rfl, hW3⟩)
      all_goals
        rcases hW3 with ⟨rfl, hJ3, hG3⟩ | ⟨rfl, hJx3⟩
        · gi_wp2
          go_roundw
          case rel => exact ⟨k + 1, by omega, by go_num, _, hpre.snoc _ rfl, hJ3, hG3⟩
          case measure => simp [intOf]; omega
        · gi_wp2
          refine bodyPost_ret (results_none rfl _ _ _) rfl ?_
          exact ⟨⟨_, rfl⟩, .inr ⟨_, trivial, hJx3⟩⟩
    · obtain rfl : k = len := by omega
      gi_wp2
      go_end0
      exact ⟨⟨_, rfl⟩, .inl ⟨pre, hpre, hJs⟩⟩

set_option maxHeartbeats 1000000 in
theorem pixels_any (W H : Int) (a : Option Addr) (n c : Nat) (w : World) :
    Calls Try.prog 70 #[.agg #[.int .i64 W, .int .i64 H, .slice a n c]] w fun e w' => e = .returned (.func (.func 114) #[] #[.pointer (some ⟨w.heap.size, 0, none⟩)]) ∧ w' = w.alloc (.cells #[.int .i64 W, .int .i64 H, .slice a n c] 89) := by
  go_enter Try.func70, Try.ntmps70
  go_wp2
  go_ret
  exact ⟨rfl, rfl⟩

/-- What a loop over the pixels may count on. -/
theorem pix_stops (n Bm b off len c : Nat) (Wd Hd : Int) (R : Nat → Int → Prop) (hn : 1 ≤ n) (hW : 1 ≤ Wd) (hlen : len ≤ 4096) (w : World) (hB : Bm < w.heap.size) (hb : b < w.heap.size) (hG : PixG Bm b off len c Wd Hd R w) :
    SeqStopsK Fence.wide n Try.prog 114 #[.pointer (some ⟨Bm, 0, none⟩)] (pxEnc (len := len) (R := R) Wd) (fun A C => PixG Bm b off len c Wd Hd R A → PixG Bm b off len c Wd Hd R C) (PixAll len) (fun _ => True) len w := fun l J Jx W hW' hJ _ hY h0 => by
  have hG' : PixG Bm b off len c Wd Hd R W := by
    obtain ⟨g0, g1, g2, g3⟩ := hG
    exact ⟨cell_later hW' g0, cell_later hW' g1, cell_later hW' g2, fun j hj => by obtain ⟨z, hz, cz⟩ := g3 j hj; exact ⟨z, hz, cell_later hW' cz⟩⟩
  exact pix1_in n l Bm b off len c Wd Hd R hn hW hlen J Jx _ hJ hY W hG' h0
end Go.Proofs.Ytihefdlolfpbnaa
