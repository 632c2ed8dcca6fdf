/-
  Layer 2: an image whose values are changed.
-/
import Derived.Test.YtihefdlolfpbnaaITwin
namespace Go.Proofs.Ytihefdlolfpbnaa
open Go.RowKit
set_option linter.unusedVariables false
set_option linter.unusedSimpArgs false

theorem Blk.but {w w' : World} {b : Nat} {c : Array Value} {t : TypeId} {row : Option Nat} (hg : w.grownBy w' row) (hne : ∀ g, row = some g → b ≠ g) (h : Blk w b c t) : Blk w' b c t :=
  (hg.block b h.lt (fun e => hne b e.symm rfl)).trans h
theorem Blk.ne {w : World} {b g : Nat} {c c' : Array Value} {t t' : TypeId} (h : Blk w b c t) (k : Blk w g c' t') (hne : t ≠ t') : b ≠ g := by
  rintro rfl
  have : w.heap[b]? = some (.cells c t (0, 0)) := h
  have k' : w.heap[b]? = some (.cells c' t' (0, 0)) := k
  rw [this] at k'
  cases k'
  exact hne rfl
/-- Only that block may have changed. -/
theorem grownBy_set {w wr : World} {g : Nat} (h : w.grownBy wr (some g)) (i : Nat) (v : Value) : w.grownBy (wr.setCell ⟨g, i, none⟩ v) (some g) :=
  ⟨h.os, h.tape, h.output, by have := h.size; simpa [World.setCell] using this, fun k hk hne => (Below.heap_setCell wr ⟨g, i, none⟩ v k (fun e => hne (by rw [e]))).trans (h.block k hk hne)⟩
set_option maxRecDepth 100000 in
set_option maxHeartbeats 2000000 in
theorem spoil_any (W H : Int) (B : Nat) (a : Option Addr) (n c : Nat) (zs : List Int) (w : World) (hN : New B w a n zs) (hn : n ≤ maxLen) :
    Calls Try.prog 36 #[.agg #[.int .i64 W, .int .i64 H, .slice a n c]] w fun e w' => e = .returned (.tuple #[]) ∧ w.grownBy w' (a.map (·.block)) := by
  obtain ⟨hl, hN⟩ := hN
  unfold maxLen at hn
  rcases hN with ⟨rfl, rfl⟩ | ⟨g, rfl, hB, kg⟩
  · go_enter Try.func36, Try.ntmps36
    go_wp2
    go_loop [2] (fun i => i = .int .i64 0) (fun _ => 0)
    case atStart => rfl
    case round =>
      obtain rfl := hrel
      go_wp2
      go_end0
      exact ⟨rfl, World.grownBy_alloc w _ _⟩
  · have hg := kg.lt
    have kg0 : Blk (w.alloc (.cells #[.int .i64 W, .int .i64 H, .slice (some ⟨g, 0, none⟩) n c] 24)) g (ints zs) 3 := kg.alloc
    have k00 : Blk (w.alloc (.cells #[.int .i64 W, .int .i64 H, .slice (some ⟨g, 0, none⟩) n c] 24)) w.heap.size #[.int .i64 W, .int .i64 H, .slice (some ⟨g, 0, none⟩) n c] 24 := Blk.new rfl
    go_enter Try.func36, Try.ntmps36
    go_wp2
    go_loopw [2] (fun i wr => ∃ k : Nat, k ≤ n ∧ i = .int .i64 k ∧ (∃ ys : List Int, ys.length = n ∧ Blk wr g (ints ys) 3) ∧ Blk wr w.heap.size #[.int .i64 W, .int .i64 H, .slice (some ⟨g, 0, none⟩) n c] 24 ∧ w.grownBy wr (some g)) (fun i _ => n - (intOf i).toNat)
    case atStart => exact ⟨0, Nat.zero_le _, rfl, ⟨zs, hl, kg0⟩, k00, World.grownBy_alloc w _ _⟩
    case round =>
      clear kg0 k00
      obtain ⟨k, hk, rfl, ⟨ys, hy, k1⟩, k0, hG⟩ := hrel
      obtain ⟨a0, b0⟩ := k0.read; obtain ⟨a1, b1⟩ := k1.read
      by_cases hlt : k < n
      · obtain ⟨z, hz⟩ : ∃ z, (ints ys)[k]? = some (.int .i64 z) := ⟨ys[k]'(by omega), by rw [ints_get, List.getElem?_eq_getElem (by omega)]; rfl⟩
        have HY := Lib.hid hy
        have p0 : (0 : Int) ≤ (k : Int) := by omega
        have p1 : (k : Int) < (n : Int) := by omega
        have hne : w.heap.size ≠ g := by omega
        clear hy
        go_wp2
        go_roundw
        case rel =>
          refine ⟨k + 1, hlt, by go_num, ⟨ys.set k ?v, ?hl, ?hb⟩, Blk.other k0 hne, grownBy_set hG _ _⟩
          case hb => rw [← ints_set]; exact Blk.set k1
          case hl => rw [List.length_set]; exact HY.out
        case measure => simp [intOf]; omega
      · go_wp2
        go_end0
        exact ⟨rfl, hG⟩
end Go.Proofs.Ytihefdlolfpbnaa
