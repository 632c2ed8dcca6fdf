/-
  Layer 9: Match, by the code.
-/
import Derived.Deep.OwnRows
import Derived.Laws.EntriesVeiled
import Derived.Test.YtnkpejinnbiocaaVAst
namespace Go.Proofs.Ytnkpejinnbiocaa
open Go.RowKit Go.Shelf
set_option linter.unusedVariables false
set_option linter.unusedSimpArgs false


section
variable (s p g l : Int) (a1 a2 : Option Addr) (n m c1 c2 : Nat) (zs us : List Int) (BS BA BC BF BB BX gC B2 : Nat) (w0 : World)
theorem assign_any (hw0 : w0.heap.size ≤ B2) (hltS : BS < B2) (hltH : BC < B2) (hltF : BF < B2) (hltB : BB < B2) (hltX : BX < B2) (hltA : BA < B2) (hltC : gC < B2) (hA : w0.heap.size ≤ BA) (hG : w0.heap.size ≤ gC) (hm : m ≤ 10) (hn : n ≤ 10) (hs : 1 ≤ s ∧ s ≤ 1000) (hp : 0 ≤ p ∧ p ≤ s - 1) (hzs : ∀ z ∈ zs, 0 ≤ z ∧ z ≤ 1099511627776) (hus : ∀ z ∈ us, 0 ≤ z ∧ z ≤ 1099511627776) (hR1 : Row w0 a1 n (iv zs)) (hR2 : Row w0 a2 m (iv us)) (k part fr : Nat) (x : List Int) (L : List (List Int)) (w : World) (hk : part + k = m) (hfr : fr ≤ n) (hpf : part = 0 ∨ 0 < fr) (hx : x.length = part) (hlen : L.length + (asgB s p zs us n k x part fr).length < 1099511627776) (hS : StM s p g l a1 a2 n m c1 c2 BS BA BC BF BB BX gC B2 w0 x L w) :
    Calls Try.prog 49 #[.int .i64 (part : Int), .int .i64 (fr : Int), .pointer (some ⟨BS, 0, none⟩), .pointer (some ⟨BA, 0, none⟩), .pointer (some ⟨BC, 0, none⟩), .pointer (some ⟨BF, 0, none⟩), .pointer (some ⟨BB, 0, none⟩), .pointer (some ⟨BX, 0, none⟩)] w fun e w' => e = .returned (.tuple #[]) ∧ StM s p g l a1 a2 n m c1 c2 BS BA BC BF BB BX gC B2 w0 x (L ++ asgB s p zs us n k x part fr) w' := by
  induction k generalizing part fr x L w with
  | zero =>
    obtain rfl : part = m := by omega
    have h1 : (asgB s p zs us n 0 x part fr).length = 1 := rfl
    exact assign_base s p g l a1 a2 n part c1 c2 BS BA BC BF BB BX gC B2 w0 hw0 hltS hltH hltF hltB hltX hltA hltC ⟨hA, hltA⟩ ⟨hG, hltC⟩ hm fr x L w hx (by omega) hS
  | succ k ih =>
    have IH : Hid (∀ (i : Nat) (x' : List Int) (L' : List (List Int)) (W : World), i < n → x'.length = part + 1 → L'.length + (asgB s p zs us n k x' (part + 1) (i + 1)).length < 1099511627776 → StM s p g l a1 a2 n m c1 c2 BS BA BC BF BB BX gC B2 w0 x' L' W → Calls Try.prog 49 #[.int .i64 ((part : Int) + 1), .int .i64 ((i : Int) + 1), .pointer (some ⟨BS, 0, none⟩), .pointer (some ⟨BA, 0, none⟩), .pointer (some ⟨BC, 0, none⟩), .pointer (some ⟨BF, 0, none⟩), .pointer (some ⟨BB, 0, none⟩), .pointer (some ⟨BX, 0, none⟩)] W fun e w' => e = .returned (.tuple #[]) ∧ StM s p g l a1 a2 n m c1 c2 BS BA BC BF BB BX gC B2 w0 x' (L' ++ asgB s p zs us n k x' (part + 1) (i + 1)) w') := fun i x' L' W hi hx' hl' hS' => by
      have := ih (part + 1) (i + 1) x' L' W (by omega) (by omega) (.inr (by omega)) hx' hl' hS'
      rw [show ((part + 1 : Nat) : Int) = (part : Int) + 1 by omega, show ((i + 1 : Nat) : Int) = (i : Int) + 1 by omega] at this
      exact this
    rcases Nat.eq_zero_or_pos part with h0 | h0
    · exact assign_zero s p g l a1 a2 n m c1 c2 zs us BS BA BC BF BB BX gC B2 w0 hw0 hltS hltH hltF hltB hltX hltA hltC hA hG hm hn k part fr h0 x L w hfr (by omega) hx hlen hS IH
    · have hf : 0 < fr := by rcases hpf with h | h <;> omega
      exact assign_pos s p g l a1 a2 n m c1 c2 zs us BS BA BC BF BB BX gC B2 w0 hw0 hltS hltH hltF hltB hltX hltA hltC hA hG hm hn hs hp hzs hus hR1 hR2 k part fr (part - 1) (fr - 1) (by omega) (by omega) x L w hfr (by omega) hx hlen hS IH
end
theorem asgB_len (s p : Int) (zs us : List Int) (n k : Nat) (x : List Int) (part fr : Nat) : (asgB s p zs us n k x part fr).length ≤ (n + 1) ^ k := by
  induction k generalizing x part fr with
  | zero => exact Nat.le_refl _
  | succ k ih =>
    have h : ∀ (f : Nat → List (List Int)) (B : Nat), (∀ i, (f i).length ≤ B) → ∀ (a c : Nat), ((List.range' a c).flatMap f).length ≤ c * B := by
      intro f B hB a c
      induction c generalizing a with
      | zero => simp
      | succ c ih2 =>
        rw [List.range'_succ, List.flatMap_cons, List.length_append, Nat.add_mul]
        have := ih2 (a + 1)
        have := hB a
        omega
    have q := h (fun i => if okI s p zs us part fr i then asgB s p zs us n k (x ++ [(i : Int)]) (part + 1) (i + 1) else []) ((n + 1) ^ k) (fun i => by
      show (if okI s p zs us part fr i then asgB s p zs us n k (x ++ [(i : Int)]) (part + 1) (i + 1) else []).length ≤ _
      split
      · exact ih _ _ _
      · exact Nat.zero_le _) fr (n - fr)
    refine Nat.le_trans q ?_
    rw [Nat.pow_succ, Nat.mul_comm]
    exact Nat.mul_le_mul_left _ (by omega)
theorem made_intsM (N : Nat) : madeCells #[.int .i64 0] N = ints (List.replicate N 0) := by
  unfold madeCells ints
  apply Array.ext
  · simp
  · intro i h1 h2
    simp [Nat.mod_one]
theorem run_make_intsM (N : Nat) (h : N ≤ 1099511627776) (w : World) : (Instr.makeSlice 56 (.int .i64 (N : Int)) (.int .i64 (N : Int))).run Try.prog w = .ok (.slice (some ⟨w.heap.size, 0, none⟩) N N) (w.alloc (.cells (ints (List.replicate N 0)) 3)) := by
  rw [← made_intsM]
  exact run_make_row' 56 3 (.int .i64 0) 8 Try.underlying56 (by kernel_rfl) rfl .i64 .i64 N (by omega) (by omega) w

set_option maxRecDepth 100000 in
set_option maxHeartbeats 16000000 in
theorem match_bad (s p g l : Int) (a1 a2 : Option Addr) (n m c1 c2 : Nat) (E : Int) (hE : (E != 0) = true) (w : World) (HC : Hid (∀ w, Calls Try.prog 30 #[.agg #[.int .i64 s, .int .i64 p, .int .i64 g, .int .i64 l]] w fun e w' => e = .returned (.int .i64 E) ∧ Below w.heap.size w w')) :
    Calls Try.prog 22 #[.agg #[.int .i64 s, .int .i64 p, .int .i64 g, .int .i64 l], .slice a1 n c1, .slice a2 m c2] w fun e w' => e = .returned (.tuple #[.slice none 0 0, .int .i64 E]) ∧ Below w.heap.size w w' := by
  go_enter Try.func22, Try.ntmps22
  go_wp2_with (go_at_call 30; ((with_reducible refine (HC.out _).mono ?_); rintro e w1 ⟨rfl, hb⟩))
  go_ret2
  exact ⟨rfl, by (repeat' (first | (with_reducible exact Below.refl _ _) | (with_reducible assumption) | (with_reducible refine belowThru ?_ (by assumption)) | (with_reducible refine belowAlloc ?_) | (with_reducible refine Below.setCell ?_ (by first | omega | (simp; done) | (simp; omega)) _) | (with_reducible refine Below.drew ?_) | (with_reducible refine below_drewN ?_ _)))⟩
set_option maxRecDepth 100000 in
set_option maxHeartbeats 16000000 in
theorem match_many (s p g l : Int) (a1 a2 : Option Addr) (n m c1 c2 : Nat) (w : World) (hl : 10 < n ∨ 10 < m) (hn : n ≤ maxLen) (hm : m ≤ maxLen) (HC : Hid (∀ w, Calls Try.prog 30 #[.agg #[.int .i64 s, .int .i64 p, .int .i64 g, .int .i64 l]] w fun e w' => e = .returned (.int .i64 0) ∧ Below w.heap.size w w')) :
    Calls Try.prog 22 #[.agg #[.int .i64 s, .int .i64 p, .int .i64 g, .int .i64 l], .slice a1 n c1, .slice a2 m c2] w fun e w' => e = .returned (.tuple #[.slice none 0 0, .int .i64 4]) ∧ Below w.heap.size w w' := by
  unfold maxLen at hn hm
  rcases Nat.lt_or_ge n m with ho | ho
  · have o1 : (n : Int) ≤ (m : Int) := by omega
    have o2 : (n : Int) < (m : Int) := by omega
    have d1 : decide ((10 : Int) < (m : Int)) = true := decide_eq_true (by omega)
    clear hl ho
    go_enter Try.func22, Try.ntmps22
    go_wp2_with fail
    refine (HC.out _).mono ?_
    rintro e w1 ⟨rfl, hb⟩
    have kB : Blk w1 w.heap.size #[.int .i64 s, .int .i64 p, .int .i64 g, .int .i64 l] 23 := Blk.later hb (Blk.alloc (Blk.alloc (Blk.new rfl)))
    have kF : Blk w1 (w.heap.size + 1) #[.slice a1 n c1] 56 := Blk.later hb (Blk.alloc (Blk.new (by simp)))
    have kS : Blk w1 (w.heap.size + 1 + 1) #[.slice a2 m c2] 56 := Blk.later hb (Blk.new (by simp))
    have hB : Below w.heap.size w w1 := belowThru (belowAlloc (belowAlloc (belowAlloc (Below.refl _ _)))) hb
    clear hb
    obtain ⟨aS, bS⟩ := kS.read; obtain ⟨aF, bF⟩ := kF.read; have yS := kS.lt; have yF := kF.lt
    go_wp2_with fail
    go_ret2
    exact ⟨rfl, by (repeat' (first | (with_reducible exact Below.refl _ _) | (with_reducible assumption) | (with_reducible refine belowThru ?_ (by assumption)) | (with_reducible refine belowAlloc ?_) | (with_reducible refine Below.setCell ?_ (by first | omega | (simp; done) | (simp; omega)) _) | (with_reducible refine Below.drew ?_) | (with_reducible refine below_drewN ?_ _)))⟩
  · have o1 : (m : Int) ≤ (n : Int) := by omega
    have o2 : ¬ (n : Int) < (m : Int) := by omega
    have d1 : decide ((10 : Int) < (n : Int)) = true := decide_eq_true (by omega)
    clear hl ho
    go_enter Try.func22, Try.ntmps22
    go_wp2_with fail
    refine (HC.out _).mono ?_
    rintro e w1 ⟨rfl, hb⟩
    have kB : Blk w1 w.heap.size #[.int .i64 s, .int .i64 p, .int .i64 g, .int .i64 l] 23 := Blk.later hb (Blk.alloc (Blk.alloc (Blk.new rfl)))
    have kF : Blk w1 (w.heap.size + 1) #[.slice a1 n c1] 56 := Blk.later hb (Blk.alloc (Blk.new (by simp)))
    have kS : Blk w1 (w.heap.size + 1 + 1) #[.slice a2 m c2] 56 := Blk.later hb (Blk.new (by simp))
    have hB : Below w.heap.size w w1 := belowThru (belowAlloc (belowAlloc (belowAlloc (Below.refl _ _)))) hb
    clear hb
    obtain ⟨aS, bS⟩ := kS.read; obtain ⟨aF, bF⟩ := kF.read; have yS := kS.lt; have yF := kF.lt
    go_wp2_with fail
    go_ret2
    exact ⟨rfl, by (repeat' (first | (with_reducible exact Below.refl _ _) | (with_reducible assumption) | (with_reducible refine belowThru ?_ (by assumption)) | (with_reducible refine belowAlloc ?_) | (with_reducible refine Below.setCell ?_ (by first | omega | (simp; done) | (simp; omega)) _) | (with_reducible refine Below.drew ?_) | (with_reducible refine below_drewN ?_ _)))⟩
set_option maxRecDepth 100000 in
set_option maxHeartbeats 16000000 in
theorem match_arg (s p g l : Int) (a1 a2 : Option Addr) (n m c1 c2 : Nat) (zs us : List Int) (b1 b2 : Bool) (ho : (n : Int) < (m : Int) ∨ (m : Int) ≤ (n : Int)) (hb12 : b1 = false ∨ b1 = true ∧ b2 = false) (w : World) (hn : n ≤ 10) (hm : m ≤ 10) (hR1 : Row w a1 n (iv zs)) (hR2 : Row w a2 m (iv us)) (HC : Hid (∀ w, Calls Try.prog 30 #[.agg #[.int .i64 s, .int .i64 p, .int .i64 g, .int .i64 l]] w fun e w' => e = .returned (.int .i64 0) ∧ Below w.heap.size w w')) (H1 : Hid (∀ w, Row w a1 n (iv zs) → Calls Try.prog 48 #[.slice a1 n c1] w fun e w' => e = .returned (.bool b1) ∧ Below w.heap.size w w')) (H2 : Hid (∀ w, Row w a2 m (iv us) → Calls Try.prog 48 #[.slice a2 m c2] w fun e w' => e = .returned (.bool b2) ∧ Below w.heap.size w w')) :
    Calls Try.prog 22 #[.agg #[.int .i64 s, .int .i64 p, .int .i64 g, .int .i64 l], .slice a1 n c1, .slice a2 m c2] w fun e w' => e = .returned (.tuple #[.slice none 0 0, .int .i64 2]) ∧ Below w.heap.size w w' := by
  have HR1 := Lib.hid hR1; have HR2 := Lib.hid hR2
  clear hR1 hR2
  have d1 : decide ((10 : Int) < (n : Int)) = false := decide_eq_false (by omega)
  have d2 : decide ((10 : Int) < (m : Int)) = false := decide_eq_false (by omega)
  rcases hb12 with rfl | ⟨rfl, rfl⟩
  · clear H2
    rcases ho with ho | ho
    all_goals
      go_enter Try.func22, Try.ntmps22
      go_wp2_with fail
      refine (HC.out _).mono ?_
      rintro e w1 ⟨rfl, hb⟩
      have kB : Blk w1 w.heap.size #[.int .i64 s, .int .i64 p, .int .i64 g, .int .i64 l] 23 := Blk.later hb (Blk.alloc (Blk.alloc (Blk.new rfl)))
      have kF : Blk w1 (w.heap.size + 1) #[.slice a1 n c1] 56 := Blk.later hb (Blk.alloc (Blk.new (by simp)))
      have kS : Blk w1 (w.heap.size + 1 + 1) #[.slice a2 m c2] 56 := Blk.later hb (Blk.new (by simp))
      have hB : Below w.heap.size w w1 := belowThru (belowAlloc (belowAlloc (belowAlloc (Below.refl _ _)))) hb
      clear hb
      obtain ⟨aS, bS⟩ := kS.read; obtain ⟨aF, bF⟩ := kF.read; have yS := kS.lt; have yF := kF.lt
      go_wp2_with fail
      refine (H1.out _ (HR1.out.later hB)).mono ?_
      rintro e w2 ⟨rfl, hb⟩
      go_wp2_with fail
      go_ret2
      exact ⟨rfl, by (repeat' (first | (with_reducible exact Below.refl _ _) | (with_reducible assumption) | (with_reducible refine belowThru ?_ (by assumption)) | (with_reducible refine belowAlloc ?_) | (with_reducible refine Below.setCell ?_ (by first | omega | (simp; done) | (simp; omega)) _) | (with_reducible refine Below.drew ?_) | (with_reducible refine below_drewN ?_ _)))⟩
  · rcases ho with ho | ho
    all_goals
      go_enter Try.func22, Try.ntmps22
      go_wp2_with fail
      refine (HC.out _).mono ?_
      rintro e w1 ⟨rfl, hb⟩
      have kB : Blk w1 w.heap.size #[.int .i64 s, .int .i64 p, .int .i64 g, .int .i64 l] 23 := Blk.later hb (Blk.alloc (Blk.alloc (Blk.new rfl)))
      have kF : Blk w1 (w.heap.size + 1) #[.slice a1 n c1] 56 := Blk.later hb (Blk.alloc (Blk.new (by simp)))
      have kS : Blk w1 (w.heap.size + 1 + 1) #[.slice a2 m c2] 56 := Blk.later hb (Blk.new (by simp))
      have hB : Below w.heap.size w w1 := belowThru (belowAlloc (belowAlloc (belowAlloc (Below.refl _ _)))) hb
      clear hb
      obtain ⟨aS, bS⟩ := kS.read; obtain ⟨aF, bF⟩ := kF.read; have yS := kS.lt; have yF := kF.lt
      go_wp2_with fail
      refine (H1.out _ (HR1.out.later hB)).mono ?_
      rintro e w2 ⟨rfl, hb⟩
      replace kS := Blk.later hb kS; replace kF := Blk.later hb kF; replace hB := belowThru hB hb
      clear aS bS aF bF yS yF hb
      obtain ⟨aS, bS⟩ := kS.read; obtain ⟨aF, bF⟩ := kF.read; have yS := kS.lt; have yF := kF.lt
      go_wp2_with fail
      refine (H2.out _ (HR2.out.later hB)).mono ?_
      rintro e w3 ⟨rfl, hb⟩
      go_wp2_with fail
      go_ret2
      exact ⟨rfl, by (repeat' (first | (with_reducible exact Below.refl _ _) | (with_reducible assumption) | (with_reducible refine belowThru ?_ (by assumption)) | (with_reducible refine belowAlloc ?_) | (with_reducible refine Below.setCell ?_ (by first | omega | (simp; done) | (simp; omega)) _) | (with_reducible refine Below.drew ?_) | (with_reducible refine below_drewN ?_ _)))⟩

theorem AllR.mono {B C : Nat} (hC : C ≤ B) {w : World} {v : Value} {L : List (List Int)} (h : AllR B w v L) : AllR C w v L := by
  obtain ⟨hs, h1, h2, h3⟩ := h
  exact ⟨hs, h1.mono hC, h2, fun i h y hi hy => (h3 i h y hi hy).mono hC⟩
set_option maxRecDepth 100000 in
set_option maxHeartbeats 16000000 in
theorem match_walk (s p g l : Int) (a1 a2 : Option Addr) (n m c1 c2 : Nat) (zs us : List Int) (L : List (List Int)) (nL E : Int) (ho : (n : Int) < (m : Int) ∨ (m : Int) ≤ (n : Int)) (w : World) (hn : n ≤ 10) (hm : m ≤ 10) (hR1 : Row w a1 n (iv zs)) (hR2 : Row w a2 m (iv us)) (hs : 1 ≤ s ∧ s ≤ 1000) (hp : 0 ≤ p ∧ p ≤ s - 1) (hzs : ∀ z ∈ zs, 0 ≤ z ∧ z ≤ 1099511627776) (hus : ∀ z ∈ us, 0 ≤ z ∧ z ≤ 1099511627776) (hL : asgB s p zs us n m [] 0 0 = L) (HC : Hid (∀ w, Calls Try.prog 30 #[.agg #[.int .i64 s, .int .i64 p, .int .i64 g, .int .i64 l]] w fun e w' => e = .returned (.int .i64 0) ∧ Below w.heap.size w w')) (H1 : Hid (∀ w, Row w a1 n (iv zs) → Calls Try.prog 48 #[.slice a1 n c1] w fun e w' => e = .returned (.bool true) ∧ Below w.heap.size w w')) (H2 : Hid (∀ w, Row w a2 m (iv us) → Calls Try.prog 48 #[.slice a2 m c2] w fun e w' => e = .returned (.bool true) ∧ Below w.heap.size w w')) :
    Calls Try.prog 22 #[.agg #[.int .i64 s, .int .i64 p, .int .i64 g, .int .i64 l], .slice a1 n c1, .slice a2 m c2] w fun e w' => (∃ av cv, (L = [] ∧ e = .returned (.tuple #[.slice none 0 0, .int .i64 6]) ∨ 0 < L.length ∧ e = .returned (.tuple #[.slice av L.length cv, .int .i64 0])) ∧ AllR w.heap.size w' (.slice av L.length cv) L) ∧ Below w.heap.size w w' := by
  have HR1 := Lib.hid hR1; have HR2 := Lib.hid hR2
  have HAS : Hid (∀ (BS BA BC BF BB BX gC B2 : Nat), w.heap.size ≤ B2 → BS < B2 → BC < B2 → BF < B2 → BB < B2 → BX < B2 → BA < B2 → gC < B2 → w.heap.size ≤ BA → w.heap.size ≤ gC → ∀ W, StM s p g l a1 a2 n m c1 c2 BS BA BC BF BB BX gC B2 w [] [] W → Calls Try.prog 49 #[.int .i64 0, .int .i64 0, .pointer (some ⟨BS, 0, none⟩), .pointer (some ⟨BA, 0, none⟩), .pointer (some ⟨BC, 0, none⟩), .pointer (some ⟨BF, 0, none⟩), .pointer (some ⟨BB, 0, none⟩), .pointer (some ⟨BX, 0, none⟩)] W fun e w' => e = .returned (.tuple #[]) ∧ StM s p g l a1 a2 n m c1 c2 BS BA BC BF BB BX gC B2 w [] L w') := fun BS BA BC BF BB BX gC B2 h0 h1 h2 h3 h4 h5 h6 h7 h8 h9 W hS => by
    have hb : ([] : List (List Int)).length + (asgB s p zs us n m [] 0 0).length < 1099511627776 := by
      have q := asgB_len s p zs us n m [] 0 0
      have q2 : (n + 1) ^ m ≤ 11 ^ 10 := Nat.le_trans (Nat.pow_le_pow_left (by omega) m) (Nat.pow_le_pow_right (by omega) hm)
      have q3 : 11 ^ 10 = 25937424601 := by decide
      simp only [List.length_nil]
      omega
    have q := assign_any s p g l a1 a2 n m c1 c2 zs us BS BA BC BF BB BX gC B2 w h0 h1 h2 h3 h4 h5 h6 h7 h8 h9 hm hn hs hp hzs hus hR1 hR2 m 0 0 [] [] W (by omega) (by omega) (.inl rfl) rfl hb hS
    rw [hL, List.nil_append] at q
    exact q
  have d1 : decide ((10 : Int) < (n : Int)) = false := decide_eq_false (by omega)
  have d2 : decide ((10 : Int) < (m : Int)) = false := decide_eq_false (by omega)
  have hmk := run_make_intsM m (by omega)
  clear hR1 hR2 hzs hus hL hs hp
  rcases ho with ho | ho
  all_goals
    go_enter Try.func22, Try.ntmps22
    go_wp2_with fail
    refine (HC.out _).mono ?_
    rintro e w1 ⟨rfl, hb⟩
    have kB : Blk w1 w.heap.size #[.int .i64 s, .int .i64 p, .int .i64 g, .int .i64 l] 23 := Blk.later hb (Blk.alloc (Blk.alloc (Blk.new rfl)))
    have kF : Blk w1 (w.heap.size + 1) #[.slice a1 n c1] 56 := Blk.later hb (Blk.alloc (Blk.new (by simp)))
    have kS : Blk w1 (w.heap.size + 1 + 1) #[.slice a2 m c2] 56 := Blk.later hb (Blk.new (by simp))
    have hB : Below w.heap.size w w1 := belowThru (belowAlloc (belowAlloc (belowAlloc (Below.refl _ _)))) hb
    clear hb
    obtain ⟨aS, bS⟩ := kS.read; obtain ⟨aF, bF⟩ := kF.read; have yS := kS.lt; have yF := kF.lt
    go_wp2_with fail
    refine (H1.out _ (HR1.out.later hB)).mono ?_
    rintro e w2 ⟨rfl, hb⟩
    replace kS := Blk.later hb kS; replace kF := Blk.later hb kF; replace kB := Blk.later hb kB; replace hB := belowThru hB hb
    clear aS bS aF bF yS yF hb
    obtain ⟨aS, bS⟩ := kS.read; obtain ⟨aF, bF⟩ := kF.read; have yS := kS.lt; have yF := kF.lt
    go_wp2_with fail
    refine (H2.out _ (HR2.out.later hB)).mono ?_
    rintro e w3 ⟨rfl, hb⟩
    replace kS := Blk.later hb kS; replace kF := Blk.later hb kF; replace kB := Blk.later hb kB; replace hB := belowThru hB hb
    clear aS bS aF bF yS yF hb
    obtain ⟨aS, bS⟩ := kS.read; obtain ⟨aF, bF⟩ := kF.read; have yS := kS.lt; have yF := kF.lt; have yB := kB.lt
    go_wp2_with fail
    clear hmk
    obtain ⟨W0, hW0⟩ : ∃ W, (((w3.alloc (.cells #[.slice none 0 0] 57)).alloc (.cells (ints (List.replicate m 0)) 3)).alloc (.cells #[.slice (some ⟨w3.heap.size + 1, 0, none⟩) m m] 56)).alloc (.cells #[.func (.func 49) #[] #[.pointer (some ⟨w.heap.size + 1 + 1, 0, none⟩), .pointer (some ⟨w3.heap.size, 0, none⟩), .pointer (some ⟨w3.heap.size + 1 + 1, 0, none⟩), .pointer (some ⟨w.heap.size + 1, 0, none⟩), .pointer (some ⟨w.heap.size, 0, none⟩), .pointer (some ⟨w3.heap.size + 1 + 1 + 1, 0, none⟩)]] 95) = W := ⟨_, rfl⟩
    have hsz : W0.heap.size = w3.heap.size + 1 + 1 + 1 + 1 := by rw [← hW0]; simp
    have hS0 : StM s p g l a1 a2 n m c1 c2 (w.heap.size + 1 + 1) w3.heap.size (w3.heap.size + 1 + 1) (w.heap.size + 1) w.heap.size (w3.heap.size + 1 + 1 + 1) (w3.heap.size + 1) (w3.heap.size + 1 + 1 + 1 + 1) w [] [] W0 := by
      refine ⟨none, 0, List.replicate m 0, ?_, ?_, ⟨List.length_replicate, rfl⟩, AllR.nil _ _, ?_, ?_, ?_, ?_, ?_, ?_, by rw [hsz]; exact Nat.le_refl _⟩
      · rw [← hW0]; exact (((Blk.new rfl).alloc).alloc).alloc
      · rw [← hW0]; exact ((Blk.new (by simp)).alloc).alloc
      · rw [← hW0]; exact kS.alloc.alloc.alloc.alloc
      · rw [← hW0]; exact (Blk.new (by simp)).alloc
      · rw [← hW0]; exact kF.alloc.alloc.alloc.alloc
      · rw [← hW0]; exact kB.alloc.alloc.alloc.alloc
      · rw [← hW0]; exact Blk.new (by simp)
      · rw [← hW0]; exact belowAlloc (belowAlloc (belowAlloc (belowAlloc hB)))
    have hsz3 := hB.size
    rw [hW0]
    clear hW0 kS kF kB aS bS aF bF hB hsz
    refine (HAS.out _ _ _ _ _ _ _ _ (by omega) (by omega) (by omega) (by omega) (by omega) (by omega) (by omega) (by omega) (by omega) (by omega) W0 hS0).mono ?_
    rintro e W1 ⟨rfl, av, cv, cs, kA, -, -, hAll, -, -, -, -, -, hB, -⟩
    obtain ⟨aA, bA⟩ := kA.read; have yA := kA.lt
    have HAL : Hid (AllR w.heap.size W1 (.slice av L.length cv) L) := hAll.mono (by omega)
    obtain ⟨nl, hnl⟩ : ∃ nl, L.length = nl := ⟨_, rfl⟩
    have HNL := Lib.hid hnl
    rw [hnl] at kA aA HAL
    clear hAll hS0 hnl
    rcases Nat.eq_zero_or_pos nl with hz | hz
    · subst hz
      have hL0 : L = [] := List.eq_nil_of_length_eq_zero HNL.out
      have HL0 := Lib.hid hL0
      clear hL0
      go_wp2_with fail
      go_ret2
      exact ⟨⟨av, cv, .inl ⟨HL0.out, rfl⟩, by rw [HNL.out]; exact HAL.out⟩, hB⟩
    · have dz : ((nl : Int) == 0) = false := by simp; omega
      have HZ := Lib.hid hz
      clear hz
      go_wp2_with fail
      go_ret2
      exact ⟨⟨av, cv, .inr ⟨by rw [HNL.out]; exact HZ.out, by rw [HNL.out]; rfl⟩, by rw [HNL.out]; exact HAL.out⟩, hB⟩
end Go.Proofs.Ytnkpejinnbiocaa
