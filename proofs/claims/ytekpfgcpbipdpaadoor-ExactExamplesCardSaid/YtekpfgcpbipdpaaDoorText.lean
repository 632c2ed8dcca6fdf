/-
  Layer 1: texts of fractions; whole numbers next to them.
-/
import Derived.Test.YtekpfgcpbipdpaaDoorRoot
import Derived.Lib.LaidTab
import Derived.Laws.Concat
namespace Go.Proofs.YtekpfgcpbipdpaaDoor
open Go.RowKit

/-- The table of the powers of ten holds them. -/
def Tab (w : World) : Prop := Lib.TabIs Tryd.prog w "internal/strconv.uint64pow10" .u64 Lib.pow10Tab
theorem tabG : Tryd.prog.globalNamed "internal/strconv.uint64pow10" = some 5 := by kernel_rfl
theorem Tab.of {w w' : World} (hb : Below w.heap.size w w') (h : Tab w) : Tab w' := by
  have hlt : 5 < w.heap.size := by
    unfold Tab Lib.TabIs World.var? at h
    rw [tabG] at h
    simp only [Option.bind_some] at h
    rcases Nat.lt_or_ge 5 w.heap.size with h' | h'
    · exact h'
    · rw [Array.getElem?_eq_none h'] at h; cases h
  exact var?_below hb tabG hlt h

/-- A number in decimal. -/
def itoaB (n : Int) : ByteArray := ⟨(Lib.itoa n).toArray⟩
theorem dec_len (k : Nat) : ∀ u : Nat, u < 10 ^ (k + 1) → (Lib.decDigits u).length ≤ k + 1 := by
  induction k with
  | zero => intro u hu; rw [Lib.decDigits, dif_pos (by simpa using hu)]; simp
  | succ k ih =>
    intro u hu
    rw [Lib.decDigits]
    split
    · simp
    · have := ih (u / 10) (by rw [Nat.pow_succ] at hu; omega)
      simp; omega
theorem itoaB_size (n : Int) (h0 : -9223372036854775808 ≤ n) (h1 : n ≤ 9223372036854775807) : ((itoaB n).size : Int) ≤ 20 := by
  show ((Lib.itoa n).toArray.size : Int) ≤ 20
  unfold Lib.itoa
  have d : 9223372036854775808 < 10 ^ (18 + 1) := by decide
  split
  · have := dec_len 18 n.natAbs (by omega); simp; omega
  · have := dec_len 18 n.toNat (by omega); simp; omega

theorem below_grow (w : World) (k : Nat) (os : Array Obj) : Below w.heap.size w (Go.Sort.grow (w.drewN k) os) :=
  ⟨rfl, rfl, rfl, by simp [Go.Sort.grow], fun i hi => by
    show (w.heap ++ os)[i]? = _
    rw [Array.getElem?_append_left hi]⟩

theorem itoa_any (n : Int) (h0 : -9223372036854775808 ≤ n) (h1 : n ≤ 9223372036854775807) (w : World) (ht : Tab w) :
    Calls Tryd.prog 75 #[.int .i64 n] w fun e w' => e = .returned (.string (itoaB n)) ∧ Below w.heap.size w w' :=
  (Tryd.strconv_Itoa n h0 h1 w ht).mono fun e w' ⟨he, k, os, hw⟩ => ⟨he, by rw [hw]; exact below_grow w k os⟩

/-- The text of a fraction. -/
def textB (q : Rat) : ByteArray := if fd q = 1 then itoaB (fn q) else itoaB (fn q) ++ ⟨#[47]⟩ ++ itoaB (fd q)

set_option maxHeartbeats 1000000 in
theorem text_q (q : Rat) (hq : fits q) (w : World) (hT : Tab w) :
    Calls Tryd.prog 48 #[.agg #[.int .i64 (fn q), .int .i64 (fd q)]] w fun e w' => e = .returned (.string (textB q)) ∧ Below w.heap.size w w' := by
  have f4 := fd_pos q
  unfold fits at hq
  obtain ⟨f1, f2, f3⟩ := hq
  have s1 := itoaB_size (fn q) (by omega) (by omega)
  have s2 := itoaB_size (fd q) (by omega) (by omega)
  by_cases h : fd q = 1
  · have e : textB q = itoaB (fn q) := if_pos h
    rw [e]
    have hd : (fd q == 1) = true := by simpa using h
    clear h e
    go_enter Tryd.func48, Tryd.ntmps48
    go_wp2_with (go_at_call 75; (with_reducible refine (itoa_any (fn q) (by omega) (by omega) _ (Tab.of (by (repeat' (first | (with_reducible exact Below.refl _ _) | (with_reducible assumption) | (with_reducible refine belowThru ?_ (by assumption)) | (with_reducible refine belowAlloc ?_) | (with_reducible refine Below.setCell ?_ (by first | omega | (simp; done) | (simp; omega)) _) | (with_reducible refine Below.drew ?_) | (with_reducible refine below_drewN ?_ _)))) hT)).mono ?_); rintro e w1 ⟨rfl, hb⟩)
    go_ret
    exact ⟨rfl, by (repeat' (first | (with_reducible exact Below.refl _ _) | (with_reducible assumption) | (with_reducible refine belowThru ?_ (by assumption)) | (with_reducible refine belowAlloc ?_) | (with_reducible refine Below.setCell ?_ (by first | omega | (simp; done) | (simp; omega)) _) | (with_reducible refine Below.drew ?_) | (with_reducible refine below_drewN ?_ _)))⟩
  · have e : textB q = itoaB (fn q) ++ ⟨#[47]⟩ ++ itoaB (fd q) := if_neg h
    rw [e]
    have hd : (fd q == 1) = false := by simpa using h
    clear h e
    have hs3 : ((⟨#[47]⟩ : ByteArray).size : Int) ≤ 8388608 := by decide
    have hs4 : ((itoaB (fn q) ++ (⟨#[47]⟩ : ByteArray)).size : Int) ≤ 8388608 := by
      rw [ByteArray.size_append, Int.natCast_add, show (⟨#[47]⟩ : ByteArray).size = 1 from rfl]; omega
    have hs1 : ((itoaB (fn q)).size : Int) ≤ 8388608 := by omega
    have hs2 : ((itoaB (fd q)).size : Int) ≤ 8388608 := by omega
    have r1 := fun w : World => run_string_add (P := Tryd.prog) w _ _ hs1 hs3
    have r2 := fun w : World => run_string_add (P := Tryd.prog) w _ _ hs4 hs2
    clear hs1 hs2 hs3 hs4 s1 s2
    go_enter Tryd.func48, Tryd.ntmps48
    go_wp2
    go_region_held3 (fun w' => (Blk w' w.heap.size #[.int .i64 (fn q), .int .i64 (fd q)] 23 ∧ (∀ i : Nat, w'.cell? ⟨w.heap.size, i, none⟩ = (#[.int .i64 (fn q), .int .i64 (fd q)] : Array Value)[i]?)) ∧ Below w.heap.size w w')
      (((first | (apply hold1; (focus assumption); intro p0 pB) | skip); refine ⟨Blk.full ?_, ?_⟩; all_goals (first | ((repeat' (first | (with_reducible assumption) | ((with_reducible refine Blk.new ?_); first | rfl | (simp; done)) | (with_reducible refine Blk.later (by assumption) ?_) | (with_reducible refine Blk.alloc ?_) | (with_reducible refine Blk.drewN ?_) | (with_reducible refine Blk.drew ?_) | (with_reducible refine Blk.other ?_ (by first | omega | (simp; done) | (simp; omega))))); done) | ((repeat' (first | (with_reducible exact Below.refl _ _) | (with_reducible assumption) | (with_reducible refine belowThru ?_ (by assumption)) | (with_reducible refine belowAlloc ?_) | (with_reducible refine Below.setCell ?_ (by first | omega | (simp; done) | (simp; omega)) _) | (with_reducible refine Below.drew ?_) | (with_reducible refine below_drewN ?_ _))); done))))
      (first
      | (go_at_call 75; apply hold1; (focus assumption); intro p0 pB; (with_reducible refine (itoa_any _ (by omega) (by omega) _ (Tab.of pB hT)).mono ?_); rintro e w1 ⟨rfl, hb⟩))
    all_goals
      apply hold1; (focus assumption); intro p0 pB
      go_wp2_with fail
      go_ret
      exact ⟨rfl, pB⟩
end Go.Proofs.YtekpfgcpbipdpaaDoor
