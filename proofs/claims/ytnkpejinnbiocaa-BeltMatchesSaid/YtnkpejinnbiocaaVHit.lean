/-
  Layer 9: what is hit, what is left, what leaves.
-/
import Derived.Test.YtnkpejinnbiocaaVGate
namespace Go.Proofs.Ytnkpejinnbiocaa
open Go.RowKit Go.Shelf
set_option linter.unusedVariables false
set_option linter.unusedSimpArgs false

section
variable {α : Type} {P : Program} {t ts : TypeId} {k : Nat} {en : α → List Value}
theorem fm_set (hk : ∀ x, (en x).length = k) (xs : List α) (j i : Nat) (x y : α) (u : Value) (hx : xs[j]? = some x) (hi : i < k) (he : (en x).set i u = en y) : (xs.flatMap en).set (j * k + i) u = (xs.set j y).flatMap en := by
  induction xs generalizing j with
  | nil => cases hx
  | cons z xs ih =>
    cases j with
    | zero =>
      obtain rfl : z = x := by simpa using hx
      rw [List.flatMap_cons, List.set_cons_zero, List.flatMap_cons, Nat.zero_mul, Nat.zero_add, List.set_append_left _ _ (by rw [hk]; exact hi), he]
    | succ j =>
      rw [List.flatMap_cons, List.set_cons_succ, List.flatMap_cons, List.set_append_right _ _ (by rw [hk, Nat.add_mul]; omega), hk, show (j + 1) * k + i - k = j * k + i by rw [Nat.add_mul]; omega, ih j (by simpa using hx)]
theorem OwnK.set (E : Elem P t ts k en) {B : Nat} {w : World} {g n cap : Nat} {xs : List α} (h : OwnK t k en B w (.slice (some ⟨g, 0, none⟩) n cap) xs) (hn : xs.length = n) {j i : Nat} {x y : α} {u : Value} (hx : xs[j]? = some x) (hi : i < k) (he : (en x).set i u = en y) :
    OwnK t k en B (w.setCell ⟨g, j * k + i, none⟩ u) (.slice (some ⟨g, 0, none⟩) n cap) (xs.set j y) := by
  unfold OwnK at h ⊢
  rw [hn] at h
  have := (World.ownsRow.stored h (j * k + i) u).1
  rw [fm_set E.hk xs j i x y u hx hi he] at this
  rwa [List.length_set, hn]
theorem OwnK.at0 (E : Elem P t ts k en) {B : Nat} {w : World} {v : Value} {xs : List α} (h : OwnK t k en B w v xs) (hn : 0 < xs.length) : ∃ g cap, v = .slice (some ⟨g, 0, none⟩) xs.length cap ∧ B ≤ g ∧ xs.length ≤ cap ∧ cap ≤ maxLen ∧ g < w.heap.size ∧ (∀ i, w.frozen? ⟨g, i, none⟩ = false) := by
  rcases h.2 with ⟨rfl, h0⟩ | ⟨g, cap, cur, rfl, hb, hh, hnc, hcm, hcs, ht⟩
  · omega
  · exact ⟨g, cap, rfl, hb, hnc, hcm, lt_of_block hh, fun i => World.ownsRow.frozenAt h i⟩
theorem OwnK.cellsAt (E : Elem P t ts k en) {B : Nat} {w : World} {g n cap : Nat} {xs : List α} (h : OwnK t k en B w (.slice (some ⟨g, 0, none⟩) n cap) xs) {j : Nat} {x : α} (hx : xs[j]? = some x) {i : Nat} {v : Value} (hv : (en x)[i]? = some v) : w.cell? ⟨g, j * k + i, none⟩ = some v := by
  obtain ⟨a, c, e, hr, -⟩ := h.row E
  have hj : j < xs.length := (List.getElem?_eq_some_iff.1 hx).1
  obtain ⟨b, off, e2, -, hc⟩ := hr.2 (by omega)
  rw [e2] at e
  cases e
  have := hc j x hx i v hv
  rwa [Nat.zero_add] at this
end
theorem grownBy_set2 {w wr : World} {g : Nat} (h : w.grownBy wr (some g)) (i : Nat) (v : Value) : w.grownBy (wr.setCell ⟨g, i, none⟩ v) (some g) :=
  ⟨h.os, h.tape, h.output, by have := h.size; simpa [World.setCell] using this, fun k hk hne => (Below.heap_setCell wr ⟨g, i, none⟩ v k (fun e => hne (by rw [e]))).trans (h.block k hk hne)⟩
/-- The first parts are hit, the others not yet. -/
def hitK (f z c : Int) (xs : List Sn) (k : Nat) : List Sn := (xs.take k).map (hitI true f z c) ++ xs.drop k
theorem hitK_zero (f z c : Int) (xs : List Sn) : hitK f z c xs 0 = xs := by simp [hitK]
theorem hitK_all (f z c : Int) (xs : List Sn) : hitK f z c xs xs.length = xs.map (hitI true f z c) := by simp [hitK]
theorem hitK_length (f z c : Int) (xs : List Sn) (k : Nat) : (hitK f z c xs k).length = xs.length := by
  unfold hitK; rw [List.length_append, List.length_map, List.length_take, List.length_drop]; omega
theorem hitK_at (f z c : Int) (xs : List Sn) (k : Nat) (hk : k < xs.length) : (hitK f z c xs k)[k]? = xs[k]? := by
  unfold hitK
  rw [List.getElem?_append_right (by rw [List.length_map, List.length_take]; omega), List.length_map, List.length_take, List.getElem?_drop]
  congr 1; omega
theorem hitK_succ (f z c : Int) (xs : List Sn) (k : Nat) (x : Sn) (hx : xs[k]? = some x) : (hitK f z c xs k).set k (hitI true f z c x) = hitK f z c xs (k + 1) := by
  have hk : k < xs.length := (List.getElem?_eq_some_iff.1 hx).1
  unfold hitK
  have hl : ((xs.take k).map (hitI true f z c)).length = k := by rw [List.length_map, List.length_take]; omega
  rw [List.set_append_right _ _ (by omega), hl, Nat.sub_self, drop_at hx, List.set_cons_zero, List.take_add_one, hx, List.map_append, List.append_assoc]
  rfl
theorem hitK_same (f z c : Int) (xs : List Sn) (k : Nat) (x : Sn) (hx : xs[k]? = some x) (hm : mayB f z c x = false) : hitK f z c xs (k + 1) = hitK f z c xs k := by
  rw [← hitK_succ f z c xs k x hx]
  have e : hitI true f z c x = x := by simp [hitI, hm]
  rw [e]
  apply List.ext_getElem?
  intro i
  by_cases h : k = i
  · subst h
    rw [List.getElem?_set_self (by rw [hitK_length]; exact (List.getElem?_eq_some_iff.1 hx).1), hitK_at _ _ _ _ _ (List.getElem?_eq_some_iff.1 hx).1, hx]
  · rw [List.getElem?_set_ne h]
theorem hitB_no {f z c : Int} {xs : List Sn} (h : opB f z c xs = false) : hitB f z c xs = xs := by
  unfold hitB; rw [h]
  have e : hitI false f z c = id := by funext x; simp [hitI]
  rw [e, List.map_id]
theorem hitB_yes {f z c : Int} {xs : List Sn} (h : opB f z c xs = true) : hitB f z c xs = xs.map (hitI true f z c) := by unfold hitB; rw [h]
theorem opB_nil {f z c : Int} : opB f z c [] = false := rfl
set_option maxRecDepth 100000 in
set_option maxHeartbeats 16000000 in
theorem hit_no (a : Option Addr) (n cap : Nat) (xs : List Sn) (F L c : Int) (w : World) (hR : RowK 4 sn1 w a n xs) (HI : Hid (∀ w, RowK 4 sn1 w a n xs → Calls Try.prog 42 #[.slice a n cap, .agg #[.int .i64 F, .int .i64 L], .int .i64 c] w fun e w' => e = .returned (.bool false) ∧ Below w.heap.size w w')) :
    Calls Try.prog 44 #[.slice a n cap, .agg #[.int .i64 F, .int .i64 L], .int .i64 c] w fun e w' => e = .returned (.tuple #[]) ∧ Below w.heap.size w w' := by
  have HR := Lib.hid hR
  clear hR
  go_enter Try.func44, Try.ntmps44
  go_wp2_with (go_at_call 42; (with_reducible refine (HI.out _ (HR.out.later (by (repeat' (first | (with_reducible exact Below.refl _ _) | (with_reducible assumption) | (with_reducible refine belowThru ?_ (by assumption)) | (with_reducible refine belowAlloc ?_) | (with_reducible refine Below.setCell ?_ (by first | omega | (simp; done) | (simp; omega)) _) | (with_reducible refine Below.drew ?_) | (with_reducible refine below_drewN ?_ _)))))).mono ?_); rintro e w1 ⟨rfl, hb⟩)
  exact bodyPost_ret (v := .tuple #[]) (by simp [results, Try.results44]) rfl ⟨rfl, by (repeat' (first | (with_reducible exact Below.refl _ _) | (with_reducible assumption) | (with_reducible refine belowThru ?_ (by assumption)) | (with_reducible refine belowAlloc ?_) | (with_reducible refine Below.setCell ?_ (by first | omega | (simp; done) | (simp; omega)) _) | (with_reducible refine Below.drew ?_) | (with_reducible refine below_drewN ?_ _)))⟩
set_option maxRecDepth 100000 in
set_option maxHeartbeats 16000000 in
theorem hit_yes (g n cap : Nat) (xs : List Sn) (F L c : Int) (B : Nat) (hF : 1 ≤ F ∧ F ≤ 2000001) (hL : 1 ≤ L ∧ L ≤ 2000001) (hx : ∀ x ∈ xs, 0 ≤ x.2.1 ∧ x.2.1 ≤ 1099511627776) (hnm : n ≤ maxLen) (hcap : n ≤ cap) (w : World) (hg : g < w.heap.size) (hO : OwnK 43 4 sn1 B w (.slice (some ⟨g, 0, none⟩) n cap) xs) (hlen : xs.length = n) (HI : Hid (∀ w, RowK 4 sn1 w (some ⟨g, 0, none⟩) n xs → Calls Try.prog 42 #[.slice (some ⟨g, 0, none⟩) n cap, .agg #[.int .i64 F, .int .i64 L], .int .i64 c] w fun e w' => e = .returned (.bool true) ∧ Below w.heap.size w w')) :
    Calls Try.prog 44 #[.slice (some ⟨g, 0, none⟩) n cap, .agg #[.int .i64 F, .int .i64 L], .int .i64 c] w fun e w' => e = .returned (.tuple #[]) ∧ OwnK 43 4 sn1 B w' (.slice (some ⟨g, 0, none⟩) n cap) (xs.map (hitI true F L c)) ∧ w.grownBy w' (some g) := by
  unfold maxLen at hnm
  have HL := Lib.hid hlen
  have HO := Lib.hid hO
  have HX := Lib.hid hx
  have HR : Hid (RowK 4 sn1 w (some ⟨g, 0, none⟩) n xs) := by
    obtain ⟨a, c, e, hr, -⟩ := hO.row elem_sn
    rw [hlen] at e hr
    cases e
    exact hr
  clear hlen hO hx
  go_enter Try.func44, Try.ntmps44
  go_wp2_with fail
  refine (HI.out _ (HR.out.later (by (repeat' (first | (with_reducible exact Below.refl _ _) | (with_reducible assumption) | (with_reducible refine belowThru ?_ (by assumption)) | (with_reducible refine belowAlloc ?_) | (with_reducible refine Below.setCell ?_ (by first | omega | (simp; done) | (simp; omega)) _) | (with_reducible refine Below.drew ?_) | (with_reducible refine below_drewN ?_ _)))))).mono ?_
  rintro e w1 ⟨rfl, hb⟩
  have k0 : Blk w1 w.heap.size #[.int .i64 F, .int .i64 L] 81 := Blk.later hb (by (repeat' (first | (with_reducible assumption) | ((with_reducible refine Blk.new ?_); first | rfl | (simp; done)) | (with_reducible refine Blk.later (by assumption) ?_) | (with_reducible refine Blk.alloc ?_) | (with_reducible refine Blk.drewN ?_) | (with_reducible refine Blk.drew ?_) | (with_reducible refine Blk.other ?_ (by first | omega | (simp; done) | (simp; omega))))))
  have hB : Below w.heap.size w w1 := by (repeat' (first | (with_reducible exact Below.refl _ _) | (with_reducible assumption) | (with_reducible refine belowThru ?_ (by assumption)) | (with_reducible refine belowAlloc ?_) | (with_reducible refine Below.setCell ?_ (by first | omega | (simp; done) | (simp; omega)) _) | (with_reducible refine Below.drew ?_) | (with_reducible refine below_drewN ?_ _)))
  have m0 : OwnK 43 4 sn1 B w1 (.slice (some ⟨g, 0, none⟩) n cap) (hitK F L c xs 0) := by rw [hitK_zero]; exact OwnK.later hB HO.out
  have mG : w.grownBy w1 (some g) := ⟨hB.os, hB.tape, hB.output, hB.size, fun k hk _ => hB.block k hk⟩
  obtain ⟨a0, b0⟩ := k0.read
  clear hb
  go_wp2_with fail
  go_loopw [15] (fun i wr => ∃ k : Nat, k ≤ n ∧ i = .int .i64 k ∧ OwnK 43 4 sn1 B wr (.slice (some ⟨g, 0, none⟩) n cap) (hitK F L c xs k) ∧ Blk wr w.heap.size #[.int .i64 F, .int .i64 L] 81 ∧ w.grownBy wr (some g)) (fun i _ => n - (intOf i).toNat)
  case atStart => exact ⟨0, Nat.zero_le _, rfl, m0, k0, mG⟩
  case round =>
    clear m0 k0 mG a0 b0
    obtain ⟨k, hk, rfl, m0, k0, mG⟩ := hrel
    obtain ⟨a0, b0⟩ := k0.read
    have hgr : g < wr.heap.size := by have := mG.size; omega
    have y0 := k0.lt
    by_cases hlt : k < n
    · obtain ⟨⟨q1, q2, q3, q4⟩, hxk⟩ : ∃ x, xs[k]? = some x := ⟨xs[k]'(by rw [HL.out]; exact hlt), List.getElem?_eq_getElem _⟩
      have hq := HX.out _ (List.mem_of_getElem? hxk)
      have hyk : (hitK F L c xs k)[k]? = some (q1, q2, q3, q4) := by rw [hitK_at _ _ _ _ _ (by rw [HL.out]; exact hlt)]; exact hxk
      have d0 := m0.cellsAt elem_sn hyk (i := 0) rfl
      have d1 := m0.cellsAt elem_sn hyk (i := 1) rfl
      have d2 := m0.cellsAt elem_sn hyk (i := 2) rfl
      have d3 := m0.cellsAt elem_sn hyk (i := 3) rfl
      rw [Nat.add_zero] at d0
      have p0 : (0 : Int) ≤ (k : Int) := by omega
      have p1 : (k : Int) < (n : Int) := by omega
      have HF := Lib.hid (after_any F L q2 ⟨by omega, hF.2⟩ ⟨by omega, hL.2⟩ hq)
      have HH := Lib.hid (has_any (q2 + F) (q2 + L) c)
      have em : mayB F L c (q1, q2, q3, q4) = decide (q2 + F ≤ c ∧ c ≤ q2 + L) := rfl
      rw [← em] at HH
      have M0 := Lib.hid m0
      have HK := Lib.hid hxk; have HY := Lib.hid hyk
      have zne : g ≠ w.heap.size := by omega
      clear em hxk hyk m0 hq
      cases hm : mayB F L c (q1, q2, q3, q4) with
      | false =>
        rw [hm] at HH
        have HM := Lib.hid hm
        clear hm
        go_wp2_with fail
        obtain ⟨Wp, hWp⟩ : ∃ Wp, wr.alloc (.cells #[.int .i64 q1, .int .i64 q2, .int .u8 q3, .bool q4] 43) = Wp := ⟨_, rfl⟩
        have n0 : Blk Wp w.heap.size #[.int .i64 F, .int .i64 L] 81 := by rw [← hWp]; (repeat' (first | (with_reducible assumption) | ((with_reducible refine Blk.new ?_); first | rfl | (simp; done)) | (with_reducible refine Blk.later (by assumption) ?_) | (with_reducible refine Blk.alloc ?_) | (with_reducible refine Blk.drewN ?_) | (with_reducible refine Blk.drew ?_) | (with_reducible refine Blk.other ?_ (by first | omega | (simp; done) | (simp; omega)))))
        have n1 : Blk Wp wr.heap.size #[.int .i64 q1, .int .i64 q2, .int .u8 q3, .bool q4] 43 := by rw [← hWp]; (repeat' (first | (with_reducible assumption) | ((with_reducible refine Blk.new ?_); first | rfl | (simp; done)) | (with_reducible refine Blk.later (by assumption) ?_) | (with_reducible refine Blk.alloc ?_) | (with_reducible refine Blk.drewN ?_) | (with_reducible refine Blk.drew ?_) | (with_reducible refine Blk.other ?_ (by first | omega | (simp; done) | (simp; omega)))))
        have nO : OwnK 43 4 sn1 B Wp (.slice (some ⟨g, 0, none⟩) n cap) (hitK F L c xs k) := by rw [← hWp]; exact M0.out.alloc
        have nG : w.grownBy Wp (some g) := by rw [← hWp]; exact mG.trans (World.grownBy_alloc _ _ _)
        rw [hWp]; clear hWp k0 mG a0 b0
        refine (HF.out _).mono ?_
        rintro e w2 ⟨rfl, hb⟩
        replace n0 := Blk.later hb n0
        replace n1 := Blk.later hb n1
        replace nO := OwnK.later hb nO
        have hG2 : Wp.grownBy w2 (some g) := ⟨hb.os, hb.tape, hb.output, hb.size, fun k hk _ => hb.block k hk⟩
        replace nG := nG.trans hG2
        obtain ⟨a0, b0⟩ := n0.read
        obtain ⟨a1, b1⟩ := n1.read
        clear hb hG2
        go_wp2_with fail
        refine (HH.out _).mono ?_
        rintro e w3 ⟨rfl, hb⟩
        have k0 := Blk.later hb n0
        have mO := OwnK.later hb nO
        have hG2 : w2.grownBy w3 (some g) := ⟨hb.os, hb.tape, hb.output, hb.size, fun k hk _ => hb.block k hk⟩
        have mG := nG.trans hG2
        clear a0 b0 a1 b1 n0 n1 nO nG hG2
        obtain ⟨fz⟩ : Nonempty (∀ i, w3.frozen? ⟨g, i, none⟩ = false) := ⟨fun i => by obtain ⟨g', c', e, -, -, -, -, hf⟩ := mO.at0 elem_sn (by rw [hitK_length, HL.out]; omega); cases e; exact hf i⟩
        obtain ⟨zz, hzz⟩ : ∃ zz, w3.cell? ⟨g, k * 4 + 3, none⟩ = some zz := ⟨_, mO.cellsAt elem_sn HY.out (i := 3) rfl⟩
        have hg3 : g < w3.heap.size := by have := mG.size; omega
        have MO := Lib.hid mO
        clear mO hb
        go_wp2_with fail
        have mO := MO.out
        go_roundw
        case rel => exact ⟨k + 1, hlt, by go_num, by rw [hitK_same _ _ _ _ _ _ HK.out HM.out]; exact mO, k0, mG⟩
        case measure => simp [intOf]; omega
      | true =>
        rw [hm] at HH
        have HM := Lib.hid hm
        clear hm
        go_wp2_with fail
        obtain ⟨Wp, hWp⟩ : ∃ Wp, wr.alloc (.cells #[.int .i64 q1, .int .i64 q2, .int .u8 q3, .bool q4] 43) = Wp := ⟨_, rfl⟩
        have n0 : Blk Wp w.heap.size #[.int .i64 F, .int .i64 L] 81 := by rw [← hWp]; (repeat' (first | (with_reducible assumption) | ((with_reducible refine Blk.new ?_); first | rfl | (simp; done)) | (with_reducible refine Blk.later (by assumption) ?_) | (with_reducible refine Blk.alloc ?_) | (with_reducible refine Blk.drewN ?_) | (with_reducible refine Blk.drew ?_) | (with_reducible refine Blk.other ?_ (by first | omega | (simp; done) | (simp; omega)))))
        have n1 : Blk Wp wr.heap.size #[.int .i64 q1, .int .i64 q2, .int .u8 q3, .bool q4] 43 := by rw [← hWp]; (repeat' (first | (with_reducible assumption) | ((with_reducible refine Blk.new ?_); first | rfl | (simp; done)) | (with_reducible refine Blk.later (by assumption) ?_) | (with_reducible refine Blk.alloc ?_) | (with_reducible refine Blk.drewN ?_) | (with_reducible refine Blk.drew ?_) | (with_reducible refine Blk.other ?_ (by first | omega | (simp; done) | (simp; omega)))))
        have nO : OwnK 43 4 sn1 B Wp (.slice (some ⟨g, 0, none⟩) n cap) (hitK F L c xs k) := by rw [← hWp]; exact M0.out.alloc
        have nG : w.grownBy Wp (some g) := by rw [← hWp]; exact mG.trans (World.grownBy_alloc _ _ _)
        rw [hWp]; clear hWp k0 mG a0 b0
        refine (HF.out _).mono ?_
        rintro e w2 ⟨rfl, hb⟩
        replace n0 := Blk.later hb n0
        replace n1 := Blk.later hb n1
        replace nO := OwnK.later hb nO
        have hG2 : Wp.grownBy w2 (some g) := ⟨hb.os, hb.tape, hb.output, hb.size, fun k hk _ => hb.block k hk⟩
        replace nG := nG.trans hG2
        obtain ⟨a0, b0⟩ := n0.read
        obtain ⟨a1, b1⟩ := n1.read
        clear hb hG2
        go_wp2_with fail
        refine (HH.out _).mono ?_
        rintro e w3 ⟨rfl, hb⟩
        have k0 := Blk.later hb n0
        have mO := OwnK.later hb nO
        have hG2 : w2.grownBy w3 (some g) := ⟨hb.os, hb.tape, hb.output, hb.size, fun k hk _ => hb.block k hk⟩
        have mG := nG.trans hG2
        clear a0 b0 a1 b1 n0 n1 nO nG hG2
        obtain ⟨fz⟩ : Nonempty (∀ i, w3.frozen? ⟨g, i, none⟩ = false) := ⟨fun i => by obtain ⟨g', c', e, -, -, -, -, hf⟩ := mO.at0 elem_sn (by rw [hitK_length, HL.out]; omega); cases e; exact hf i⟩
        obtain ⟨zz, hzz⟩ : ∃ zz, w3.cell? ⟨g, k * 4 + 3, none⟩ = some zz := ⟨_, mO.cellsAt elem_sn HY.out (i := 3) rfl⟩
        have hg3 : g < w3.heap.size := by have := mG.size; omega
        have MO := Lib.hid mO
        clear mO hb
        go_wp2_with fail
        have mO := MO.out
        go_roundw
        case rel =>
          refine ⟨k + 1, hlt, by go_num, ?_, Blk.other k0 (fun e => zne e.symm), grownBy_set2 mG _ _⟩
          rw [← hitK_succ _ _ _ _ _ _ HK.out]
          have e : hitI true F L c (q1, q2, q3, q4) = (q1, q2, q3, true) := by simp [hitI, HM.out, hitX]
          rw [e]
          exact mO.set elem_sn (by rw [hitK_length, HL.out]) HY.out (by decide) rfl
        case measure => simp [intOf]; omega
    · obtain rfl : k = n := by omega
      have e := hitK_all F L c xs
      rw [HL.out] at e
      rw [e] at m0
      have M0 := Lib.hid m0
      clear m0 e
      go_wp2
      go_end0
      exact ⟨rfl, M0.out, mG⟩
end Go.Proofs.Ytnkpejinnbiocaa
