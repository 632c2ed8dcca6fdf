/-
  Layer 9: the closure of Match: a round of its loop.
-/
import Derived.Test.YtnkpejinnbiocaaVAsn
namespace Go.Proofs.Ytnkpejinnbiocaa
open Go.RowKit Go.Shelf
set_option linter.unusedVariables false
set_option linter.unusedSimpArgs false


theorem ints_setM (zs : List Int) (p : Nat) (v : Int) : (ints zs).setIfInBounds p (.int .i64 v) = ints (zs.set p v) := by
  unfold ints
  apply Array.ext'
  simp [List.map_set]
theorem Row.two {w : World} {a : Option Addr} {n : Nat} {zs : List Int} (h : Row w a n (iv zs)) {j k : Nat} (hj : j < n) (hk : k < n) :
    ∃ b off z1 z2, a = some ⟨b, off, none⟩ ∧ b < w.heap.size ∧ zs.getD j 0 = z1 ∧ zs.getD k 0 = z2 ∧ z1 ∈ zs ∧ z2 ∈ zs ∧ w.cell? ⟨b, off + j, none⟩ = some (.int .i64 z1) ∧ w.cell? ⟨b, off + k, none⟩ = some (.int .i64 z2) := by
  obtain ⟨b, off, ha, hlt, hc⟩ := h.2 (by omega)
  have hl : zs.length = n := by have := h.1; rwa [iv_length] at this
  have h1 : j < zs.length := by omega
  have h2 : k < zs.length := by omega
  refine ⟨b, off, zs[j], zs[k], ha, hlt, by simp [List.getD, List.getElem?_eq_getElem h1], by simp [List.getD, List.getElem?_eq_getElem h2], List.getElem_mem _, List.getElem_mem _, ?_, ?_⟩
  · rw [hc j hj, iv_get, List.getElem?_eq_getElem h1]; rfl
  · rw [hc k hk, iv_get, List.getElem?_eq_getElem h2]; rfl
section
variable (s p g l : Int) (a1 a2 : Option Addr) (n m c1 c2 : Nat) (zs us : List Int) (BS BA BC BF BB BX gC B2 : Nat) (w0 : World)
set_option maxRecDepth 100000 in
set_option maxHeartbeats 16000000 in
theorem assign_zero (hw0 : w0.heap.size ≤ B2) (hltS : BS < B2) (hltH : BC < B2) (hltF : BF < B2) (hltB : BB < B2) (hltX : BX < B2) (hltA : BA < B2) (hltC : gC < B2) (hA : w0.heap.size ≤ BA) (hG : w0.heap.size ≤ gC) (hm : m ≤ 10) (hn : n ≤ 10) (k part fr : Nat) (hp0 : part = 0) (x : List Int) (L : List (List Int)) (w : World) (hfr : fr ≤ n) (hpm : part < m) (hx : x.length = part) (hlen : L.length + (asgB s p zs us n (k + 1) x part fr).length < 1099511627776) (hS : StM s p g l a1 a2 n m c1 c2 BS BA BC BF BB BX gC B2 w0 x L w)
    (IH : Hid (∀ (i : Nat) (x' : List Int) (L' : List (List Int)) (W : World), i < n → x'.length = part + 1 → L'.length + (asgB s p zs us n k x' (part + 1) (i + 1)).length < 1099511627776 → StM s p g l a1 a2 n m c1 c2 BS BA BC BF BB BX gC B2 w0 x' L' W → Calls Try.prog 49 #[.int .i64 ((part : Int) + 1), .int .i64 ((i : Int) + 1), .pointer (some ⟨BS, 0, none⟩), .pointer (some ⟨BA, 0, none⟩), .pointer (some ⟨BC, 0, none⟩), .pointer (some ⟨BF, 0, none⟩), .pointer (some ⟨BB, 0, none⟩), .pointer (some ⟨BX, 0, none⟩)] W fun e w' => e = .returned (.tuple #[]) ∧ StM s p g l a1 a2 n m c1 c2 BS BA BC BF BB BX gC B2 w0 x' (L' ++ asgB s p zs us n k x' (part + 1) (i + 1)) w')) :
    Calls Try.prog 49 #[.int .i64 (part : Int), .int .i64 (fr : Int), .pointer (some ⟨BS, 0, none⟩), .pointer (some ⟨BA, 0, none⟩), .pointer (some ⟨BC, 0, none⟩), .pointer (some ⟨BF, 0, none⟩), .pointer (some ⟨BB, 0, none⟩), .pointer (some ⟨BX, 0, none⟩)] w fun e w' => e = .returned (.tuple #[]) ∧ StM s p g l a1 a2 n m c1 c2 BS BA BC BF BB BX gC B2 w0 x (L ++ asgB s p zs us n (k + 1) x part fr) w' := by
  have HP0 := Lib.hid hp0
  have hd0 : decide (0 < part) = false := decide_eq_false (by omega)
  clear hp0
  have HLen := Lib.hid hlen
  have HX := Lib.hid hx
  have HS := Lib.hid hS
  have HPM := Lib.hid hpm
  clear hlen hx hS
  have hd : ((part : Int) == (m : Int)) = false := by simp; omega
  obtain ⟨-, -, -, -, -, -, -, kS0, -, kF0, -, -, -, -⟩ := HS.out
  obtain ⟨aS, bS⟩ := kS0.read; have yS := kS0.lt
  go_enter Try.func49, Try.ntmps49
  go_wp2_with fail
  clear aS bS yS kS0 kF0
  go_loopw [10] (fun iv wr => ∃ i : Nat, (fr ≤ i ∧ i ≤ n) ∧ iv = .int .i64 i ∧ Hid (StM s p g l a1 a2 n m c1 c2 BS BA BC BF BB BX gC B2 w0 x (L ++ (List.range' fr (i - fr)).flatMap fun i => if okI s p zs us part fr i then asgB s p zs us n k (x ++ [(i : Int)]) (part + 1) (i + 1) else []) wr)) (fun iv _ => n - (intOf iv).toNat)
  case atStart => exact ⟨fr, ⟨Nat.le_refl _, hfr⟩, rfl, by rw [flR_zero, List.append_nil]; exact HS.out⟩
  case round =>
    clear HS
    obtain ⟨i, ⟨hi1, hi2⟩, rfl, hS⟩ := hrel
    obtain ⟨Li, hLi⟩ : ∃ Li, L ++ (List.range' fr (i - fr)).flatMap (fun i => if okI s p zs us part fr i then asgB s p zs us n k (x ++ [(i : Int)]) (part + 1) (i + 1) else []) = Li := ⟨_, rfl⟩
    have hstep := flR_succ (fun i => if okI s p zs us part fr i then asgB s p zs us n k (x ++ [(i : Int)]) (part + 1) (i + 1) else []) fr i hi1
    rw [hLi] at hS
    obtain ⟨av, cv, cs, kA, kC, hcs, hAll, kS, kH, kF, kB, kX, hB, hw2⟩ := hS.out
    obtain ⟨aF, bF⟩ := kF.read; have yF := kF.lt
    by_cases hlt : i < n
    · have hmono := flR_mono (fun i => if okI s p zs us part fr i then asgB s p zs us n k (x ++ [(i : Int)]) (part + 1) (i + 1) else []) fr (i + 1) n (by omega) (by omega)
      have hnext : L ++ (List.range' fr (i + 1 - fr)).flatMap (fun i => if okI s p zs us part fr i then asgB s p zs us n k (x ++ [(i : Int)]) (part + 1) (i + 1) else []) = Li ++ (if okI s p zs us part fr i then asgB s p zs us n k (x ++ [(i : Int)]) (part + 1) (i + 1) else []) := by rw [hstep, ← List.append_assoc, hLi]
      have hlen2 : (Li ++ (if okI s p zs us part fr i then asgB s p zs us n k (x ++ [(i : Int)]) (part + 1) (i + 1) else [])).length < 1099511627776 := by
        rw [← hnext, List.length_append]
        have h9 := HLen.out
        have e9 : asgB s p zs us n (k + 1) x part fr = (List.range' fr (n - fr)).flatMap (fun i => if okI s p zs us part fr i then asgB s p zs us n k (x ++ [(i : Int)]) (part + 1) (i + 1) else []) := rfl
        rw [e9] at h9
        omega
      have HNX := Lib.hid hnext
      have HL2 := Lib.hid hlen2
      obtain ⟨nL, hnL⟩ : ∃ nL, Li.length = nL := ⟨_, rfl⟩
      rw [hnL] at kA hAll
      have HNL := Lib.hid hnL
      have HALL := Lib.hid hAll
      have HCS := Lib.hid hcs
      clear hmono hnext hlen2 hnL hAll hcs hstep hLi hS
      have p0 : (0 : Int) ≤ (i : Int) := by omega
      have p1 : (i : Int) < (n : Int) := by omega
      have p2 : (0 : Int) ≤ (part : Int) := by omega
      have p3 : (part : Int) < (m : Int) := by omega
      have hok : okI s p zs us part fr i = true := by rw [HP0.out]; rfl
      have HOK := Lib.hid hok
      clear hok
      go_wp2_with fail
      go_quiet (fail)
      obtain ⟨W6, hW6⟩ : ∃ W, wr.drewN nq = W := ⟨_, rfl⟩
      have hb6 : Below wr.heap.size wr W6 := by rw [← hW6]; exact below_drewN (Below.refl _ _) _
      rw [hW6]
      clear hW6 aF bF yF
      replace kA := Blk.later hb6 kA; replace kC := Blk.later hb6 kC; replace kS := Blk.later hb6 kS; replace kH := Blk.later hb6 kH; replace kF := Blk.later hb6 kF; replace kB := Blk.later hb6 kB; replace kX := Blk.later hb6 kX
      replace HALL : Hid (AllR B2 W6 (.slice av nL cv) Li) := AllR.later hb6 HALL.out
      replace hB := belowThru hB hb6
      replace hw2 : B2 ≤ W6.heap.size := Nat.le_trans hw2 hb6.size
      obtain ⟨zc, hzc⟩ : ∃ zc, W6.cell? ⟨gC, part, none⟩ = some (.int .i64 zc) := ⟨cs[part]'(by have := HCS.out.1; omega), by rw [kC.cells, ints_get, List.getElem?_eq_getElem]; rfl⟩
      obtain ⟨aH, bH⟩ := kH.read; have yH := kH.lt
      obtain ⟨aC, bC⟩ := kC.read; have yC := kC.lt
      obtain ⟨aX, bX⟩ := kX.read; have yX := kX.lt
      have hneX := kX.ne kC (by decide)
      have hneX2 : gC ≠ BX := fun e => hneX e.symm
      have v1 : IntKind.i64.wrap ((part : Int) + 1) = (part : Int) + 1 := IntWalk.i64_in _ (by omega)
      have v2 : IntKind.i64.wrap ((i : Int) + 1) = (i : Int) + 1 := IntWalk.i64_in _ (by omega)
      have hS7 : Hid (StM s p g l a1 a2 n m c1 c2 BS BA BC BF BB BX gC B2 w0 (x ++ [(i : Int)]) Li (W6.setCell ⟨gC, part, none⟩ (.int .i64 (i : Int)))) := by
        have h1 := HCS.out.1
        have h2 := HCS.out.2
        have hxl := HX.out
        refine ⟨av, cv, cs.set part (i : Int), by rw [HNL.out]; exact Blk.other kA (kA.ne kC (by decide)), by rw [← ints_setM]; exact Blk.set (i := part) (v := .int .i64 (i : Int)) kC, ⟨by rw [List.length_set]; exact h1, ?_⟩, by rw [HNL.out]; exact AllR.set HALL.out hltC _, Blk.other kS (kS.ne kC (by decide)), Blk.other kH (kH.ne kC (by decide)), Blk.other kF (kF.ne kC (by decide)), Blk.other kB (kB.ne kC (by decide)), Blk.other kX (kX.ne kC (by decide)), hB.setCell hG _, by simpa [World.setCell] using hw2⟩
        rw [List.length_append, hxl]
        show (cs.set part (i : Int)).take (part + 1) = _
        rw [List.take_add_one, List.getElem?_set_self (by have := HPM.out; omega), List.take_set_of_le (Nat.le_refl _), ← hxl, h2]
        rfl
      have HI := Lib.hid (IH.out i (x ++ [(i : Int)]) Li _ hlt (by rw [List.length_append, HX.out]; rfl) (by have := HL2.out; rw [HOK.out, if_pos rfl, List.length_append] at this; exact this) hS7.out)
      clear hS7 kA kS kF kB
      go_wp2_with fail
      clear aH bH aC bC aX bX yH yC yX hzc kC kH kX
      refine HI.out.mono ?_
      rintro e W9 ⟨rfl, hS9⟩
      have HS9 : Hid (StM s p g l a1 a2 n m c1 c2 BS BA BC BF BB BX gC B2 w0 x (Li ++ asgB s p zs us n k (x ++ [(i : Int)]) (part + 1) (i + 1)) W9) := by
        obtain ⟨av', cv', cs', q1, q2, ⟨q3, q4⟩, q5⟩ := hS9
        refine ⟨av', cv', cs', q1, q2, ⟨q3, ?_⟩, q5⟩
        have h2 := congrArg (List.take x.length) q4
        rw [List.take_take, List.length_append, Nat.min_eq_left (by omega), List.take_left'] at h2
        · exact h2
        · rfl
      clear hS9
      go_wp2_with fail
      go_roundw
      case rel => exact ⟨i + 1, ⟨by omega, hlt⟩, by go_num, by rw [HNX.out, HOK.out, if_pos rfl]; exact HS9.out⟩
      case measure => simp [intOf]; omega
    · obtain rfl : i = n := by omega
      have hf : L ++ asgB s p zs us i (k + 1) x part fr = Li := hLi
      rw [← hf] at hS
      have HS2 := Lib.hid hS.out
      clear hstep hLi hS kA kC hcs hAll kS kH kB kX
      go_wp2_with fail
      go_end0
      exact ⟨rfl, HS2.out⟩
set_option maxRecDepth 100000 in
set_option maxHeartbeats 16000000 in
theorem assign_pos (hw0 : w0.heap.size ≤ B2) (hltS : BS < B2) (hltH : BC < B2) (hltF : BF < B2) (hltB : BB < B2) (hltX : BX < B2) (hltA : BA < B2) (hltC : gC < B2) (hA : w0.heap.size ≤ BA) (hG : w0.heap.size ≤ gC) (hm : m ≤ 10) (hn : n ≤ 10) (hs : 1 ≤ s ∧ s ≤ 1000) (hp : 0 ≤ p ∧ p ≤ s - 1) (hzs : ∀ z ∈ zs, 0 ≤ z ∧ z ≤ 1099511627776) (hus : ∀ z ∈ us, 0 ≤ z ∧ z ≤ 1099511627776) (hR1 : Row w0 a1 n (iv zs)) (hR2 : Row w0 a2 m (iv us)) (k part fr q r : Nat) (hp0 : part = q + 1) (hr0 : fr = r + 1) (x : List Int) (L : List (List Int)) (w : World) (hfr : fr ≤ n) (hpm : part < m) (hx : x.length = part) (hlen : L.length + (asgB s p zs us n (k + 1) x part fr).length < 1099511627776) (hS : StM s p g l a1 a2 n m c1 c2 BS BA BC BF BB BX gC B2 w0 x L w)
    (IH : Hid (∀ (i : Nat) (x' : List Int) (L' : List (List Int)) (W : World), i < n → x'.length = part + 1 → L'.length + (asgB s p zs us n k x' (part + 1) (i + 1)).length < 1099511627776 → StM s p g l a1 a2 n m c1 c2 BS BA BC BF BB BX gC B2 w0 x' L' W → Calls Try.prog 49 #[.int .i64 ((part : Int) + 1), .int .i64 ((i : Int) + 1), .pointer (some ⟨BS, 0, none⟩), .pointer (some ⟨BA, 0, none⟩), .pointer (some ⟨BC, 0, none⟩), .pointer (some ⟨BF, 0, none⟩), .pointer (some ⟨BB, 0, none⟩), .pointer (some ⟨BX, 0, none⟩)] W fun e w' => e = .returned (.tuple #[]) ∧ StM s p g l a1 a2 n m c1 c2 BS BA BC BF BB BX gC B2 w0 x' (L' ++ asgB s p zs us n k x' (part + 1) (i + 1)) w')) :
    Calls Try.prog 49 #[.int .i64 (part : Int), .int .i64 (fr : Int), .pointer (some ⟨BS, 0, none⟩), .pointer (some ⟨BA, 0, none⟩), .pointer (some ⟨BC, 0, none⟩), .pointer (some ⟨BF, 0, none⟩), .pointer (some ⟨BB, 0, none⟩), .pointer (some ⟨BX, 0, none⟩)] w fun e w' => e = .returned (.tuple #[]) ∧ StM s p g l a1 a2 n m c1 c2 BS BA BC BF BB BX gC B2 w0 x (L ++ asgB s p zs us n (k + 1) x part fr) w' := by
  have HP0 := Lib.hid hp0
  have HR0 := Lib.hid hr0
  have HR1 := Lib.hid hR1; have HR2 := Lib.hid hR2
  have HZS := Lib.hid hzs; have HUS := Lib.hid hus
  have hd0 : decide (0 < part) = true := decide_eq_true (by omega)
  have v3 : IntKind.i64.wrap ((part : Int) - 1) = (q : Int) := (IntWalk.i64_in _ (by omega)).trans (by omega)
  have v4 : IntKind.i64.wrap ((fr : Int) - 1) = (r : Int) := (IntWalk.i64_in _ (by omega)).trans (by omega)
  have p4 : (0 : Int) ≤ (q : Int) := by omega
  have p5 : (q : Int) < (m : Int) := by omega
  have p6 : (0 : Int) ≤ (r : Int) := by omega
  have p7 : (r : Int) < (n : Int) := by omega
  clear hp0 hr0 hR1 hR2 hzs hus
  have HLen := Lib.hid hlen
  have HX := Lib.hid hx
  have HS := Lib.hid hS
  have HPM := Lib.hid hpm
  clear hlen hx hS
  have hd : ((part : Int) == (m : Int)) = false := by simp; omega
  obtain ⟨-, -, -, -, -, -, -, kS0, -, kF0, -, -, -, -⟩ := HS.out
  obtain ⟨aS, bS⟩ := kS0.read; have yS := kS0.lt
  go_enter Try.func49, Try.ntmps49
  go_wp2_with fail
  clear aS bS yS kS0 kF0
  go_loopw [10] (fun iv wr => ∃ i : Nat, (fr ≤ i ∧ i ≤ n) ∧ iv = .int .i64 i ∧ Hid (StM s p g l a1 a2 n m c1 c2 BS BA BC BF BB BX gC B2 w0 x (L ++ (List.range' fr (i - fr)).flatMap fun i => if okI s p zs us part fr i then asgB s p zs us n k (x ++ [(i : Int)]) (part + 1) (i + 1) else []) wr)) (fun iv _ => n - (intOf iv).toNat)
  case atStart => exact ⟨fr, ⟨Nat.le_refl _, hfr⟩, rfl, by rw [flR_zero, List.append_nil]; exact HS.out⟩
  case round =>
    clear HS
    obtain ⟨i, ⟨hi1, hi2⟩, rfl, hS⟩ := hrel
    obtain ⟨Li, hLi⟩ : ∃ Li, L ++ (List.range' fr (i - fr)).flatMap (fun i => if okI s p zs us part fr i then asgB s p zs us n k (x ++ [(i : Int)]) (part + 1) (i + 1) else []) = Li := ⟨_, rfl⟩
    have hstep := flR_succ (fun i => if okI s p zs us part fr i then asgB s p zs us n k (x ++ [(i : Int)]) (part + 1) (i + 1) else []) fr i hi1
    rw [hLi] at hS
    obtain ⟨av, cv, cs, kA, kC, hcs, hAll, kS, kH, kF, kB, kX, hB, hw2⟩ := hS.out
    obtain ⟨aF, bF⟩ := kF.read; have yF := kF.lt
    by_cases hlt : i < n
    · have hmono := flR_mono (fun i => if okI s p zs us part fr i then asgB s p zs us n k (x ++ [(i : Int)]) (part + 1) (i + 1) else []) fr (i + 1) n (by omega) (by omega)
      have hnext : L ++ (List.range' fr (i + 1 - fr)).flatMap (fun i => if okI s p zs us part fr i then asgB s p zs us n k (x ++ [(i : Int)]) (part + 1) (i + 1) else []) = Li ++ (if okI s p zs us part fr i then asgB s p zs us n k (x ++ [(i : Int)]) (part + 1) (i + 1) else []) := by rw [hstep, ← List.append_assoc, hLi]
      have hlen2 : (Li ++ (if okI s p zs us part fr i then asgB s p zs us n k (x ++ [(i : Int)]) (part + 1) (i + 1) else [])).length < 1099511627776 := by
        rw [← hnext, List.length_append]
        have h9 := HLen.out
        have e9 : asgB s p zs us n (k + 1) x part fr = (List.range' fr (n - fr)).flatMap (fun i => if okI s p zs us part fr i then asgB s p zs us n k (x ++ [(i : Int)]) (part + 1) (i + 1) else []) := rfl
        rw [e9] at h9
        omega
      have HNX := Lib.hid hnext
      have HL2 := Lib.hid hlen2
      obtain ⟨nL, hnL⟩ : ∃ nL, Li.length = nL := ⟨_, rfl⟩
      rw [hnL] at kA hAll
      have HNL := Lib.hid hnL
      have HALL := Lib.hid hAll
      have HCS := Lib.hid hcs
      clear hmono hnext hlen2 hnL hAll hcs hstep hLi hS
      have p0 : (0 : Int) ≤ (i : Int) := by omega
      have p1 : (i : Int) < (n : Int) := by omega
      have p2 : (0 : Int) ≤ (part : Int) := by omega
      have p3 : (part : Int) < (m : Int) := by omega
      obtain ⟨b1, o1, z1, z2, ha1, hb1, hz1, hz2, g1, g2, d1, d2⟩ := HR1.out.two hlt (show r < n by omega)
      obtain ⟨b2, o2, u1, u2, ha2, hb2, hu1, hu2, g3, g4, d3, d4⟩ := HR2.out.two hpm (show q < m by omega)
      have g1 := HZS.out _ g1; have g2 := HZS.out _ g2; have g3 := HUS.out _ g3; have g4 := HUS.out _ g4
      have wz1 : IntKind.i64.wrap (z1 - z2) = z1 - z2 := IntWalk.i64_in _ (by omega)
      have wz2 : IntKind.i64.wrap (u1 - u2) = u1 - u2 := IntWalk.i64_in _ (by omega)
      have HG := Lib.hid (agree_any s p g l (z1 - z2) (u1 - u2) hs hp (by omega) (by omega))
      have hok : okI s p zs us part fr i = agrB s p (z1 - z2) (u1 - u2) := by
        unfold okI
        rw [hz1, hu1, show fr - 1 = r by have := HR0.out; omega, show part - 1 = q by have := HP0.out; omega, hz2, hu2]
        have : (part == 0) = false := by have := HP0.out; simp; omega
        rw [this]; rfl
      obtain ⟨bo, hbo⟩ : ∃ bo, agrB s p (z1 - z2) (u1 - u2) = bo := ⟨_, rfl⟩
      rw [hbo] at hok HG
      have HOK := Lib.hid hok
      have HCS2 : Hid (∀ W, Below wr.heap.size wr W → W.cell? ⟨b1, o1 + i, none⟩ = some (.int .i64 z1) ∧ W.cell? ⟨b1, o1 + r, none⟩ = some (.int .i64 z2) ∧ W.cell? ⟨b2, o2 + part, none⟩ = some (.int .i64 u1) ∧ W.cell? ⟨b2, o2 + q, none⟩ = some (.int .i64 u2)) := fun W hW => ⟨cell_later (belowThru hB hW) d1, cell_later (belowThru hB hW) d2, cell_later (belowThru hB hW) d3, cell_later (belowThru hB hW) d4⟩
      have jF : Blk wr BF #[.slice (some ⟨b1, o1, none⟩) n c1] 56 := by rw [← ha1]; exact kF
      have jS : Blk wr BS #[.slice (some ⟨b2, o2, none⟩) m c2] 56 := by rw [← ha2]; exact kS
      have hnBF : BB ≠ BF := kB.ne kF (by decide)
      clear hok hbo hz1 hz2 hu1 hu2 g1 g2 g3 g4 d1 d2 d3 d4 hb1 hb2 ha1 ha2
      go_wp2_with fail
      clear aF bF yF
      obtain ⟨Wp, rfl⟩ : ∃ W, W = wr := ⟨_, rfl⟩
      go_region_held3 (fun w' => (Blk w' BB #[.int .i64 s, .int .i64 p, .int .i64 g, .int .i64 l] 23 ∧ (∀ i : Nat, w'.cell? ⟨BB, i, none⟩ = (#[.int .i64 s, .int .i64 p, .int .i64 g, .int .i64 l] : Array Value)[i]?)) ∧ (Blk w' BF #[.slice (some ⟨b1, o1, none⟩) n c1] 56 ∧ (∀ i : Nat, w'.cell? ⟨BF, i, none⟩ = (#[.slice (some ⟨b1, o1, none⟩) n c1] : Array Value)[i]?)) ∧ (Blk w' BS #[.slice (some ⟨b2, o2, none⟩) m c2] 56 ∧ (∀ i : Nat, w'.cell? ⟨BS, i, none⟩ = (#[.slice (some ⟨b2, o2, none⟩) m c2] : Array Value)[i]?)) ∧ (w'.cell? ⟨b1, o1 + i, none⟩ = some (.int .i64 z1) ∧ w'.cell? ⟨b1, o1 + r, none⟩ = some (.int .i64 z2) ∧ w'.cell? ⟨b2, o2 + part, none⟩ = some (.int .i64 u1) ∧ w'.cell? ⟨b2, o2 + q, none⟩ = some (.int .i64 u2)) ∧ Below Wp.heap.size Wp w')
        (((first | (apply hold3; (focus assumption); intro p0 p1 p2 pB; obtain ⟨pc, pB⟩ := pB) | skip); refine ⟨Blk.full ?_, Blk.full ?_, Blk.full ?_, ?_, ?_⟩; all_goals (first | ((repeat' (first | (with_reducible assumption) | ((with_reducible refine Blk.new ?_); first | rfl | (simp; done)) | (with_reducible refine Blk.later (by assumption) ?_) | (with_reducible refine Blk.alloc ?_) | (with_reducible refine Blk.drewN ?_) | (with_reducible refine Blk.drew ?_) | (with_reducible refine Blk.other ?_ (by first | omega | (simp; done) | (simp; omega))))); done) | ((repeat' (first | (with_reducible exact Below.refl _ _) | (with_reducible assumption) | (with_reducible refine belowThru ?_ (by assumption)) | (with_reducible refine belowAlloc ?_) | (with_reducible refine Below.setCell ?_ (by first | omega | (simp; done) | (simp; omega)) _) | (with_reducible refine Below.drew ?_) | (with_reducible refine below_drewN ?_ _))); done) | exact Below.refl _ _ | exact HCS2.out _ (by first | exact Below.refl _ _ | (repeat' (first | (with_reducible exact Below.refl _ _) | (with_reducible assumption) | (with_reducible refine belowThru ?_ (by assumption)) | (with_reducible refine belowAlloc ?_) | (with_reducible refine Below.setCell ?_ (by first | omega | (simp; done) | (simp; omega)) _) | (with_reducible refine Below.drew ?_) | (with_reducible refine below_drewN ?_ _)))))))
        (first
        | (go_at_call 51; (with_reducible refine (HG.out _).mono ?_); rintro e w1 ⟨rfl, hb⟩))
      all_goals
        apply hold3; (focus assumption); intro p0 p1 p2 pB
        obtain ⟨-, hb6⟩ := pB
        clear p0 p1 p2 jF jS HCS2
        cases bo with
        | false =>
          replace kA := Blk.later hb6 kA; replace kC := Blk.later hb6 kC; replace kS := Blk.later hb6 kS; replace kH := Blk.later hb6 kH; replace kF := Blk.later hb6 kF; replace kB := Blk.later hb6 kB; replace kX := Blk.later hb6 kX
          replace HALL : Hid (AllR B2 w1 (.slice av nL cv) Li) := AllR.later hb6 HALL.out
          replace hB := belowThru hB hb6
          replace hw2 : B2 ≤ w1.heap.size := Nat.le_trans hw2 hb6.size
          go_wp2_with fail
          go_roundw
          case rel => exact ⟨i + 1, ⟨by omega, hlt⟩, by go_num, by rw [HNX.out, HOK.out, if_neg (by decide), List.append_nil]; exact ⟨av, cv, cs, by rw [HNL.out]; exact kA, kC, HCS.out, by rw [HNL.out]; exact HALL.out, kS, kH, kF, kB, kX, hB, hw2⟩⟩
          case measure => simp [intOf]; omega
        | true =>
          replace kA := Blk.later hb6 kA; replace kC := Blk.later hb6 kC; replace kS := Blk.later hb6 kS; replace kH := Blk.later hb6 kH; replace kF := Blk.later hb6 kF; replace kB := Blk.later hb6 kB; replace kX := Blk.later hb6 kX
          replace HALL : Hid (AllR B2 w1 (.slice av nL cv) Li) := AllR.later hb6 HALL.out
          replace hB := belowThru hB hb6
          replace hw2 : B2 ≤ w1.heap.size := Nat.le_trans hw2 hb6.size
          obtain ⟨zc, hzc⟩ : ∃ zc, w1.cell? ⟨gC, part, none⟩ = some (.int .i64 zc) := ⟨cs[part]'(by have := HCS.out.1; omega), by rw [kC.cells, ints_get, List.getElem?_eq_getElem]; rfl⟩
          obtain ⟨aH, bH⟩ := kH.read; have yH := kH.lt
          obtain ⟨aC, bC⟩ := kC.read; have yC := kC.lt
          obtain ⟨aX, bX⟩ := kX.read; have yX := kX.lt
          have hneX := kX.ne kC (by decide)
          have hneX2 : gC ≠ BX := fun e => hneX e.symm
          have v1 : IntKind.i64.wrap ((part : Int) + 1) = (part : Int) + 1 := IntWalk.i64_in _ (by omega)
          have v2 : IntKind.i64.wrap ((i : Int) + 1) = (i : Int) + 1 := IntWalk.i64_in _ (by omega)
          have hS7 : Hid (StM s p g l a1 a2 n m c1 c2 BS BA BC BF BB BX gC B2 w0 (x ++ [(i : Int)]) Li (w1.setCell ⟨gC, part, none⟩ (.int .i64 (i : Int)))) := by
            have h1 := HCS.out.1
            have h2 := HCS.out.2
            have hxl := HX.out
            refine ⟨av, cv, cs.set part (i : Int), by rw [HNL.out]; exact Blk.other kA (kA.ne kC (by decide)), by rw [← ints_setM]; exact Blk.set (i := part) (v := .int .i64 (i : Int)) kC, ⟨by rw [List.length_set]; exact h1, ?_⟩, by rw [HNL.out]; exact AllR.set HALL.out hltC _, Blk.other kS (kS.ne kC (by decide)), Blk.other kH (kH.ne kC (by decide)), Blk.other kF (kF.ne kC (by decide)), Blk.other kB (kB.ne kC (by decide)), Blk.other kX (kX.ne kC (by decide)), hB.setCell hG _, by simpa [World.setCell] using hw2⟩
            rw [List.length_append, hxl]
            show (cs.set part (i : Int)).take (part + 1) = _
            rw [List.take_add_one, List.getElem?_set_self (by have := HPM.out; omega), List.take_set_of_le (Nat.le_refl _), ← hxl, h2]
            rfl
          have HI := Lib.hid (IH.out i (x ++ [(i : Int)]) Li _ hlt (by rw [List.length_append, HX.out]; rfl) (by have := HL2.out; rw [HOK.out, if_pos rfl, List.length_append] at this; exact this) hS7.out)
          clear hS7 kA kS kF kB
          go_wp2_with fail
          clear aH bH aC bC aX bX yH yC yX hzc kC kH kX
          refine HI.out.mono ?_
          rintro e W9 ⟨rfl, hS9⟩
          have HS9 : Hid (StM s p g l a1 a2 n m c1 c2 BS BA BC BF BB BX gC B2 w0 x (Li ++ asgB s p zs us n k (x ++ [(i : Int)]) (part + 1) (i + 1)) W9) := by
            obtain ⟨av', cv', cs', q1, q2, ⟨q3, q4⟩, q5⟩ := hS9
            refine ⟨av', cv', cs', q1, q2, ⟨q3, ?_⟩, q5⟩
            have h2 := congrArg (List.take x.length) q4
            rw [List.take_take, List.length_append, Nat.min_eq_left (by omega), List.take_left'] at h2
            · exact h2
            · rfl
          clear hS9
          go_wp2_with fail
          go_roundw
          case rel => exact ⟨i + 1, ⟨by omega, hlt⟩, by go_num, by rw [HNX.out, HOK.out, if_pos rfl]; exact HS9.out⟩
          case measure => simp [intOf]; omega
    · obtain rfl : i = n := by omega
      have hf : L ++ asgB s p zs us i (k + 1) x part fr = Li := hLi
      rw [← hf] at hS
      have HS2 := Lib.hid hS.out
      clear hstep hLi hS kA kC hcs hAll kS kH kB kX
      go_wp2_with fail
      go_end0
      exact ⟨rfl, HS2.out⟩
end
end Go.Proofs.Ytnkpejinnbiocaa
