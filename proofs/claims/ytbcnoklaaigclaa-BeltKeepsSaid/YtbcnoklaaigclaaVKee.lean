/-
  The law BeltKeeps.
-/
import Derived.Deep.CutBlock
import Derived.Test.YtbcnoklaaigclaaVAl3
import Derived.Test.YtbcnoklaaigclaaVSme
import Derived.Test.YtbcnoklaaigclaaVKeA
namespace Go.Proofs.Ytbcnoklaaigclaa
open Go.RowKit Go.Shelf
set_option linter.unusedVariables false
set_option linter.unusedSimpArgs false


theorem rowOf' {w : World} {B n : Nat} {a : Option Addr} {cap : Nat} {xs : List Sn} (h : OwnK 68 4 sn1 B w (.slice a n cap) xs) : RowK 4 sn1 w a n xs := by
  obtain ⟨a', c, e, hr, hc, -⟩ := h.row elem_sn
  have e : Value.slice a n cap = Value.slice a' xs.length c := e
  cases e
  exact hr
theorem rowOfF {w : World} {B n : Nat} {a : Option Addr} {cap : Nat} {xs : List Ft} (h : OwnK 46 3 ft1 B w (.slice a n cap) xs) : RowK 3 ft1 w a n xs := by
  obtain ⟨a', c, e, hr, hc, -⟩ := h.row elem_ft
  have e : Value.slice a n cap = Value.slice a' xs.length c := e
  cases e
  exact hr
theorem set_same {f z nx c id q2 q3 vd : Int} {q4 : Bool} {xs : List Sn} {k : Nat} (h : okPs f z nx c (-1) (-1) xs) (hk : xs[k]? = some (id, q2, q3, q4)) (j : Nat) (x y : Sn) (hx : xs[j]? = some x) (hy : (xs.set k (id, q2, vd, q4))[j]? = some y) :
    y.1 = x.1 ∧ y.2.1 = x.2.1 ∧ y.2.2.1 = (if y.1 = id then vd else x.2.2.1) ∧ y.2.2.2 = x.2.2.2 := by
  by_cases hj : k = j
  · subst hj
    rw [List.getElem?_set_self (List.getElem?_eq_some_iff.1 hk).1] at hy
    rw [hk] at hx
    cases hx; cases hy
    exact ⟨rfl, rfl, by simp, rfl⟩
  · rw [List.getElem?_set_ne hj, hx] at hy
    cases hy
    refine ⟨rfl, rfl, ?_, rfl⟩
    rw [if_neg]
    intro e
    rcases Nat.lt_or_ge k j with h1 | h1
    · have := okPs_apart h hk hx h1; simp only at this; omega
    · have := okPs_apart h hx hk (by omega); simp only at this; omega
set_option maxRecDepth 100000 in
set_option maxHeartbeats 16000000 in
theorem keeps_long (s p g l c nx : Int) (a : Option Addr) (n cap : Nat) (id vd m : Int) (w : World) (d0 : decide ((50 : Int) < n) = true) :
    Calls Try.prog 13 #[.agg #[.int .i64 s, .int .i64 p, .int .i64 g, .int .i64 l, .int .i64 c, .int .i64 nx, .slice a n cap], .int .i64 id, .int .u8 vd, .int .i64 m] w fun e w' => e = .returned (.bool true) ∧ Below w.heap.size w w' := by
  have HA := Lib.hid alive_true
  go_enter Try.func13, Try.ntmps13
  go_wp2_with fail
  refine (HA.out _).mono ?_
  rintro e w1 ⟨rfl, hb⟩
  have k0 : Blk w1 w.heap.size #[.int .i64 s, .int .i64 p, .int .i64 g, .int .i64 l, .int .i64 c, .int .i64 nx, .slice a n cap] 36 := Blk.later hb (Blk.new rfl)
  have hB : Below w.heap.size w w1 := belowThru (belowAlloc (Below.refl _ _)) hb
  clear hb
  obtain ⟨a0, b0⟩ := k0.read; have y0 := k0.lt
  go_wp2_with fail
  go_ret
  exact ⟨rfl, by (repeat' (first | (with_reducible exact Below.refl _ _) | (with_reducible assumption) | (with_reducible refine belowThru ?_ (by assumption)) | (with_reducible refine belowAlloc ?_) | (with_reducible refine Below.setCell ?_ (by first | omega | (simp; done) | (simp; omega)) _) | (with_reducible refine Below.drew ?_) | (with_reducible refine below_drewN ?_ _)))⟩
set_option maxRecDepth 100000 in
set_option maxHeartbeats 16000000 in
theorem keeps_walk (s p g l c nx : Int) (a : Option Addr) (n cap : Nat) (id vd m : Int) (xs : List Sn) (hcap : n ≤ cap) (hn : n ≤ 50) (w : World) (hR : RowK 4 sn1 w a n xs) :
    Calls Try.prog 13 #[.agg #[.int .i64 s, .int .i64 p, .int .i64 g, .int .i64 l, .int .i64 c, .int .i64 nx, .slice a n cap], .int .i64 id, .int .u8 vd, .int .i64 m] w fun e w' => e = .returned (.bool true) ∧ Below w.heap.size w w' := by
  have HA := Lib.hid alive_true
  have HR := Lib.hid hR
  have HL := Lib.hid hR.1
  have HN := Lib.hid hn
  have hcap' := Lib.hid hcap
  have HSe := Lib.hid (fun w hR => sense_any s p g l c nx a n cap xs hcap (by unfold maxLen; omega) w hR)
  have HTe := Lib.hid (fun w hR => tell_any s p g l c nx a n cap id vd xs (by unfold maxLen; omega) w hR)
  have HAd := Lib.hid (fun w hR => adv_any s p g l c nx m a n cap xs (by unfold maxLen; omega) w hR)
  have d0 : decide ((50 : Int) < n) = false := decide_eq_false (by omega)
  clear hR hn hcap
  go_enter Try.func13, Try.ntmps13
  go_wp2_with fail
  refine (HA.out _).mono ?_
  rintro e w1 ⟨rfl, hb⟩
  have k0 : Blk w1 w.heap.size #[.int .i64 s, .int .i64 p, .int .i64 g, .int .i64 l, .int .i64 c, .int .i64 nx, .slice a n cap] 36 := Blk.later hb (Blk.new rfl)
  have hB : Below w.heap.size w w1 := belowThru (belowAlloc (Below.refl _ _)) hb
  clear hb
  obtain ⟨a0, b0⟩ := k0.read; have y0 := k0.lt
  go_upto_if 33 with fail
  iterate 5 go_step
  clear a0 b0 y0
  go_cut [10, 11, 12, 13] (fun _ _ _ _ wx => Blk wx w.heap.size #[.int .i64 s, .int .i64 p, .int .i64 g, .int .i64 l, .int .i64 c, .int .i64 nx, .slice a n cap] 36 ∧ Below w.heap.size w wx)
  case first => as_aux_lemma =>
    obtain ⟨a0, b0⟩ := k0.read; have y0 := k0.lt
    go_wp2_with fail
    refine (HSe.out _ (HR.out.later hB)).mono ?_
    rintro e w2 ⟨⟨E, -, hE, rfl⟩ | ⟨-, ho, ho2, v, rfl, hO⟩, hb⟩
    · clear a0 b0 y0
      replace k0 := Blk.later hb k0; replace hB := belowThru hB hb
      clear hb
      have hE2 : (E == 0) = false := by simpa using hE
      go_wp2_with fail
      go_meet
      case rel => exact ⟨by exact k0.alloc, by (repeat' (first | (with_reducible exact Below.refl _ _) | (with_reducible assumption) | (with_reducible refine belowThru ?_ (by assumption)) | (with_reducible refine belowAlloc ?_) | (with_reducible refine Below.setCell ?_ (by first | omega | (simp; done) | (simp; omega)) _) | (with_reducible refine Below.drew ?_) | (with_reducible refine below_drewN ?_ _)))⟩
    · clear a0 b0 y0
      replace k0 := Blk.later hb k0; replace hB := belowThru hB hb
      clear hb
      obtain ⟨a1, c1, e1, -⟩ := hO.row elem_sn
      obtain ⟨n1, hn1⟩ : ∃ k, (xs ++ [(nx, c, 0, false)]).length = k := ⟨_, rfl⟩
      rw [hn1] at e1
      subst e1
      have hn2 : n1 = n + 1 := by rw [← hn1, List.length_append, HL.out]; rfl
      have HN1 := Lib.hid hn2
      have hX := Lib.hid hO
      have HC := HCt s p g l c (nx + 1) a1 n1 c1 (xs ++ [(nx, c, 0, false)]) (by have := HN.out; unfold maxLen; omega) 0 (ckT_yes ho2)
      have v1 : IntKind.i64.wrap (nx + 1) = nx + 1 := by have := ho2.2.2.1; exact IntWalk.i64_in _ (by omega)
      have v2 : IntKind.i64.wrap ((n : Int) + 1) = n + 1 := by have := HN.out; exact IntWalk.i64_in _ (by omega)
      have v3 : ((n1 : Int) != (n : Int) + 1) = false := by rw [hn2]; simp
      have v4 : (nx != nx) = false := by simp
      have v5 : (c != c) = false := by simp
      have v6 : (nx + 1 != nx + 1) = false := by simp
      obtain ⟨g1, o1, q, e2, -, hx, cc⟩ := (rowOf' hX.out).at (j := n) (by rw [hn2]; exact Nat.lt_succ_self n)
      subst e2
      have hq : q = (nx, c, 0, false) := by
        rw [List.getElem?_append_right (by rw [HL.out]; exact Nat.le_refl _), HL.out, Nat.sub_self] at hx
        exact (Option.some.inj hx).symm
      subst hq
      have f0 := cc 0 _ rfl; have f1 := cc 1 _ rfl; have f2 := cc 2 _ rfl; have f3 := cc 3 _ rfl
      clear hx cc hO hn1 ho ho2 hn2
      obtain ⟨a0, b0⟩ := k0.read; have y0 := k0.lt
      have p0 : (0 : Int) ≤ (n : Int) := Int.natCast_nonneg n
      have p1 : (n : Int) < (n1 : Int) := by have := HN1.out; omega
      have qe : ∀ w, Sem.run Try.prog (binOp .neq 68 (.agg #[.int .i64 nx, .int .i64 c, .int .u8 0, .bool false]) (.agg #[.int .i64 nx, .int .i64 c, .int .u8 0, .bool false])) w = .ok (.bool false) w := fun w => by simp [go_sem, Sem.run]
      go_wp2_with fail
      obtain ⟨W2, hW⟩ : ∃ W, (w2.alloc (.cells #[.int .i64 s, .int .i64 p, .int .i64 g, .int .i64 l, .int .i64 c, .int .i64 (nx + 1), .slice (some ⟨g1, o1, none⟩) n1 c1] 36)) = W := ⟨_, rfl⟩
      obtain ⟨BX, hBX⟩ : ∃ b, w2.heap.size = b := ⟨_, rfl⟩
      have k1 : Blk W2 BX #[.int .i64 s, .int .i64 p, .int .i64 g, .int .i64 l, .int .i64 c, .int .i64 (nx + 1), .slice (some ⟨g1, o1, none⟩) n1 c1] 36 := by rw [← hW, ← hBX]; exact Blk.new rfl
      replace k0 : Blk W2 w.heap.size #[.int .i64 s, .int .i64 p, .int .i64 g, .int .i64 l, .int .i64 c, .int .i64 nx, .slice a n cap] 36 := by rw [← hW]; exact k0.alloc
      replace hB : Below w.heap.size w W2 := by rw [← hW]; exact belowAlloc hB
      have hX2 : OwnK 68 4 sn1 w1.heap.size W2 (.slice (some ⟨g1, o1, none⟩) n1 c1) (xs ++ [(nx, c, 0, false)]) := by rw [← hW]; exact hX.out.alloc
      have hb1 : Below w2.heap.size w2 W2 := by rw [← hW]; exact belowAlloc (Below.refl _ _)
      rw [hW, hBX]
      replace hX2 := Lib.hid (rowOf' hX2)
      have F0 := Lib.hid (show W2.cell? ⟨g1, o1 + n * 4, none⟩ = some (.int .i64 nx) by rw [← hW]; exact cell_alloc f0)
      have F1 := Lib.hid (show W2.cell? ⟨g1, o1 + n * 4 + 1, none⟩ = some (.int .i64 c) by rw [← hW]; exact cell_alloc f1)
      have F2 := Lib.hid (show W2.cell? ⟨g1, o1 + n * 4 + 2, none⟩ = some (.int .u8 0) by rw [← hW]; exact cell_alloc f2)
      have F3 := Lib.hid (show W2.cell? ⟨g1, o1 + n * 4 + 3, none⟩ = some (.bool false) by rw [← hW]; exact cell_alloc f3)
      clear a0 b0 y0 f0 f1 f2 f3 hb1 hX hW hBX
      have y0 := k0.lt; have y1 := k1.lt
      go_region_held3 (fun w' => (Blk w' w.heap.size #[.int .i64 s, .int .i64 p, .int .i64 g, .int .i64 l, .int .i64 c, .int .i64 nx, .slice a n cap] 36 ∧ (∀ i : Nat, w'.cell? ⟨w.heap.size, i, none⟩ = (#[.int .i64 s, .int .i64 p, .int .i64 g, .int .i64 l, .int .i64 c, .int .i64 nx, .slice a n cap] : Array Value)[i]?)) ∧ (Blk w' BX #[.int .i64 s, .int .i64 p, .int .i64 g, .int .i64 l, .int .i64 c, .int .i64 (nx + 1), .slice (some ⟨g1, o1, none⟩) n1 c1] 36 ∧ (∀ i : Nat, w'.cell? ⟨BX, i, none⟩ = (#[.int .i64 s, .int .i64 p, .int .i64 g, .int .i64 l, .int .i64 c, .int .i64 (nx + 1), .slice (some ⟨g1, o1, none⟩) n1 c1] : Array Value)[i]?)) ∧ (w'.cell? ⟨g1, o1 + n * 4, none⟩ = some (.int .i64 nx) ∧ w'.cell? ⟨g1, o1 + n * 4 + 1, none⟩ = some (.int .i64 c) ∧ w'.cell? ⟨g1, o1 + n * 4 + 2, none⟩ = some (.int .u8 0) ∧ w'.cell? ⟨g1, o1 + n * 4 + 3, none⟩ = some (.bool false)) ∧ Below W2.heap.size W2 w')
        (((first | (apply hold2; (focus assumption); intro p0 p1 pB; obtain ⟨pc, pB⟩ := pB) | skip); refine ⟨Blk.full ?_, Blk.full ?_, ?_, ?_⟩; all_goals (first | ((repeat' (first | (with_reducible assumption) | ((with_reducible refine Blk.new ?_); first | rfl | (simp; done)) | (with_reducible refine Blk.later (by assumption) ?_) | (with_reducible refine Blk.alloc ?_) | (with_reducible refine Blk.drewN ?_) | (with_reducible refine Blk.drew ?_) | (with_reducible refine Blk.other ?_ (by first | omega | (simp; done) | (simp; omega))))); done) | ((repeat' (first | (with_reducible exact Below.refl _ _) | (with_reducible assumption) | (with_reducible refine belowThru ?_ (by assumption)) | (with_reducible refine belowAlloc ?_) | (with_reducible refine Below.setCell ?_ (by first | omega | (simp; done) | (simp; omega)) _) | (with_reducible refine Below.drew ?_) | (with_reducible refine below_drewN ?_ _))); done) | exact ⟨cell_later (by (repeat' (first | (with_reducible exact Below.refl _ _) | (with_reducible assumption) | (with_reducible refine belowThru ?_ (by assumption)) | (with_reducible refine belowAlloc ?_) | (with_reducible refine Below.setCell ?_ (by first | omega | (simp; done) | (simp; omega)) _) | (with_reducible refine Below.drew ?_) | (with_reducible refine below_drewN ?_ _)))) F0.out, cell_later (by (repeat' (first | (with_reducible exact Below.refl _ _) | (with_reducible assumption) | (with_reducible refine belowThru ?_ (by assumption)) | (with_reducible refine belowAlloc ?_) | (with_reducible refine Below.setCell ?_ (by first | omega | (simp; done) | (simp; omega)) _) | (with_reducible refine Below.drew ?_) | (with_reducible refine below_drewN ?_ _)))) F1.out, cell_later (by (repeat' (first | (with_reducible exact Below.refl _ _) | (with_reducible assumption) | (with_reducible refine belowThru ?_ (by assumption)) | (with_reducible refine belowAlloc ?_) | (with_reducible refine Below.setCell ?_ (by first | omega | (simp; done) | (simp; omega)) _) | (with_reducible refine Below.drew ?_) | (with_reducible refine below_drewN ?_ _)))) F2.out, cell_later (by (repeat' (first | (with_reducible exact Below.refl _ _) | (with_reducible assumption) | (with_reducible refine belowThru ?_ (by assumption)) | (with_reducible refine belowAlloc ?_) | (with_reducible refine Below.setCell ?_ (by first | omega | (simp; done) | (simp; omega)) _) | (with_reducible refine Below.drew ?_) | (with_reducible refine below_drewN ?_ _)))) F3.out⟩)))
        (first
        | (go_at_call 27; (with_reducible refine (HC.out _ (hX2.out.later (by (repeat' (first | (with_reducible exact Below.refl _ _) | (with_reducible assumption) | (with_reducible refine belowThru ?_ (by assumption)) | (with_reducible refine belowAlloc ?_) | (with_reducible refine Below.setCell ?_ (by first | omega | (simp; done) | (simp; omega)) _) | (with_reducible refine Below.drew ?_) | (with_reducible refine below_drewN ?_ _)))))).mono ?_); rintro e w1 ⟨rfl, hb⟩))
      all_goals
        apply hold2; (focus assumption); intro p0 p1 pB
        obtain ⟨pc, pB⟩ := pB
        go_wp2_with fail
        go_meet
        case rel => exact ⟨p0, belowThru hB pB⟩
  case rest =>
    clear k0 hB
    obtain ⟨k0, hB⟩ := hcut
    iterate 2 go_step
    go_cut [14, 15, 16, 17, 18] (fun _ _ _ _ _ wx => Blk wx w.heap.size #[.int .i64 s, .int .i64 p, .int .i64 g, .int .i64 l, .int .i64 c, .int .i64 nx, .slice a n cap] 36 ∧ Below w.heap.size w wx)
    case first => as_aux_lemma =>
      obtain ⟨a0, b0⟩ := k0.read; have y0 := k0.lt
      go_wp2_with fail
      refine (HTe.out _ (HR.out.later hB)).mono ?_
      rintro e w2 ⟨⟨E, -, hE, rfl⟩ | ⟨-, ho, hv, k, q2, q3, q4, hf, hxk, hq3, hq2, ho2, v, rfl, hO⟩, hb⟩
      · clear a0 b0 y0
        replace k0 := Blk.later hb k0; replace hB := belowThru hB hb
        clear hb
        have hE2 : (E == 0) = false := by simpa using hE
        go_wp2_with fail
        go_meet
        case rel => exact ⟨by exact k0.alloc, by (repeat' (first | (with_reducible exact Below.refl _ _) | (with_reducible assumption) | (with_reducible refine belowThru ?_ (by assumption)) | (with_reducible refine belowAlloc ?_) | (with_reducible refine Below.setCell ?_ (by first | omega | (simp; done) | (simp; omega)) _) | (with_reducible refine Below.drew ?_) | (with_reducible refine below_drewN ?_ _)))⟩
      · clear a0 b0 y0
        replace k0 := Blk.later hb k0; replace hB := belowThru hB hb
        clear hb
        have HS := Lib.hid (set_same (vd := vd) ho.2.2.2.2 hxk)
        obtain ⟨Y, hY⟩ : ∃ Y, xs.set k (id, q2, vd, q4) = Y := ⟨_, rfl⟩
        have hYl : Y.length = n := by rw [← hY, List.length_set]; exact HL.out
        rw [hY] at HS ho2 hO
        obtain ⟨a1, c1, e1, -⟩ := hO.row elem_sn
        rw [hYl] at e1
        subst e1
        have HC := HCt s p g l c nx a1 n c1 Y (by have := HN.out; unfold maxLen; omega) 0 (ckT_yes ho2)
        have v3 : ((n : Int) != (n : Int)) = false := by simp
        have hX := Lib.hid (rowOf' hO)
        clear ho hv hf hxk hq3 hq2 ho2 hO hY hYl
        go_wp2_with fail
        have hX2 := Lib.hid (show RowK 4 sn1 (w2.alloc (.cells #[.int .i64 s, .int .i64 p, .int .i64 g, .int .i64 l, .int .i64 c, .int .i64 nx, .slice a1 n c1] 36)) a1 n Y from hX.out.later (belowAlloc (Below.refl _ _)))
        have hB2 : Below w.heap.size w (w2.alloc (.cells #[.int .i64 s, .int .i64 p, .int .i64 g, .int .i64 l, .int .i64 c, .int .i64 nx, .slice a1 n c1] 36)) := belowAlloc hB
        have k1 : Blk (w2.alloc (.cells #[.int .i64 s, .int .i64 p, .int .i64 g, .int .i64 l, .int .i64 c, .int .i64 nx, .slice a1 n c1] 36)) w2.heap.size #[.int .i64 s, .int .i64 p, .int .i64 g, .int .i64 l, .int .i64 c, .int .i64 nx, .slice a1 n c1] 36 := Blk.new rfl
        refine (HC.out _ hX2.out).mono ?_
        rintro e w3 ⟨rfl, hb⟩
        replace k1 := Blk.later hb k1
        replace k0 : Blk w3 w.heap.size #[.int .i64 s, .int .i64 p, .int .i64 g, .int .i64 l, .int .i64 c, .int .i64 nx, .slice a n cap] 36 := Blk.later hb k0.alloc
        replace hB := belowThru hB2 hb
        have hX3 := Lib.hid (hX2.out.later hb)
        clear hb hX hX2 hB2
        obtain ⟨a0, b0⟩ := k0.read; have y0 := k0.lt
        obtain ⟨a1', b1⟩ := k1.read; have y1 := k1.lt
        go_wp2_with fail
        clear a0 b0 y0 a1' b1 y1
        go_loopw [114] (fun v wr => ∃ j : Nat, j ≤ n ∧ v = .int .i64 j ∧ Below w3.heap.size w3 wr) (fun v _ => n - (intOf v).toNat)
        case atStart => exact ⟨0, Nat.zero_le _, rfl, Below.refl _ _⟩
        case round =>
          obtain ⟨j, hj, rfl, hW⟩ := hrel
          have hn50 : n ≤ 50 := HN.out
          by_cases hlt : j < n
          · obtain ⟨b2, o2, y1, y2, y3, y4, rfl, hb2, hy, g0, g1, g2, g3⟩ := hX3.out.seen hlt
            obtain ⟨b3, o3, x1, x2, x3, x4, rfl, hb3, hx, f0, f1, f2, f3⟩ := (HR.out.later hB).seen hlt
            have f0 := cell_later hW f0; have f1 := cell_later hW f1; have f2 := cell_later hW f2; have f3 := cell_later hW f3
            have g0 := cell_later hW g0; have g1 := cell_later hW g1; have g2 := cell_later hW g2; have g3 := cell_later hW g3
            replace hb2 := Nat.lt_of_lt_of_le hb2 hW.size
            replace hb3 := Nat.lt_of_lt_of_le hb3 hW.size
            have p0 : (0 : Int) ≤ (j : Int) := by omega
            have p1 : (j : Int) < (n : Int) := by omega
            obtain ⟨s1, s2, s3, s4⟩ : y1 = x1 ∧ y2 = x2 ∧ y3 = (if y1 = id then vd else x3) ∧ y4 = x4 := HS.out j _ _ hx hy
            subst s1 s2 s4
            clear hx hy
            replace k0 := Blk.later hW k0
            obtain ⟨a0, b0⟩ := k0.read; have y0 := k0.lt
            by_cases hq : y1 = id
            · have d1 : (y1 == id) = true := by simp [hq]
              have s5 : y3 = vd := by rw [if_pos hq] at s3; exact s3
              clear s3 hq
              subst s5
              have qe : ∀ w, Sem.run Try.prog (binOp .neq 68 (.agg #[.int .i64 y1, .int .i64 y2, .int .u8 y3, .bool y4]) (.agg #[.int .i64 y1, .int .i64 y2, .int .u8 y3, .bool y4])) w = .ok (.bool false) w := fun w => by simp [go_sem, Sem.run]
              go_wp2_with fail
              go_roundw
              case rel => exact ⟨j + 1, hlt, by go_num, by (repeat' (first | (with_reducible exact Below.refl _ _) | (with_reducible assumption) | (with_reducible refine belowThru ?_ (by assumption)) | (with_reducible refine belowAlloc ?_) | (with_reducible refine Below.setCell ?_ (by first | omega | (simp; done) | (simp; omega)) _) | (with_reducible refine Below.drew ?_) | (with_reducible refine below_drewN ?_ _)))⟩
              case measure => simp [intOf]; omega
            · have d1 : (y1 == id) = false := by simp [hq]
              have s5 : y3 = x3 := by rw [if_neg hq] at s3; exact s3
              clear s3 hq
              subst s5
              have qe : ∀ w, Sem.run Try.prog (binOp .neq 68 (.agg #[.int .i64 y1, .int .i64 y2, .int .u8 y3, .bool y4]) (.agg #[.int .i64 y1, .int .i64 y2, .int .u8 y3, .bool y4])) w = .ok (.bool false) w := fun w => by simp [go_sem, Sem.run]
              go_wp2_with fail
              go_roundw
              case rel => exact ⟨j + 1, hlt, by go_num, by (repeat' (first | (with_reducible exact Below.refl _ _) | (with_reducible assumption) | (with_reducible refine belowThru ?_ (by assumption)) | (with_reducible refine belowAlloc ?_) | (with_reducible refine Below.setCell ?_ (by first | omega | (simp; done) | (simp; omega)) _) | (with_reducible refine Below.drew ?_) | (with_reducible refine below_drewN ?_ _)))⟩
              case measure => simp [intOf]; omega
          · obtain rfl : j = n := by omega
            go_wp2_with fail
            go_meet
            case rel => exact ⟨Blk.later hW k0, belowThru hB hW⟩
    case rest =>
      clear k0 hB
      obtain ⟨k0, hB⟩ := hcut
      obtain ⟨a0, b0⟩ := k0.read; have y0 := k0.lt
      go_wp2_with fail
      refine (HAd.out _ (HR.out.later hB)).mono ?_
      rintro e w5 ⟨⟨E, -, hE, rfl⟩ | ⟨-, ho, M, rfl, hM, hcM, ho2, v, uf, rfl, hO, hF⟩, hb⟩
      · clear a0 b0 y0
        replace k0 := Blk.later hb k0; replace hB := belowThru hB hb
        clear hb
        go_wp2_with fail
        go_ret
        exact ⟨rfl, belowAlloc hB⟩
      · clear a0 b0 y0
        replace k0 := Blk.later hb k0; replace hB := belowThru hB hb
        clear hb
        have HK := Lib.hid (kept_adB M ho.2.2.2.2)
        obtain ⟨Y, hY⟩ : ∃ Y, (adB (fiB s p g) (laB s p l g) M c xs).1 = Y := ⟨_, rfl⟩
        obtain ⟨K, hK⟩ : ∃ K, (adB (fiB s p g) (laB s p l g) M c xs).2 = K := ⟨_, rfl⟩
        rw [hY, hK] at HK
        rw [hY] at ho2 hO
        rw [hK] at hF
        obtain ⟨C, hC⟩ : ∃ C : Int, c + (M : Int) = C := ⟨_, rfl⟩
        rw [hC] at ho2
        obtain ⟨n1, hn1⟩ : ∃ k, Y.length = k := ⟨_, rfl⟩
        obtain ⟨m1, hm1⟩ : ∃ k, K.length = k := ⟨_, rfl⟩
        obtain ⟨a1, c1, e1, -⟩ := hO.row elem_sn
        rw [hn1] at e1
        subst e1
        obtain ⟨a2, c2, e2, -⟩ := hF.row elem_ft
        rw [hm1] at e2
        subst e2
        have HML := Lib.hid hm1
        have hsum : n = n1 + m1 := by rw [← HL.out, HK.out.1, hn1, hm1]
        have HSum := Lib.hid hsum
        have HC := HCt s p g l C nx a1 n1 c1 Y (by have := HN.out; unfold maxLen; omega) 0 (ckT_yes ho2)
        have v1 : IntKind.i64.wrap (c + (M : Int)) = C := by rw [hC]; have := ho2.2.1; exact IntWalk.i64_in _ (by omega)
        have v2 : IntKind.i64.wrap ((n1 : Int) + (m1 : Int)) = n := by rw [hsum]; have := HN.out; exact IntWalk.i64_in _ (by omega)
        have v3 : ((n : Int) != (n : Int)) = false := by simp
        have v4 : (C != C) = false := by simp
        have v5 : (nx != nx) = false := by simp
        have hX := Lib.hid (rowOf' hO)
        have hZ := Lib.hid (rowOfF hF)
        rw [hC]
        clear ho hM hcM ho2 hO hF hY hK hn1 hm1 hsum hC
        go_wp2_with fail
        have hX2 := Lib.hid (show RowK 4 sn1 (w5.alloc (.cells #[.int .i64 s, .int .i64 p, .int .i64 g, .int .i64 l, .int .i64 C, .int .i64 nx, .slice a1 n1 c1] 36)) a1 n1 Y from hX.out.later (belowAlloc (Below.refl _ _)))
        have hZ2 := Lib.hid (show RowK 3 ft1 (w5.alloc (.cells #[.int .i64 s, .int .i64 p, .int .i64 g, .int .i64 l, .int .i64 C, .int .i64 nx, .slice a1 n1 c1] 36)) a2 m1 K from hZ.out.later (belowAlloc (Below.refl _ _)))
        have hB2 : Below w.heap.size w (w5.alloc (.cells #[.int .i64 s, .int .i64 p, .int .i64 g, .int .i64 l, .int .i64 C, .int .i64 nx, .slice a1 n1 c1] 36)) := belowAlloc hB
        have k1 : Blk (w5.alloc (.cells #[.int .i64 s, .int .i64 p, .int .i64 g, .int .i64 l, .int .i64 C, .int .i64 nx, .slice a1 n1 c1] 36)) w5.heap.size #[.int .i64 s, .int .i64 p, .int .i64 g, .int .i64 l, .int .i64 C, .int .i64 nx, .slice a1 n1 c1] 36 := Blk.new rfl
        refine (HC.out _ hX2.out).mono ?_
        rintro e w6 ⟨rfl, hb⟩
        replace k1 := Blk.later hb k1
        replace k0 : Blk w6 w.heap.size #[.int .i64 s, .int .i64 p, .int .i64 g, .int .i64 l, .int .i64 c, .int .i64 nx, .slice a n cap] 36 := Blk.later hb k0.alloc
        replace hB := belowThru hB2 hb
        have hX3 := Lib.hid (hX2.out.later hb)
        have hZ3 := Lib.hid (hZ2.out.later hb)
        clear hb hX hX2 hZ hZ2 hB2
        obtain ⟨a0, b0⟩ := k0.read; have y0 := k0.lt
        obtain ⟨a1', b1⟩ := k1.read; have y1 := k1.lt
        go_wp2_with fail
        clear a0 b0 y0 a1' b1 y1
        go_loopw [178] (fun v wr => ∃ j : Nat, j ≤ n ∧ v = .int .i64 j ∧ Below w6.heap.size w6 wr) (fun v _ => n - (intOf v).toNat)
        case atStart => exact ⟨0, Nat.zero_le _, rfl, Below.refl _ _⟩
        case round =>
          obtain ⟨j, hj, rfl, hW⟩ := hrel
          have hn50 : n ≤ 50 := HN.out
          by_cases hlt : j < n
          · obtain ⟨b3, o3, x1, x2, x3, x4, rfl, hb3, hx, f0, f1, f2, f3⟩ := (HR.out.later hB).seen hlt
            replace f0 := cell_later hW f0; replace f1 := cell_later hW f1; replace f2 := cell_later hW f2; replace f3 := cell_later hW f3
            replace hb3 := Nat.lt_of_lt_of_le hb3 hW.size
            have p0 : (0 : Int) ≤ (j : Int) := by omega
            have p1 : (j : Int) < (n : Int) := by omega
            by_cases hjm : j < m1
            · obtain ⟨b2, o2, ⟨y1, y2, y3⟩, rfl, hy, g0, g1, g2⟩ := hZ3.out.fate hjm
              replace g0 := cell_later hW g0; replace g1 := cell_later hW g1; replace g2 := cell_later hW g2
              have hb2 : b2 < wr.heap.size := by
                obtain ⟨b', o', z', e', q', -⟩ := hZ3.out.at hjm
                cases e'
                exact Nat.lt_of_lt_of_le q' hW.size
              obtain ⟨s1, s2, s3⟩ : y1 = x1 ∧ y2 = x3 ∧ (x4 = true → y3 = true) := HK.out.2.1 j _ _ hx hy
              subst s1 s2
              clear hx hy
              have d1 : decide ((j : Int) < (m1 : Int)) = true := decide_eq_true (by omega)
              have p2 : (j : Int) < (m1 : Int) := by omega
              have v6 : (y1 != y1) = false := by simp
              have v7 : (y2 != y2) = false := by simp
              cases x4
              · clear s3
                go_wp2_with fail
                go_quiet (fail)
                go_wp2_with fail
                go_roundw
                case rel => exact ⟨j + 1, hlt, by go_num, by (repeat' (first | (with_reducible exact Below.refl _ _) | (with_reducible assumption) | (with_reducible refine belowThru ?_ (by assumption)) | (with_reducible refine belowAlloc ?_) | (with_reducible refine Below.setCell ?_ (by first | omega | (simp; done) | (simp; omega)) _) | (with_reducible refine Below.drew ?_) | (with_reducible refine below_drewN ?_ _)))⟩
                case measure => simp [intOf]; omega
              · obtain rfl := s3 rfl
                clear s3
                go_wp2_with fail
                go_quiet (fail)
                go_wp2_with fail
                go_roundw
                case rel => exact ⟨j + 1, hlt, by go_num, by (repeat' (first | (with_reducible exact Below.refl _ _) | (with_reducible assumption) | (with_reducible refine belowThru ?_ (by assumption)) | (with_reducible refine belowAlloc ?_) | (with_reducible refine Below.setCell ?_ (by first | omega | (simp; done) | (simp; omega)) _) | (with_reducible refine Below.drew ?_) | (with_reducible refine below_drewN ?_ _)))⟩
                case measure => simp [intOf]; omega
            · obtain ⟨i, hi⟩ : ∃ i, j = m1 + i := ⟨j - m1, by omega⟩
              have hil : i < n1 := by have := HSum.out; omega
              obtain ⟨b2, o2, y1, y2, y3, y4, rfl, hb2, hy, g0, g1, g2, g3⟩ := hX3.out.seen hil
              replace g0 := cell_later hW g0; replace g1 := cell_later hW g1; replace g2 := cell_later hW g2; replace g3 := cell_later hW g3
              replace hb2 := Nat.lt_of_lt_of_le hb2 hW.size
              obtain ⟨s1, s2, s3, s4⟩ : y1 = x1 ∧ y2 = x2 ∧ y3 = x3 ∧ (x4 = true → y4 = true) := HK.out.2.2 i (x1, x2, x3, x4) _ (by rw [HML.out, ← hi]; exact hx) hy
              subst s1 s2 s3
              clear hx hy
              have d1 : decide ((j : Int) < (m1 : Int)) = false := decide_eq_false (by omega)
              have v8 : IntKind.i64.wrap ((j : Int) - (m1 : Int)) = (i : Int) := by rw [show (j : Int) - (m1 : Int) = i by omega]; have := HN.out; exact IntWalk.i64_in _ (by omega)
              have p2 : (i : Int) < (n1 : Int) := by omega
              have p3 : (0 : Int) ≤ (i : Int) := by omega
              have v6 : (y1 != y1) = false := by simp
              have v7 : (y2 != y2) = false := by simp
              have v9 : (y3 != y3) = false := by simp
              clear hi
              replace k1 := Blk.later hW k1
              obtain ⟨a1', b1⟩ := k1.read; have y1' := k1.lt
              cases x4
              · clear s4
                go_wp2_with fail
                go_roundw
                case rel => exact ⟨j + 1, hlt, by go_num, by (repeat' (first | (with_reducible exact Below.refl _ _) | (with_reducible assumption) | (with_reducible refine belowThru ?_ (by assumption)) | (with_reducible refine belowAlloc ?_) | (with_reducible refine Below.setCell ?_ (by first | omega | (simp; done) | (simp; omega)) _) | (with_reducible refine Below.drew ?_) | (with_reducible refine below_drewN ?_ _)))⟩
                case measure => simp [intOf]; omega
              · obtain rfl := s4 rfl
                clear s4
                go_wp2_with fail
                go_roundw
                case rel => exact ⟨j + 1, hlt, by go_num, by (repeat' (first | (with_reducible exact Below.refl _ _) | (with_reducible assumption) | (with_reducible refine belowThru ?_ (by assumption)) | (with_reducible refine belowAlloc ?_) | (with_reducible refine Below.setCell ?_ (by first | omega | (simp; done) | (simp; omega)) _) | (with_reducible refine Below.drew ?_) | (with_reducible refine below_drewN ?_ _)))⟩
                case measure => simp [intOf]; omega
          · obtain rfl : j = n := by omega
            go_wp2_with fail
            go_ret
            exact ⟨rfl, belowThru hB hW⟩
theorem keeps_true (s p g l c nx : Int) (a : Option Addr) (n cap : Nat) (id vd m : Int) (xs : List Sn) (hcap : n ≤ cap) (w : World) (hR : RowK 4 sn1 w a n xs) :
    Calls Try.prog 13 #[.agg #[.int .i64 s, .int .i64 p, .int .i64 g, .int .i64 l, .int .i64 c, .int .i64 nx, .slice a n cap], .int .i64 id, .int .u8 vd, .int .i64 m] w fun e w' => e = .returned (.bool true) ∧ Below w.heap.size w w' := by
  by_cases h : (50 : Int) < n
  · exact keeps_long s p g l c nx a n cap id vd m w (decide_eq_true h)
  · exact keeps_walk s p g l c nx a n cap id vd m xs hcap (by omega) w hR
end Go.Proofs.Ytbcnoklaaigclaa
