/-
  The law BeltTrue.
-/
import Derived.Test.YtbcnoklaaigclaaVSme
import Derived.Test.YtbcnoklaaigclaaVMov
import Derived.Test.YtbcnoklaaigclaaVTrM
namespace Go.Proofs.Ytbcnoklaaigclaa
open Go.RowKit Go.Shelf
set_option linter.unusedVariables false
set_option linter.unusedSimpArgs false


def u161 (x : Int) : List Value := [.int .u16 x]
theorem RowK.num16 {w : World} {a : Option Addr} {n : Nat} {xs : List Int} (h : RowK 1 u161 w a n xs) {j : Nat} (hj : j < n) : ∃ b off z, a = some ⟨b, off, none⟩ ∧ xs[j]? = some z ∧ w.cell? ⟨b, off + j, none⟩ = some (.int .u16 z) := by
  obtain ⟨b, off, z, ha, -, hx, hc⟩ := h.at hj
  have h0 := hc 0 _ rfl
  rw [Nat.mul_one, Nat.add_zero] at h0
  exact ⟨b, off, z, ha, hx, h0⟩
theorem run_append_1i (ty : TypeId) {B : Nat} {w : World} {u : Value} {ys : List Int} (x : Int) (hO : OwnK 3 1 in1 B w u ys) (hl : ys.length ≤ 1000000) (hB : B ≤ w.heap.size) :
    ∃ r w', (Builtin.append_ #[31, 31] ty #[u, .slice (some ⟨w.heap.size, 0, none⟩) 1 1]).run Try.prog (w.alloc (.cells #[.int .i64 x] 3)) = .ok r w' ∧ (OwnK 3 1 in1 B w' r (ys ++ [x]) ∧ (w.alloc (.cells #[.int .i64 x] 3)).grownBy w' u.ownBlock ∧ Below B w w' ∧ (r.ownBlock = u.ownBlock ∨ r.ownBlock = some (w.heap.size + 1))) := run_append_1 elem_in ty x hO hl hB
theorem rowIv {w : World} {a : Option Addr} {n : Nat} {xs : List Int} (h : RowK 1 in1 w a n xs) : Row w a n (iv xs) := by
  refine ⟨by rw [iv_length]; exact h.1, fun hn => ?_⟩
  obtain ⟨b, off, ha, hlt, hc⟩ := h.2 hn
  refine ⟨b, off, ha, hlt, fun j hj => ?_⟩
  have e : xs[j]? = some (xs[j]'(by rw [h.1]; exact hj)) := List.getElem?_eq_getElem _
  have q := hc j _ e 0 _ rfl
  rw [Nat.mul_one, Nat.add_zero] at q
  rw [q, iv_get, e]
  rfl
theorem asg_len0 {s p : Int} {zs us : List Int} {n : Nat} {y : List Int} : ∀ (k : Nat) (x : List Int) (part fr : Nat), y ∈ asgB s p zs us n k x part fr → y.length = x.length + k := by
  intro k
  induction k with
  | zero => intro x part fr h; simp [asgB] at h; rw [h]; rfl
  | succ k ih =>
    intro x part fr h
    unfold asgB at h
    rw [List.mem_flatMap] at h
    obtain ⟨i, -, h⟩ := h
    by_cases ho : okI s p zs us part fr i = true
    · rw [if_pos ho] at h
      have := ih _ _ _ h
      rw [this, List.length_append]
      simp
      omega
    · rw [if_neg ho] at h; cases h
/-- A slice of one row. -/
theorem rdL_row {w : World} {g : Nat} {a : Option Addr} {n c : Nat} {y : List Int} (k : Blk w g #[.slice a n c] 31) (h : RowK 1 in1 w a n y) : RdL w (some ⟨g, 0, none⟩) 1 [y] := by
  refine ⟨[(a, n, c)], ⟨rfl, fun _ => ⟨g, 0, rfl, k.lt, fun j x hx i v hv => ?_⟩⟩, rfl, fun i h' y' hi hy => ?_⟩
  · have hi : i = 0 := by
      rcases i with _ | i
      · rfl
      · simp [sl1] at hv
    subst hi
    rcases j with _ | j
    · simp at hx; subst hx
      rw [k.cells]; simpa [sl1, slv] using hv
    · simp at hx
  · rcases i with _ | i
    · simp at hi hy; subst hi; subst hy
      exact h
    · simp at hi
/-- Whether a part is seen. -/
def bitB (sn : Int) (i : Nat) : Bool := (sn / 2 ^ i).tmod 2 == 1
/-- Two rows of one's own that lie apart; the first one is appended to. -/
def Two (B : Nat) (w : World) (u v : Value) (ys zs : List Int) : Prop := OwnK 3 1 in1 B w u ys ∧ OwnK 3 1 in1 B w v zs ∧ (v.ownBlock = none ∨ v.ownBlock ≠ u.ownBlock) ∧ (u.ownBlock = none ∨ u.ownBlock ≠ v.ownBlock) ∧ ys.length ≤ 1000 ∧ zs.length ≤ 1000
theorem Two.swap {B : Nat} {w : World} {u v : Value} {ys zs : List Int} (h : Two B w u v ys zs) : Two B w v u zs ys := ⟨h.2.1, h.1, h.2.2.2.1, h.2.2.1, h.2.2.2.2.2, h.2.2.2.2.1⟩
theorem Two.later {B : Nat} {w w' : World} {u v : Value} {ys zs : List Int} (hb : Below w.heap.size w w') (h : Two B w u v ys zs) : Two B w' u v ys zs := ⟨h.1.later hb, h.2.1.later hb, h.2.2⟩
theorem Two.app (ty : TypeId) {B : Nat} {w : World} {u v : Value} {ys zs : List Int} (x : Int) (h : Two B w u v ys zs) (hl : ys.length < 1000) (hB : B ≤ w.heap.size) :
    ∃ r w', (Builtin.append_ #[31, 31] ty #[u, .slice (some ⟨w.heap.size, 0, none⟩) 1 1]).run Try.prog (w.alloc (.cells #[.int .i64 x] 3)) = .ok r w' ∧ (Hid (Two B w' r v (ys ++ [x]) zs) ∧ Below B w w') := by
  obtain ⟨h1, h2, h3, h4, h5, h6⟩ := h
  obtain ⟨r, w', e, k1, k2, k3, k4⟩ := run_append_1i ty x h1 (by omega) hB
  have hv : v.ownBlock = none ∨ v.ownBlock ≠ r.ownBlock := by
    rcases h3 with h3 | h3
    · exact .inl h3
    · right
      rcases k4 with k4 | k4
      · rw [k4]; exact h3
      · rw [k4]
        intro he
        have := (h2.lt _ he).2
        omega
  refine ⟨r, w', e, ⟨k1, OwnK.but h2.alloc k2 h3, hv, ?_, by rw [List.length_append]; simp; omega, h6⟩, k3⟩
  rcases hv with hv | hv
  · right
    rw [hv]
    intro he
    rcases k4 with k4 | k4
    · rcases h4 with h4 | h4
      · exact (by
          rcases k1.2 with ⟨-, h0⟩ | ⟨g, cap, cur, rfl, -⟩
          · rw [List.length_append] at h0; simp at h0
          · cases he)
      · exact h4 (by rw [← k4, he, hv])
    · rw [k4] at he; cases he
  · exact .inr (fun he => hv he.symm)
set_option maxRecDepth 100000 in
set_option maxHeartbeats 16000000 in
theorem tru_g0 (s p g l : Int) (ag ac ao : Option Addr) (N n2 n3 cg cc co : Nat) (sn sa sb : Int) (w : World) (HV : Hid (∀ w, Calls Try.prog 46 #[.agg #[.int .i64 s, .int .i64 p, .int .i64 g, .int .i64 l]] w fun e w' => e = .returned (.bool false) ∧ Below w.heap.size w w')) :
    Calls Try.prog 14 #[.agg #[.int .i64 s, .int .i64 p, .int .i64 g, .int .i64 l], .slice ag N cg, .slice ac n2 cc, .slice ao n3 co, .int .u16 sn, .int .u16 sa, .int .u16 sb] w fun e w' => e = .returned (.bool true) ∧ Below w.heap.size w w' := by
  have HA := Lib.hid alive_true
  go_enter Try.func14, Try.ntmps14
  go_wp2_with fail
  refine (HA.out _).mono ?_
  rintro e w1 ⟨rfl, hb⟩
  have k0 : Blk w1 w.heap.size #[.int .i64 s, .int .i64 p, .int .i64 g, .int .i64 l] 26 := Blk.later hb (Blk.new rfl)
  have hB : Below w.heap.size w w1 := belowThru (belowAlloc (Below.refl _ _)) hb
  clear hb
  obtain ⟨a0, b0⟩ := k0.read; have y0 := k0.lt
  go_wp2_with fail
  refine (HV.out _).mono ?_
  rintro e w2 ⟨rfl, hb⟩
  clear a0 b0 y0
  replace k0 := Blk.later hb k0; replace hB := belowThru hB hb
  clear hb
  go_wp2_with fail
  go_ret
  exact ⟨rfl, by (repeat' (first | (with_reducible exact Below.refl _ _) | (with_reducible assumption) | (with_reducible refine belowThru ?_ (by assumption)) | (with_reducible refine belowAlloc ?_) | (with_reducible refine Below.setCell ?_ (by first | omega | (simp; done) | (simp; omega)) _) | (with_reducible refine Below.drew ?_) | (with_reducible refine below_drewN ?_ _)))⟩
set_option maxRecDepth 100000 in
set_option maxHeartbeats 16000000 in
theorem tru_g1 (s p g l : Int) (ag ac ao : Option Addr) (N n2 n3 cg cc co : Nat) (sn sa sb : Int) (w : World) (HV : Hid (∀ w, Calls Try.prog 46 #[.agg #[.int .i64 s, .int .i64 p, .int .i64 g, .int .i64 l]] w fun e w' => e = .returned (.bool true) ∧ Below w.heap.size w w')) (d0 : decide ((9 : Int) < N) = true) :
    Calls Try.prog 14 #[.agg #[.int .i64 s, .int .i64 p, .int .i64 g, .int .i64 l], .slice ag N cg, .slice ac n2 cc, .slice ao n3 co, .int .u16 sn, .int .u16 sa, .int .u16 sb] w fun e w' => e = .returned (.bool true) ∧ Below w.heap.size w w' := by
  have HA := Lib.hid alive_true
  go_enter Try.func14, Try.ntmps14
  go_wp2_with fail
  refine (HA.out _).mono ?_
  rintro e w1 ⟨rfl, hb⟩
  have k0 : Blk w1 w.heap.size #[.int .i64 s, .int .i64 p, .int .i64 g, .int .i64 l] 26 := Blk.later hb (Blk.new rfl)
  have hB : Below w.heap.size w w1 := belowThru (belowAlloc (Below.refl _ _)) hb
  clear hb
  obtain ⟨a0, b0⟩ := k0.read; have y0 := k0.lt
  go_wp2_with fail
  refine (HV.out _).mono ?_
  rintro e w2 ⟨rfl, hb⟩
  clear a0 b0 y0
  replace k0 := Blk.later hb k0; replace hB := belowThru hB hb
  clear hb
  go_wp2_with fail
  go_ret
  exact ⟨rfl, by (repeat' (first | (with_reducible exact Below.refl _ _) | (with_reducible assumption) | (with_reducible refine belowThru ?_ (by assumption)) | (with_reducible refine belowAlloc ?_) | (with_reducible refine Below.setCell ?_ (by first | omega | (simp; done) | (simp; omega)) _) | (with_reducible refine Below.drew ?_) | (with_reducible refine below_drewN ?_ _)))⟩
set_option maxRecDepth 100000 in
set_option maxHeartbeats 16000000 in
theorem tru_g2 (s p g l : Int) (ag ac ao : Option Addr) (N n2 n3 cg cc co : Nat) (sn sa sb : Int) (w : World) (HV : Hid (∀ w, Calls Try.prog 46 #[.agg #[.int .i64 s, .int .i64 p, .int .i64 g, .int .i64 l]] w fun e w' => e = .returned (.bool true) ∧ Below w.heap.size w w')) (d0 : decide ((9 : Int) < N) = false) (d1 : ((n2 : Int) != (N : Int)) = true) :
    Calls Try.prog 14 #[.agg #[.int .i64 s, .int .i64 p, .int .i64 g, .int .i64 l], .slice ag N cg, .slice ac n2 cc, .slice ao n3 co, .int .u16 sn, .int .u16 sa, .int .u16 sb] w fun e w' => e = .returned (.bool true) ∧ Below w.heap.size w w' := by
  have HA := Lib.hid alive_true
  go_enter Try.func14, Try.ntmps14
  go_wp2_with fail
  refine (HA.out _).mono ?_
  rintro e w1 ⟨rfl, hb⟩
  have k0 : Blk w1 w.heap.size #[.int .i64 s, .int .i64 p, .int .i64 g, .int .i64 l] 26 := Blk.later hb (Blk.new rfl)
  have hB : Below w.heap.size w w1 := belowThru (belowAlloc (Below.refl _ _)) hb
  clear hb
  obtain ⟨a0, b0⟩ := k0.read; have y0 := k0.lt
  go_wp2_with fail
  refine (HV.out _).mono ?_
  rintro e w2 ⟨rfl, hb⟩
  clear a0 b0 y0
  replace k0 := Blk.later hb k0; replace hB := belowThru hB hb
  clear hb
  go_wp2_with fail
  go_ret
  exact ⟨rfl, by (repeat' (first | (with_reducible exact Below.refl _ _) | (with_reducible assumption) | (with_reducible refine belowThru ?_ (by assumption)) | (with_reducible refine belowAlloc ?_) | (with_reducible refine Below.setCell ?_ (by first | omega | (simp; done) | (simp; omega)) _) | (with_reducible refine Below.drew ?_) | (with_reducible refine below_drewN ?_ _)))⟩
set_option maxRecDepth 100000 in
set_option maxHeartbeats 16000000 in
theorem tru_g3 (s p g l : Int) (ag ac ao : Option Addr) (N n2 n3 cg cc co : Nat) (sn sa sb : Int) (w : World) (HV : Hid (∀ w, Calls Try.prog 46 #[.agg #[.int .i64 s, .int .i64 p, .int .i64 g, .int .i64 l]] w fun e w' => e = .returned (.bool true) ∧ Below w.heap.size w w')) (d0 : decide ((9 : Int) < N) = false) (d1 : ((n2 : Int) != (N : Int)) = false) (d2 : ((n3 : Int) != (N : Int)) = true) :
    Calls Try.prog 14 #[.agg #[.int .i64 s, .int .i64 p, .int .i64 g, .int .i64 l], .slice ag N cg, .slice ac n2 cc, .slice ao n3 co, .int .u16 sn, .int .u16 sa, .int .u16 sb] w fun e w' => e = .returned (.bool true) ∧ Below w.heap.size w w' := by
  have HA := Lib.hid alive_true
  go_enter Try.func14, Try.ntmps14
  go_wp2_with fail
  refine (HA.out _).mono ?_
  rintro e w1 ⟨rfl, hb⟩
  have k0 : Blk w1 w.heap.size #[.int .i64 s, .int .i64 p, .int .i64 g, .int .i64 l] 26 := Blk.later hb (Blk.new rfl)
  have hB : Below w.heap.size w w1 := belowThru (belowAlloc (Below.refl _ _)) hb
  clear hb
  obtain ⟨a0, b0⟩ := k0.read; have y0 := k0.lt
  go_wp2_with fail
  refine (HV.out _).mono ?_
  rintro e w2 ⟨rfl, hb⟩
  clear a0 b0 y0
  replace k0 := Blk.later hb k0; replace hB := belowThru hB hb
  clear hb
  go_wp2_with fail
  go_ret
  exact ⟨rfl, by (repeat' (first | (with_reducible exact Below.refl _ _) | (with_reducible assumption) | (with_reducible refine belowThru ?_ (by assumption)) | (with_reducible refine belowAlloc ?_) | (with_reducible refine Below.setCell ?_ (by first | omega | (simp; done) | (simp; omega)) _) | (with_reducible refine Below.drew ?_) | (with_reducible refine below_drewN ?_ _)))⟩
set_option maxRecDepth 100000 in
set_option maxHeartbeats 16000000 in
theorem tru_walk (s p g l : Int) (ag ac ao : Option Addr) (N cg cc co : Nat) (sn sa sb : Int) (gs ns ms : List Int) (h : okB s p g l) (hN : N ≤ 9) (hg : ∀ x ∈ gs, 0 ≤ x ∧ x ≤ 65535) (hn : ∀ x ∈ ns, 0 ≤ x ∧ x ≤ 255) (hm : ∀ x ∈ ms, 0 ≤ x ∧ x ≤ 255) (hsn : 0 ≤ sn ∧ sn ≤ 65535) (hsa : 0 ≤ sa ∧ sa ≤ 65535) (hsb : 0 ≤ sb ∧ sb ≤ 65535) (w : World) (hRg : RowK 1 u161 w ag N gs) (hRn : RowK 1 u81 w ac N ns) (hRm : RowK 1 u81 w ao N ms) :
    Calls Try.prog 14 #[.agg #[.int .i64 s, .int .i64 p, .int .i64 g, .int .i64 l], .slice ag N cg, .slice ac N cc, .slice ao N co, .int .u16 sn, .int .u16 sa, .int .u16 sb] w fun e w' => e = .returned (.bool true) ∧ Below w.heap.size w w' := by
  have HA := Lib.hid alive_true
  have HV := HRv s p g l true (decide_eq_true h)
  have HG := Lib.hid hg; have HNs := Lib.hid hn; have HMs := Lib.hid hm
  have HRg := Lib.hid hRg; have HRn := Lib.hid hRn; have HRm := Lib.hid hRm; have HO := Lib.hid h; have HN9 := Lib.hid hN
  have d0 : decide ((9 : Int) < N) = false := decide_eq_false (by omega)
  have d1 : ((N : Int) != (N : Int)) = false := by simp
  have e1 : IntKind.i64.wrap sa = sa := IntWalk.i64_in _ (by omega)
  have e2 : IntKind.i64.wrap sb = sb := IntWalk.i64_in _ (by omega)
  obtain ⟨P, hP⟩ : ∃ P, pfx sa ns = P := ⟨_, rfl⟩
  obtain ⟨Q, hQ⟩ : ∃ Q, pfx sb ms = Q := ⟨_, rfl⟩
  have HP := Lib.hid hP; have HQ := Lib.hid hQ
  have hP0 : P 0 = sa := by rw [← hP]; exact pfx_zero _ _
  have hQ0 : Q 0 = sb := by rw [← hQ]; exact pfx_zero _ _
  have HP0 := Lib.hid hP0; have HQ0 := Lib.hid hQ0
  have hS := Lib.hid h.1; have hPb := Lib.hid h.2.1
  clear hg hn hm hRg hRn hRm h hP hQ hP0 hQ0
  go_enter Try.func14, Try.ntmps14
  go_wp2_with fail
  refine (HA.out _).mono ?_
  rintro e w1 ⟨rfl, hb⟩
  have k0 : Blk w1 w.heap.size #[.int .i64 s, .int .i64 p, .int .i64 g, .int .i64 l] 26 := Blk.later hb (Blk.new rfl)
  have hB : Below w.heap.size w w1 := belowThru (belowAlloc (Below.refl _ _)) hb
  clear hb
  obtain ⟨a0, b0⟩ := k0.read; have y0 := k0.lt
  go_wp2_with fail
  refine (HV.out _).mono ?_
  rintro e w2 ⟨rfl, hb⟩
  clear a0 b0 y0
  replace k0 := Blk.later hb k0; replace hB := belowThru hB hb
  clear hb
  obtain ⟨a0, b0⟩ := k0.read; have y0 := k0.lt
  go_wp2_with fail
  clear a0 b0 y0
  obtain ⟨WB, hWB⟩ : ∃ W, (w2.alloc (.cells #[.int .i64 sa] 3)).alloc (.cells #[.int .i64 sb] 3) = W := ⟨_, rfl⟩
  have hT0 : Hid (Two w2.heap.size WB (.slice (some ⟨w2.heap.size, 0, none⟩) 1 1) (.slice (some ⟨w2.heap.size + 1, 0, none⟩) 1 1) ((List.range (0 + 1)).map P) ((List.range (0 + 1)).map Q)) := by
    rw [range_snoc P 0, range_snoc Q 0, HP0.out, HQ0.out, ← hWB]
    refine ⟨OwnK.one elem_in (Blk.alloc (Blk.new rfl)) (Nat.le_refl _), OwnK.one elem_in (Blk.new (by simp)) (by omega), .inr ?_, .inr ?_, by simp, by simp⟩
    · intro h; simp [Value.ownBlock] at h
    · intro h; simp [Value.ownBlock] at h
  have hW0 : Below w2.heap.size w2 WB := by rw [← hWB]; exact belowAlloc (belowAlloc (Below.refl _ _))
  rw [hWB]
  clear hWB
  go_loopw [16, 17, 65] (fun v16 v17 v65 wr => ∃ i : Nat, i ≤ N ∧ v65 = .int .i64 i ∧ Hid (gapsOk s p gs ns ms i) ∧ Hid (Two w2.heap.size wr v16 v17 ((List.range (i + 1)).map P) ((List.range (i + 1)).map Q)) ∧ Below w2.heap.size w2 wr) (fun _ _ v _ => N - (intOf v).toNat)
  case atStart => exact ⟨0, Nat.zero_le _, rfl, fun i hi => absurd hi (Nat.not_lt_zero i), hT0, hW0⟩
  case round =>
    clear hT0 hW0
    obtain ⟨i, hi, rfl, hG, hT, hW⟩ := hrel
    have hN9 : N ≤ 9 := HN9.out
    obtain ⟨g1, c1, f1, -, -, -, hg1, -⟩ := hT.out.1.at0 elem_in (by simp)
    replace f1 : u16 = .slice (some ⟨g1, 0, none⟩) (i + 1) c1 := by rw [f1]; simp
    subst f1
    obtain ⟨g2, c2, f2, -, -, -, hg2, -⟩ := hT.out.2.1.at0 elem_in (by simp)
    replace f2 : u17 = .slice (some ⟨g2, 0, none⟩) (i + 1) c2 := by rw [f2]; simp
    subst f2
    have hbw := belowThru hB hW
    by_cases hlt : i < N
    · have f1 : wr.cell? ⟨g1, i, none⟩ = some (.int .i64 (P i)) := by
        have q := hT.out.1.cellsAt elem_in (j := i) (x := P i) (i := 0) (by simp) rfl
        simpa using q
      have f2 : wr.cell? ⟨g2, i, none⟩ = some (.int .i64 (Q i)) := by
        have q := hT.out.2.1.cellsAt elem_in (j := i) (x := Q i) (i := 0) (by simp) rfl
        simpa using q
      obtain ⟨bg, og, gx, rfl, hgx, cG⟩ := (HRg.out.later hbw).num16 hlt
      obtain ⟨bn, on, nx, rfl, hnx, cN⟩ := (HRn.out.later hbw).num8 hlt
      obtain ⟨bm, om, mx, rfl, hmx, cM⟩ := (HRm.out.later hbw).num8 hlt
      obtain ⟨q1, q2⟩ := HG.out _ (List.mem_of_getElem? hgx)
      obtain ⟨q3, q4⟩ := HNs.out _ (List.mem_of_getElem? hnx)
      obtain ⟨q5, q6⟩ := HMs.out _ (List.mem_of_getElem? hmx)
      have p0 : (0 : Int) ≤ (i : Int) := by omega
      have p1 : (i : Int) < (N : Int) := by omega
      have p2 : (i : Int) < ((i + 1 : Nat) : Int) := by omega
      have hPs : P (i + 1) = P i + nx := by rw [← HP.out]; exact pfx_succ hnx
      have hQs : Q (i + 1) = Q i + mx := by rw [← HQ.out]; exact pfx_succ hmx
      have hPb0 := pfx_bd hsa HNs.out i (by rw [HRn.out.1]; omega)
      have hQb0 := pfx_bd hsb HMs.out i (by rw [HRm.out.1]; omega)
      rw [HP.out] at hPb0
      rw [HQ.out] at hQb0
      obtain ⟨s1, s2⟩ := hS.out
      obtain ⟨t1, t2⟩ := hPb.out
      obtain ⟨F, hF⟩ : ∃ F, s - p = F := ⟨_, rfl⟩
      obtain ⟨T, hTT⟩ : ∃ T, s + p = T := ⟨_, rfl⟩
      have bF : 0 ≤ F ∧ F ≤ 2000 := by omega
      have bT : 0 ≤ T ∧ T ≤ 2000 := by omega
      obtain ⟨X1, hX1⟩ : ∃ X, nx * F = X := ⟨_, rfl⟩
      obtain ⟨X2, hX2⟩ : ∃ X, nx * T = X := ⟨_, rfl⟩
      obtain ⟨X3, hX3⟩ : ∃ X, mx * F = X := ⟨_, rfl⟩
      obtain ⟨X4, hX4⟩ : ∃ X, mx * T = X := ⟨_, rfl⟩
      have bX : ∀ a b : Int, 0 ≤ a ∧ a ≤ 255 → 0 ≤ b ∧ b ≤ 2000 → 0 ≤ a * b ∧ a * b ≤ 255 * 2000 := fun a b h1 h2 => ⟨Int.mul_nonneg h1.1 h2.1, Int.mul_le_mul h1.2 h2.2 h2.1 (by omega)⟩
      have bX1 := bX nx F ⟨q3, q4⟩ bF; have bX2 := bX nx T ⟨q3, q4⟩ bT; have bX3 := bX mx F ⟨q5, q6⟩ bF; have bX4 := bX mx T ⟨q5, q6⟩ bT
      rw [hX1] at bX1; rw [hX2] at bX2; rw [hX3] at bX3; rw [hX4] at bX4
      have z1 : IntKind.i64.wrap gx = gx := IntWalk.i64_in _ (by omega)
      have z2 : IntKind.i64.wrap nx = nx := IntWalk.i64_in _ (by omega)
      have z3 : IntKind.i64.wrap mx = mx := IntWalk.i64_in _ (by omega)
      have z4 : IntKind.i64.wrap (s - p) = F := by rw [hF]; exact IntWalk.i64_in _ (by omega)
      have z5 : IntKind.i64.wrap (s + p) = T := by rw [hTT]; exact IntWalk.i64_in _ (by omega)
      have z6 : IntKind.i64.wrap (nx * F) = X1 := by rw [hX1]; exact IntWalk.i64_in _ (by omega)
      have z7 : IntKind.i64.wrap (nx * T) = X2 := by rw [hX2]; exact IntWalk.i64_in _ (by omega)
      have z8 : IntKind.i64.wrap (mx * F) = X3 := by rw [hX3]; exact IntWalk.i64_in _ (by omega)
      have z9 : IntKind.i64.wrap (mx * T) = X4 := by rw [hX4]; exact IntWalk.i64_in _ (by omega)
      have za : IntKind.i64.wrap (P i + nx) = P (i + 1) := by rw [← hPs]; exact IntWalk.i64_in _ (by omega)
      have zb : IntKind.i64.wrap (Q i + mx) = Q (i + 1) := by rw [← hQs]; exact IntWalk.i64_in _ (by omega)
      have HGp : Hid (¬ nx < 1 → ¬ mx < 1 → ¬ gx < X1 → ¬ X2 < gx → ¬ gx < X3 → ¬ X4 < gx → gapsOk s p gs ns ms (i + 1)) := fun r1 r2 r3 r4 r5 r6 j hj => by
        by_cases hji : j < i
        · exact hG.out j hji
        · obtain rfl : j = i := by omega
          refine ⟨gx, nx, mx, hgx, hnx, hmx, ⟨by omega, by omega⟩, ?_, ?_⟩
          · rw [hF, hTT, hX1, hX2]; omega
          · rw [hF, hTT, hX3, hX4]; omega
      clear hgx hnx hmx hPs hQs hPb0 hQb0 s1 s2 t1 t2 hF hTT bF bT hX1 hX2 hX3 hX4 bX bX1 bX2 bX3 bX4 q1 q2 q3 q4 q5 q6 hG
      have k1 := Blk.later hW k0
      obtain ⟨a0, b0⟩ := k1.read; have y0 := k1.lt
      go_wp2_with fail
      go_quiet (fail)
      obtain ⟨W1, hW1⟩ : ∃ W, wr.drewN nq = W := ⟨_, rfl⟩
      have hb1 : Below w2.heap.size w2 W1 := by rw [← hW1]; exact below_drewN hW _
      have hT1 : Hid (Two w2.heap.size W1 (.slice (some ⟨g1, 0, none⟩) (i + 1) c1) (.slice (some ⟨g2, 0, none⟩) (i + 1) c2) ((List.range (i + 1)).map P) ((List.range (i + 1)).map Q)) := by rw [← hW1]; exact hT.out
      replace f1 : W1.cell? ⟨g1, i, none⟩ = some (.int .i64 (P i)) := by rw [← hW1]; exact f1
      replace f2 : W1.cell? ⟨g2, i, none⟩ = some (.int .i64 (Q i)) := by rw [← hW1]; exact f2
      have k2 := (k1.drewN : Blk (wr.drewN nq) _ _ _); rw [hW1] at k2
      rw [hW1]
      clear hW1 a0 b0 y0 hT hg1 hg2 cG cN cM k1
      obtain ⟨a0, b0⟩ := k2.read; have y0 := k2.lt
      by_cases r1 : nx < 1
      · have dc1 : decide (nx < 1) = true := decide_eq_true r1
        clear HGp r1
        go_wp2_with fail
        go_ret
        exact ⟨rfl, by (repeat' (first | (with_reducible exact Below.refl _ _) | (with_reducible assumption) | (with_reducible refine belowThru ?_ (by assumption)) | (with_reducible refine belowAlloc ?_) | (with_reducible refine Below.setCell ?_ (by first | omega | (simp; done) | (simp; omega)) _) | (with_reducible refine Below.drew ?_) | (with_reducible refine below_drewN ?_ _)))⟩
      have dc1 : decide (nx < 1) = false := decide_eq_false r1
      by_cases r2 : mx < 1
      · have dc2 : decide (mx < 1) = true := decide_eq_true r2
        clear HGp r2
        go_wp2_with fail
        go_ret
        exact ⟨rfl, by (repeat' (first | (with_reducible exact Below.refl _ _) | (with_reducible assumption) | (with_reducible refine belowThru ?_ (by assumption)) | (with_reducible refine belowAlloc ?_) | (with_reducible refine Below.setCell ?_ (by first | omega | (simp; done) | (simp; omega)) _) | (with_reducible refine Below.drew ?_) | (with_reducible refine below_drewN ?_ _)))⟩
      have dc2 : decide (mx < 1) = false := decide_eq_false r2
      by_cases r3 : gx < X1
      · have dc3 : decide (gx < X1) = true := decide_eq_true r3
        clear HGp r3
        go_wp2_with fail
        go_ret
        exact ⟨rfl, by (repeat' (first | (with_reducible exact Below.refl _ _) | (with_reducible assumption) | (with_reducible refine belowThru ?_ (by assumption)) | (with_reducible refine belowAlloc ?_) | (with_reducible refine Below.setCell ?_ (by first | omega | (simp; done) | (simp; omega)) _) | (with_reducible refine Below.drew ?_) | (with_reducible refine below_drewN ?_ _)))⟩
      have dc3 : decide (gx < X1) = false := decide_eq_false r3
      by_cases r4 : X2 < gx
      · have dc4 : decide (X2 < gx) = true := decide_eq_true r4
        clear HGp r4
        go_wp2_with fail
        go_ret
        exact ⟨rfl, by (repeat' (first | (with_reducible exact Below.refl _ _) | (with_reducible assumption) | (with_reducible refine belowThru ?_ (by assumption)) | (with_reducible refine belowAlloc ?_) | (with_reducible refine Below.setCell ?_ (by first | omega | (simp; done) | (simp; omega)) _) | (with_reducible refine Below.drew ?_) | (with_reducible refine below_drewN ?_ _)))⟩
      have dc4 : decide (X2 < gx) = false := decide_eq_false r4
      by_cases r5 : gx < X3
      · have dc5 : decide (gx < X3) = true := decide_eq_true r5
        clear HGp r5
        go_wp2_with fail
        go_ret
        exact ⟨rfl, by (repeat' (first | (with_reducible exact Below.refl _ _) | (with_reducible assumption) | (with_reducible refine belowThru ?_ (by assumption)) | (with_reducible refine belowAlloc ?_) | (with_reducible refine Below.setCell ?_ (by first | omega | (simp; done) | (simp; omega)) _) | (with_reducible refine Below.drew ?_) | (with_reducible refine below_drewN ?_ _)))⟩
      have dc5 : decide (gx < X3) = false := decide_eq_false r5
      by_cases r6 : X4 < gx
      · have dc6 : decide (X4 < gx) = true := decide_eq_true r6
        clear HGp r6
        go_wp2_with fail
        go_ret
        exact ⟨rfl, by (repeat' (first | (with_reducible exact Below.refl _ _) | (with_reducible assumption) | (with_reducible refine belowThru ?_ (by assumption)) | (with_reducible refine belowAlloc ?_) | (with_reducible refine Below.setCell ?_ (by first | omega | (simp; done) | (simp; omega)) _) | (with_reducible refine Below.drew ?_) | (with_reducible refine below_drewN ?_ _)))⟩
      have dc6 : decide (X4 < gx) = false := decide_eq_false r6
      have hG1 := Lib.hid (HGp.out (by omega) (by omega) (by omega) (by omega) (by omega) (by omega))
      clear HGp r1 r2 r3 r4 r5 r6
      have hl1 : ((List.range (i + 1)).map P).length < 1000 := by simp; omega
      have HPa : Hid (∀ ty, ∃ r w', (Builtin.append_ #[31, 31] ty #[.slice (some ⟨g1, 0, none⟩) (i + 1) c1, .slice (some ⟨W1.heap.size, 0, none⟩) 1 1]).run Try.prog (W1.alloc (.cells #[.int .i64 (P (i + 1))] 3)) = .ok r w' ∧ (Hid (Two w2.heap.size w' r (.slice (some ⟨g2, 0, none⟩) (i + 1) c2) ((List.range (i + 1 + 1)).map P) ((List.range (i + 1)).map Q)) ∧ Below w2.heap.size w2 w' ∧ w'.cell? ⟨g2, i, none⟩ = some (.int .i64 (Q i)))) := fun ty => by
        obtain ⟨r, w', h1, h2, h3⟩ := Two.app ty (P (i + 1)) hT1.out hl1 hb1.size
        refine ⟨r, w', h1, ?_, hb1.trans h3, ?_⟩
        · rw [range_snoc P (i + 1)]; exact h2
        · have q := h2.out.2.1.cellsAt elem_in (j := i) (x := Q i) (i := 0) (by simp) rfl
          simpa using q
      have HPb2 : Hid (∀ r w', Hid (Two w2.heap.size w' r (.slice (some ⟨g2, 0, none⟩) (i + 1) c2) ((List.range (i + 1 + 1)).map P) ((List.range (i + 1)).map Q)) → Below w2.heap.size w2 w' → ∀ ty, ∃ r2 w6, (Builtin.append_ #[31, 31] ty #[.slice (some ⟨g2, 0, none⟩) (i + 1) c2, .slice (some ⟨w'.heap.size, 0, none⟩) 1 1]).run Try.prog (w'.alloc (.cells #[.int .i64 (Q (i + 1))] 3)) = .ok r2 w6 ∧ (Hid (Two w2.heap.size w6 r r2 ((List.range (i + 1 + 1)).map P) ((List.range (i + 1 + 1)).map Q)) ∧ Below w2.heap.size w2 w6)) := fun r w' hT hb ty => by
        obtain ⟨r2, w6, h1, h2, h3⟩ := Two.app ty (Q (i + 1)) hT.out.swap (by simp; omega) hb.size
        refine ⟨r2, w6, h1, ?_, hb.trans h3⟩
        rw [range_snoc Q (i + 1)]
        exact h2.out.swap
      clear hl1 hT1
      go_wp2_with (first
        | (at_builtin; (refine wpList_append_row rfl _ _ _ _ rfl _ _ rfl rfl (HPx.out _) ?_); (rintro r2 w6 ⟨hT6, hb6⟩))
        | (at_builtin; (refine wpList_append_row rfl _ _ _ _ rfl _ _ rfl rfl (HPa.out _) ?_); (rintro r w5 ⟨hT5, hb5, f3⟩; have HPx := Lib.hid (HPb2.out r w5 hT5 hb5))))
      go_roundw
      case rel => exact ⟨i + 1, hlt, by go_num, hG1, hT6, hb6⟩
      case measure => simp [intOf]; omega
    · obtain rfl : i = N := by omega
      have hTF := Lib.hid (show RowK 1 in1 wr (some ⟨g2, 0, none⟩) (i + 1) ((List.range (i + 1)).map Q) from by
        obtain ⟨a', c', e, hr, -⟩ := hT.out.2.1.row elem_in
        have hl : ((List.range (i + 1)).map Q).length = i + 1 := by simp
        rw [hl] at e hr
        cases e
        exact hr)
      have hTP := Lib.hid (show RowK 1 in1 wr (some ⟨g1, 0, none⟩) (i + 1) ((List.range (i + 1)).map P) from by
        obtain ⟨a', c', e, hr, -⟩ := hT.out.1.row elem_in
        have hl : ((List.range (i + 1)).map P).length = i + 1 := by simp
        rw [hl] at e hr
        cases e
        exact hr)
      have k1 := Blk.later hW k0
      clear hT hg1 hg2 hi hlt
      generalize hWF : wr = WF at *
      clear hWF
      go_wp2_with fail
      go_loopw [22, 23, 155] (fun v22 v23 v155 wx => ∃ j : Nat, j ≤ i + 1 ∧ v155 = .int .i64 j ∧ Hid (Two WF.heap.size wx v22 v23 (((List.range j).filter (bitB sn)).map Q) (((List.range j).filter (bitB sn)).map (fun (x : Nat) => (x : Int)))) ∧ Below WF.heap.size WF wx) (fun _ _ v _ => i + 1 - (intOf v).toNat)
      case atStart => exact ⟨0, Nat.zero_le _, rfl, ⟨OwnK.nil _ _, OwnK.nil _ _, .inl rfl, .inl rfl, by simp, by simp⟩, Below.refl _ _⟩
      case round =>
        obtain ⟨j, hj, rfl, hT, hX⟩ := hrel
        have hflen : ∀ k, ((List.range k).filter (bitB sn)).length ≤ k := fun k => by
          have := List.length_filter_le (bitB sn) (List.range k)
          simpa using this
        by_cases hjl : j < i + 1
        · have p0 : (0 : Int) ≤ (j : Int) := by omega
          have p1 : (j : Int) < ((i + 1 : Nat) : Int) := by omega
          obtain ⟨b2, o2, z, e2', hz, cz⟩ := hTF.out.num hjl
          have hz' : z = Q j := by
            rw [List.getElem?_map, List.getElem?_range hjl] at hz
            exact (Option.some.inj hz).symm
          subst hz'
          cases e2'
          rw [Nat.zero_add] at cz
          replace cz := cell_later hX cz
          have hfs : (List.range (j + 1)).filter (bitB sn) = (List.range j).filter (bitB sn) ++ (if bitB sn j then [j] else []) := by
            rw [List.range_succ, List.filter_append]
            congr 1
            cases h : bitB sn j <;> simp [h]
          have HFS := Lib.hid hfs
          have hfl := hflen j
          have HFL := Lib.hid hfl
          clear hz hfs hfl hflen
          cases hb : bitB sn j with
          | true =>
            have hb' : ((sn / 2 ^ j).tmod 2 == 1) = true := hb
            have hf1 : (List.range (j + 1)).filter (bitB sn) = (List.range j).filter (bitB sn) ++ [j] := by rw [HFS.out, hb]; rfl
            have HF1 := Lib.hid hf1
            have HPa : Hid (∀ ty, ∃ r w', (Builtin.append_ #[31, 31] ty #[u22, .slice (some ⟨wr.heap.size, 0, none⟩) 1 1]).run Try.prog (wr.alloc (.cells #[.int .i64 (Q j)] 3)) = .ok r w' ∧ (Hid (Two WF.heap.size w' r u23 (((List.range (j + 1)).filter (bitB sn)).map Q) (((List.range j).filter (bitB sn)).map (fun (x : Nat) => (x : Int)))) ∧ Below WF.heap.size WF w')) := fun ty => by
              obtain ⟨r, w', h1, h2, h3⟩ := Two.app ty (Q j) hT.out (by rw [List.length_map]; have := HFL.out; omega) hX.size
              refine ⟨r, w', h1, ?_, hX.trans h3⟩
              rw [HF1.out, List.map_append]; exact h2
            have HPb2 : Hid (∀ r w', Hid (Two WF.heap.size w' r u23 (((List.range (j + 1)).filter (bitB sn)).map Q) (((List.range j).filter (bitB sn)).map (fun (x : Nat) => (x : Int)))) → Below WF.heap.size WF w' → ∀ ty, ∃ r2 w6, (Builtin.append_ #[31, 31] ty #[u23, .slice (some ⟨w'.heap.size, 0, none⟩) 1 1]).run Try.prog (w'.alloc (.cells #[.int .i64 (j : Int)] 3)) = .ok r2 w6 ∧ (Hid (Two WF.heap.size w6 r r2 (((List.range (j + 1)).filter (bitB sn)).map Q) (((List.range (j + 1)).filter (bitB sn)).map (fun (x : Nat) => (x : Int)))) ∧ Below WF.heap.size WF w6)) := fun r w' hT hb ty => by
              obtain ⟨r2, w6, h1, h2, h3⟩ := Two.app ty (j : Int) hT.out.swap (by rw [List.length_map]; have := HFL.out; omega) hb.size
              refine ⟨r2, w6, h1, ?_, hb.trans h3⟩
              have q := h2.out.swap
              have e : ((List.range (j + 1)).filter (bitB sn)).map (fun (x : Nat) => (x : Int)) = ((List.range j).filter (bitB sn)).map (fun (x : Nat) => (x : Int)) ++ [(j : Int)] := by rw [HF1.out, List.map_append]; rfl
              rw [e]; exact q
            clear hf1 hT hb
            go_wp2_with (first
              | (at_builtin; (refine wpList_append_row rfl _ _ _ _ rfl _ _ rfl rfl (HPx.out _) ?_); (rintro r2 w6 ⟨hT6, hb6⟩))
              | (at_builtin; (refine wpList_append_row rfl _ _ _ _ rfl _ _ rfl rfl (HPa.out _) ?_); (rintro r w5 ⟨hT5, hb5⟩; have HPx := Lib.hid (HPb2.out r w5 hT5 hb5))))
            go_roundw
            case rel => exact ⟨j + 1, hjl, by go_num, hT6, hb6⟩
            case measure => simp [intOf]; omega
          | false =>
            have hb' : ((sn / 2 ^ j).tmod 2 == 1) = false := hb
            have hT6 : Hid (Two WF.heap.size wr u22 u23 (((List.range (j + 1)).filter (bitB sn)).map Q) (((List.range (j + 1)).filter (bitB sn)).map (fun (x : Nat) => (x : Int)))) := by
              refine Lib.hid ?_
              rw [HFS.out, hb]; simpa using hT.out
            clear hT hb
            go_wp2_with fail
            go_roundw
            case rel => exact ⟨j + 1, hjl, by go_num, hT6, hX⟩
            case measure => simp [intOf]; omega
        · obtain rfl : j = i + 1 := by omega
          obtain ⟨a22, c22, f22, r22, -⟩ := hT.out.1.row elem_in
          obtain ⟨a23, c23, f23, r23, -⟩ := hT.out.2.1.row elem_in
          have hfl := hflen (i + 1)
          obtain ⟨wl, hwl⟩ : ∃ wl, (List.range (i + 1)).filter (bitB sn) = wl := ⟨_, rfl⟩
          have HWL := Lib.hid hwl
          rw [hwl] at f22 r22 f23 r23 hfl
          obtain ⟨m2, hm2⟩ : ∃ m2, wl.length = m2 := ⟨_, rfl⟩
          rw [List.length_map, hm2] at f22 r22 f23 r23
          subst f22 f23
          rw [hm2] at hfl
          have k3 := Blk.later hX k1
          have HP2 := Lib.hid (hTP.out.later hX); have HS2 := Lib.hid r22; have HW2 := Lib.hid r23
          obtain ⟨zs, hzs⟩ : ∃ zs, (List.range (i + 1)).map P = zs := ⟨_, rfl⟩
          obtain ⟨us, hus⟩ : ∃ us, wl.map Q = us := ⟨_, rfl⟩
          obtain ⟨wt, hwt⟩ : ∃ wt, wl.map (fun (x : Nat) => (x : Int)) = wt := ⟨_, rfl⟩
          rw [hzs] at HP2
          rw [hus] at HS2
          rw [hwt] at HW2
          have hsort : wl.Pairwise (· < ·) := by rw [← hwl]; exact List.Pairwise.filter _ List.pairwise_lt_range
          have hlt2 : ∀ x ∈ wl, x < i + 1 := fun x hx => by rw [← hwl] at hx; simpa using (List.mem_filter.1 hx).1
          have hPb' : ∀ k, k < i + 1 → 0 ≤ P k ∧ P k ≤ 1099511627776 := fun k hk => by
            have q := pfx_bd hsa HNs.out k (by rw [HRn.out.1]; omega)
            rw [HP.out] at q
            omega
          have hQb' : ∀ k, k < i + 1 → 0 ≤ Q k ∧ Q k ≤ 1099511627776 := fun k hk => by
            have q := pfx_bd hsb HMs.out k (by rw [HRm.out.1]; omega)
            rw [HQ.out] at q
            omega
          have hPl : ∀ a b, a < b → b < i + 1 → P a < P b := fun a b h1 h2 => by
            have q := (pfx_lt (a := sa) (b := sb) hG.out h1 (show b ≤ i by omega)).1
            rw [HP.out] at q; exact q
          have hQl : ∀ a b, a < b → b < i + 1 → Q a < Q b := fun a b h1 h2 => by
            have q := (pfx_lt (a := sa) (b := sb) hG.out h1 (show b ≤ i by omega)).2
            rw [HQ.out] at q; exact q
          have hcz : cntF (-1) zs := by
            rw [← hzs]
            exact cntF_map hPb' hPl _ _ List.pairwise_lt_range (fun x hx => by simpa using hx) (fun x hx => by have := hPb' x (by simpa using hx); omega)
          have hcu : cntF (-1) us := by
            rw [← hus]
            exact cntF_map hQb' hQl _ _ hsort hlt2 (fun x hx => by have := hQb' x (hlt2 x hx); omega)
          have hmem : wt ∈ asgB s p zs us (i + 1) m2 [] 0 0 := by
            have q := asg_mem (s := s) (p := p) (zs := zs) (us := us) (n := i + 1) (P := P) (Q := Q) (fun k hk => by rw [← hzs]; simp [List.getD_eq_getElem?_getD, hk]) (fun a b h1 h2 => by
              have q := pfx_agr (a := sa) (b := sb) hG.out (show a ≤ b by omega) (show b ≤ i by omega)
              rw [HP.out, HQ.out] at q; exact q) wl [] (by simpa using hsort) (by simpa using hlt2) (by simpa using hus.symm) 0 (.inl ⟨rfl, rfl⟩)
            rw [hm2] at q
            simpa [hwt] using q
          have HM := Lib.hid (fun w h1 h2 => match_ok (a1 := some ⟨g1, 0, none⟩) (a2 := a22) (n := i + 1) (m := m2) (c1 := c1) (c2 := c22) HO.out (show i + 1 ≤ 10 by have := HN9.out; omega) (show m2 ≤ 10 by have := HN9.out; omega) hcz hcu w h1 h2)
          obtain ⟨L, hL⟩ : ∃ L, asgB s p zs us (i + 1) m2 [] 0 0 = L := ⟨_, rfl⟩
          rw [hL] at hmem HM
          have HME := Lib.hid hmem
          have HLen : Hid (∀ y ∈ L, y.length ≤ 1099511627776) := fun y hy => by
            rw [← hL] at hy
            have q1 := asg_len0 _ _ _ _ hy
            have q2 := HN9.out
            simp only [List.length_nil] at q1
            omega
          have HLB : Hid (L.length ≤ 1099511627776) := by
            have q := asgB_len s p zs us (i + 1) m2 [] 0 0
            rw [hL] at q
            have h1 := HN9.out
            have h2 : (i + 1 + 1) ^ m2 ≤ 11 ^ 10 := Nat.le_trans (Nat.pow_le_pow_left (by omega) _) (Nat.pow_le_pow_right (by omega) (by omega))
            exact Nat.le_trans (Nat.le_trans q h2) (by decide)
          clear hcz hcu hmem hL hPb' hQb' hPl hQl hsort hlt2 hwt hus hzs hT hwl hflen r22 r23 hTP hTF hm2
          obtain ⟨a0, b0⟩ := k3.read; have y0 := k3.lt
          go_wp2_with fail
          refine (HM.out _ (rowIv HP2.out) (rowIv HS2.out)).mono ?_
          rintro e wM ⟨⟨av, cv, hE, hAll⟩, hbM⟩
          have hBM : Below w.heap.size w wM := belowThru (belowThru (belowThru hB hW) hX) hbM
          rcases hE with ⟨h0, -⟩ | ⟨h0, rfl⟩
          · have q := HME.out
            rw [h0] at q
            cases q
          · have HRd := Lib.hid (hAll.rd rfl)
            obtain ⟨nL, hnL⟩ : ∃ nL, L.length = nL := ⟨_, rfl⟩
            rw [hnL] at HRd ⊢
            have HNL := Lib.hid hnL
            have HW3 := Lib.hid (HW2.out.later hbM)
            have HWl : Hid (wt.length ≤ 1099511627776) := HLen.out _ HME.out
            have HnL : Hid (nL ≤ 1099511627776) := by rw [← hnL]; exact HLB.out
            clear hAll h0 hnL a0 b0 y0 k3 hbM hB hW hX
            go_wp2_with fail
            go_loopw [186] (fun v wx => ∃ k : Nat, k ≤ nL ∧ v = .int .i64 k ∧ Hid (∀ j, j < k → L[j]? ≠ some wt) ∧ Below wM.heap.size wM wx) (fun v _ => nL - (intOf v).toNat)
            case atStart => exact ⟨0, Nat.zero_le _, rfl, fun j hj => absurd hj (Nat.not_lt_zero j), Below.refl _ _⟩
            case round =>
              obtain ⟨k, hk, rfl, hne, hX3⟩ := hrel
              by_cases hlt : k < nL
              · obtain ⟨bL, oL, a1, n1, c1', y, e1', cc', hy, hyl, hyr⟩ := HRd.out.at hlt
                subst e1'
                replace cc' := cell_later hX3 cc'
                have p0 : (0 : Int) ≤ (k : Int) := by omega
                have p1 : (k : Int) < (nL : Int) := by omega
                have hyl2 := HLen.out y (List.mem_of_getElem? hy)
                have HY := Lib.hid (hyr.later hX3); have HWt := Lib.hid (HW3.out.later hX3)
                have HK := Lib.hid hy; have HYL := Lib.hid hyl2
                have hBx : Below w.heap.size w wr := belowThru hBM hX3
                have hn50 := HnL.out
                clear hy hyl hyr hyl2
                go_wp2_with fail
                refine (sameLists_any (some ⟨wr.heap.size, 0, none⟩) (some ⟨wr.heap.size + 1, 0, none⟩) 1 1 1 1 [y] [wt] (by decide) (fun z hz => by rw [List.mem_singleton] at hz; rw [hz]; exact HYL.out) _ (rdL_row (Blk.alloc (Blk.new rfl)) (HY.out.later (belowAlloc (belowAlloc (Below.refl _ _))))) (rdL_row (Blk.new (by simp)) (HWt.out.later (belowAlloc (belowAlloc (Below.refl _ _)))))).mono ?_
                rintro e w5 ⟨rfl, hb⟩
                have hb5 := belowThru (belowAlloc (belowAlloc (Below.refl _ _))) hb
                by_cases hyw : y = wt
                · rw [decide_eq_true (by rw [hyw])]
                  clear hyw
                  go_wp2_with fail
                  go_ret
                  exact ⟨rfl, belowThru hBx hb5⟩
                · rw [decide_eq_false (by simpa using hyw)]
                  have hne2 : Hid (∀ j, j < k + 1 → L[j]? ≠ some wt) := fun j hj => by
                    by_cases hjk : j < k
                    · exact hne.out j hjk
                    · obtain rfl : j = k := by omega
                      rw [HK.out]
                      simpa using hyw
                  clear hyw hne
                  go_wp2_with fail
                  go_roundw
                  case rel => exact ⟨k + 1, hlt, by go_num, hne2, belowThru hX3 hb5⟩
                  case measure => simp [intOf]; omega
              · obtain ⟨j, hj⟩ := List.mem_iff_getElem?.1 HME.out
                have hjl := (List.getElem?_eq_some_iff.1 hj).1
                rw [HNL.out] at hjl
                exact absurd hj (hne.out j (by omega))
theorem tru_true (s p g l : Int) (ag ac ao : Option Addr) (N n2 n3 cg cc co : Nat) (sn sa sb : Int) (gs ns ms : List Int) (hg : ∀ x ∈ gs, 0 ≤ x ∧ x ≤ 65535) (hn : ∀ x ∈ ns, 0 ≤ x ∧ x ≤ 255) (hm : ∀ x ∈ ms, 0 ≤ x ∧ x ≤ 255) (hsn : 0 ≤ sn ∧ sn ≤ 65535) (hsa : 0 ≤ sa ∧ sa ≤ 65535) (hsb : 0 ≤ sb ∧ sb ≤ 65535) (w : World) (hRg : RowK 1 u161 w ag N gs) (hRn : RowK 1 u81 w ac n2 ns) (hRm : RowK 1 u81 w ao n3 ms) :
    Calls Try.prog 14 #[.agg #[.int .i64 s, .int .i64 p, .int .i64 g, .int .i64 l], .slice ag N cg, .slice ac n2 cc, .slice ao n3 co, .int .u16 sn, .int .u16 sa, .int .u16 sb] w fun e w' => e = .returned (.bool true) ∧ Below w.heap.size w w' := by
  by_cases h : okB s p g l
  · have HV := HRv s p g l true (decide_eq_true h)
    by_cases c0 : (9 : Int) < N
    · exact tru_g1 s p g l ag ac ao N n2 n3 cg cc co sn sa sb w HV (decide_eq_true c0)
    · by_cases c1 : n2 = N
      · subst c1
        by_cases c2 : n3 = n2
        · subst c2
          exact tru_walk s p g l ag ac ao n3 cg cc co sn sa sb gs ns ms h (by omega) hg hn hm hsn hsa hsb w hRg hRn hRm
        · exact tru_g3 s p g l ag ac ao n2 n2 n3 cg cc co sn sa sb w HV (decide_eq_false c0) (by simp) (by simp; omega)
      · exact tru_g2 s p g l ag ac ao N n2 n3 cg cc co sn sa sb w HV (decide_eq_false c0) (by simp; omega)
  · exact tru_g0 s p g l ag ac ao N n2 n3 cg cc co sn sa sb w (HRv s p g l false (decide_eq_false h))
end Go.Proofs.Ytbcnoklaaigclaa
