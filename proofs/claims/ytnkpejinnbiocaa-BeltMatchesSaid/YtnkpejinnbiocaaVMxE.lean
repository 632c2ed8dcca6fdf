/-
  Layer 9: all assignments that begin with some indices, by the document's own.
-/
import Derived.Test.YtnkpejinnbiocaaVMxW
import Derived.Test.YtnkpejinnbiocaaVRTs
namespace Go.Proofs.Ytnkpejinnbiocaa
open Go.RowKit Go.Shelf
set_option linter.unusedVariables false
set_option linter.unusedSimpArgs false

/-- A slice of one's own of slices that read as these lists, wherever these lie. -/
def AllE (B : Nat) (w : World) (v : Value) (L : List (List Int)) : Prop := ∃ hs : List Sl, OwnK 56 1 sl1 B w v hs ∧ hs.length = L.length ∧ ∀ (i : Nat) (h : Sl) (y : List Int), hs[i]? = some h → L[i]? = some y → OwnK 3 1 in1 0 w (slv h) y
theorem AllE.later {B : Nat} {w w' : World} {v : Value} {L : List (List Int)} (hb : Below w.heap.size w w') (h : AllE B w v L) : AllE B w' v L := by
  obtain ⟨hs, h1, h2, h3⟩ := h
  exact ⟨hs, h1.later hb, h2, fun i h y hi hy => (h3 i h y hi hy).later hb⟩
theorem AllE.mono {B C : Nat} (hC : C ≤ B) {w : World} {v : Value} {L : List (List Int)} (h : AllE B w v L) : AllE C w v L := by
  obtain ⟨hs, h1, h2, h3⟩ := h
  exact ⟨hs, h1.mono hC, h2, h3⟩
theorem AllE.drew {B : Nat} {w : World} {v : Value} {L : List (List Int)} (h : AllE B w v L) : AllE B w.drew v L := h
theorem AllE.nil (B : Nat) (w : World) : AllE B w (.slice none 0 0) [] := ⟨[], OwnK.nil _ _, rfl, fun i h y hi _ => by cases hi⟩
theorem AllE.form {B : Nat} {W : World} {v : Value} {L : List (List Int)} (h : AllE B W v L) : ∃ a c, v = .slice a L.length c := by
  obtain ⟨hs, h1, h2, -⟩ := h
  obtain ⟨a, c, e, -⟩ := h1.row elem_sl
  exact ⟨a, c, by rw [e, h2]⟩
theorem AllE.one {B b : Nat} {w : World} {h : Sl} {y : List Int} (hk : Blk w b #[slv h] 56) (hB : B ≤ b) (hy : OwnK 3 1 in1 0 w (slv h) y) : AllE B w (.slice (some ⟨b, 0, none⟩) 1 1) [y] :=
  ⟨[h], OwnK.one elem_sl hk hB, rfl, fun i h' y' hi hy' => by
    cases i with
    | zero => cases hi; cases hy'; exact hy
    | succ i => cases hi⟩
theorem AllE.app {B C : Nat} {W : World} {v u : Value} {L K : List (List Int)} (hL : AllE B W v L) (hK : AllE C W u K) (hl : L.length + K.length ≤ 1099511627776) (hB : B ≤ W.heap.size) (ty : TypeId) :
    ∃ r w', (Builtin.append_ #[57, 57] ty #[v, u]).run Try.prog W = .ok r w' ∧ (AllE B w' r (L ++ K) ∧ Below B W w') := by
  obtain ⟨hs, h1, h2, h3⟩ := hL
  obtain ⟨ks, g1, g2, g3⟩ := hK
  obtain ⟨a, c, rfl, hR, -⟩ := g1.row elem_sl
  obtain ⟨v', w', q1, q2, q3, q4, q5⟩ := run_append_k (P := Try.prog) elem_sl ty (B := B) (v := v) (c := c) h1 hR (by omega) hB
  refine ⟨v', w', q1, ⟨hs ++ ks, q2, by rw [List.length_append, List.length_append, h2, g2], fun i h' y' hi hy' => ?_⟩, q4⟩
  by_cases hlt : i < L.length
  · rw [List.getElem?_append_left (by omega)] at hi
    rw [List.getElem?_append_left hlt] at hy'
    have q := h3 i h' y' hi hy'
    exact q.but q3 (q.apart h1 (by decide))
  · rw [List.getElem?_append_right (by omega), h2] at hi
    rw [List.getElem?_append_right (by omega)] at hy'
    have q := g3 _ h' y' hi hy'
    exact q.but q3 (q.apart h1 (by decide))
theorem AllE.rd {B : Nat} {w : World} {a : Option Addr} {n c : Nat} {L : List (List Int)} (h : AllE B w (.slice a n c) L) (hn : L.length = n) : RdL w a n L := by
  obtain ⟨hs, h1, h2, h3⟩ := h
  obtain ⟨a', c', e, hr, -⟩ := h1.row elem_sl
  cases e
  rw [← hn, ← h2]
  refine ⟨hs, hr, h2.symm, fun i h y hi hy => ?_⟩
  have q := h3 i h y hi hy
  obtain ⟨a', c', e, hr, -⟩ := q.row elem_in
  obtain ⟨x1, x2, x3⟩ := h
  cases e
  exact hr
theorem run_append_1n (ty : TypeId) {B : Nat} {w : World} {u : Value} {ys : List Int} (x : Int) (hO : OwnK 3 1 in1 B w u ys) (hl : ys.length ≤ 1000000) (hB : B ≤ w.heap.size) :
    ∃ r w', (Builtin.append_ #[56, 56] ty #[u, .slice (some ⟨w.heap.size, 0, none⟩) 1 1]).run Try.prog (w.alloc (.cells #[.int .i64 x] 3)) = .ok r w' ∧ (OwnK 3 1 in1 B w' r (ys ++ [x]) ∧ (w.alloc (.cells #[.int .i64 x] 3)).grownBy w' u.ownBlock ∧ Below B w w' ∧ (r.ownBlock = u.ownBlock ∨ r.ownBlock = some (w.heap.size + 1))) := run_append_1 elem_in ty x hO hl hB
/-- The lists found with the first indices. -/
def exK (s p : Int) (zs us : List Int) (n k : Nat) (x : List Int) (j : Nat) : List (List Int) := (List.range j).flatMap fun (i : Nat) => extR s p zs us n k (x ++ [(i : Int)])
theorem exK_succ {s p : Int} {zs us : List Int} {n k : Nat} {x : List Int} {j : Nat} : exK s p zs us n k x (j + 1) = exK s p zs us n k x j ++ extR s p zs us n k (x ++ [(j : Int)]) := by
  unfold exK
  rw [List.range_succ, List.flatMap_append, List.flatMap_singleton]
theorem extR_length {s p : Int} {zs us : List Int} {n : Nat} : ∀ (k : Nat) (x : List Int), (extR s p zs us n k x).length ≤ n ^ k := by
  intro k
  induction k with
  | zero =>
    intro x
    unfold extR
    split <;> simp
  | succ k ih =>
    intro x
    unfold extR
    split
    · have h : ∀ l : List Nat, (l.flatMap fun (i : Nat) => extR s p zs us n k (x ++ [(i : Int)])).length ≤ l.length * n ^ k := by
        intro l
        induction l with
        | nil => simp
        | cons a l ihl =>
          rw [List.flatMap_cons, List.length_append, List.length_cons, Nat.add_mul]
          have := ih (x ++ [(a : Int)])
          omega
      have := h (List.range n)
      rw [List.length_range] at this
      rw [Nat.pow_succ, Nat.mul_comm]
      exact this
    · simp
theorem exK_length {s p : Int} {zs us : List Int} {n k j : Nat} {x : List Int} (hj : j ≤ n) : (exK s p zs us n k x j).length ≤ n * n ^ k := by
  have h : ∀ j, (exK s p zs us n k x j).length ≤ j * n ^ k := by
    intro j
    induction j with
    | zero => simp [exK]
    | succ j ih =>
      rw [exK_succ, List.length_append, Nat.add_mul]
      have := extR_length (s := s) (p := p) (zs := zs) (us := us) (n := n) k (x ++ [(j : Int)])
      omega
  exact Nat.le_trans (h j) (Nat.mul_le_mul_right _ hj)
theorem pow_bd {n k : Nat} (hn : n ≤ 10) (hk : k ≤ 10) : n ^ k ≤ 10000000000 := Nat.le_trans (Nat.pow_le_pow_left hn k) (Nat.le_trans (Nat.pow_le_pow_right (by decide) hk) (by decide))
theorem rowOfI {w : World} {B n : Nat} {a : Option Addr} {cap : Nat} {xs : List Int} (h : OwnK 3 1 in1 B w (.slice a n cap) xs) : RowK 1 in1 w a n xs := by
  obtain ⟨a', c, e, hr, hc, -⟩ := h.row elem_in
  have e : Value.slice a n cap = Value.slice a' xs.length c := e
  cases e
  exact hr
set_option maxRecDepth 100000 in
set_option maxHeartbeats 16000000 in
theorem ext_no (s p g l : Int) (a1 a2 ax : Option Addr) (n m r c1 c2 cx : Nat) (zs us xs : List Int) (k : Nat) (h : asnB s p zs us xs = false) (w : World) (hR1 : RowK 1 in1 w a1 n zs) (hR2 : RowK 1 in1 w a2 m us) (hO : OwnK 3 1 in1 0 w (.slice ax r cx) xs) (HA : Hid (∀ w, RowK 1 in1 w a1 n zs → RowK 1 in1 w a2 m us → RowK 1 in1 w ax r xs → Calls Try.prog 62 #[.agg #[.int .i64 s, .int .i64 p, .int .i64 g, .int .i64 l], .slice a1 n c1, .slice a2 m c2, .slice ax r cx] w fun e w' => e = .returned (.bool false) ∧ Below w.heap.size w w')) :
    Calls Try.prog 53 #[.agg #[.int .i64 s, .int .i64 p, .int .i64 g, .int .i64 l], .slice a1 n c1, .slice a2 m c2, .slice ax r cx] w fun e w' => (∃ v, e = .returned v ∧ AllE w.heap.size w' v (extR s p zs us n k xs)) ∧ Below w.heap.size w w' := by
  rw [extR_no h]
  clear h
  have hRx : RowK 1 in1 w ax r xs := rowOfI hO
  have H1 := Lib.hid hR1; have H2 := Lib.hid hR2; have H3 := Lib.hid hRx; have HO := Lib.hid hO
  clear hR1 hR2 hRx hO
  go_enter Try.func53, Try.ntmps53
  go_wp2_with fail
  have kB : Blk (w.alloc (.cells #[.int .i64 s, .int .i64 p, .int .i64 g, .int .i64 l] 23)) w.heap.size #[.int .i64 s, .int .i64 p, .int .i64 g, .int .i64 l] 23 := Blk.new rfl
  have hB : Below w.heap.size w (w.alloc (.cells #[.int .i64 s, .int .i64 p, .int .i64 g, .int .i64 l] 23)) := belowAlloc (Below.refl _ _)
  refine (HA.out _ (H1.out.later hB) (H2.out.later hB) (H3.out.later hB)).mono ?_
  rintro e w1 ⟨rfl, hb⟩
  replace kB := Blk.later hb kB; replace hB := belowThru hB hb
  clear hb HA
  obtain ⟨aB, bB⟩ := kB.read; have yB := kB.lt
  go_wp2_with fail
  go_ret
  exact ⟨⟨_, rfl, AllE.nil _ _⟩, hB⟩
set_option maxRecDepth 100000 in
set_option maxHeartbeats 16000000 in
theorem ext_leaf (s p g l : Int) (a1 a2 ax : Option Addr) (n m r c1 c2 cx : Nat) (zs us xs : List Int) (h : asnB s p zs us xs = true) (hrm : r = m) (w : World) (hR1 : RowK 1 in1 w a1 n zs) (hR2 : RowK 1 in1 w a2 m us) (hO : OwnK 3 1 in1 0 w (.slice ax r cx) xs) (HA : Hid (∀ w, RowK 1 in1 w a1 n zs → RowK 1 in1 w a2 m us → RowK 1 in1 w ax r xs → Calls Try.prog 62 #[.agg #[.int .i64 s, .int .i64 p, .int .i64 g, .int .i64 l], .slice a1 n c1, .slice a2 m c2, .slice ax r cx] w fun e w' => e = .returned (.bool true) ∧ Below w.heap.size w w')) :
    Calls Try.prog 53 #[.agg #[.int .i64 s, .int .i64 p, .int .i64 g, .int .i64 l], .slice a1 n c1, .slice a2 m c2, .slice ax r cx] w fun e w' => (∃ v, e = .returned v ∧ AllE w.heap.size w' v (extR s p zs us n 0 xs)) ∧ Below w.heap.size w w' := by
  have e0 : extR s p zs us n 0 xs = [xs] := by unfold extR; rw [if_pos h]
  rw [e0]
  subst hrm
  have z1 : ((r : Int) == (r : Int)) = true := by simp
  clear h e0
  have hRx : RowK 1 in1 w ax r xs := rowOfI hO
  have H1 := Lib.hid hR1; have H2 := Lib.hid hR2; have H3 := Lib.hid hRx; have HO := Lib.hid hO
  clear hR1 hR2 hRx hO
  go_enter Try.func53, Try.ntmps53
  go_wp2_with fail
  have kB : Blk (w.alloc (.cells #[.int .i64 s, .int .i64 p, .int .i64 g, .int .i64 l] 23)) w.heap.size #[.int .i64 s, .int .i64 p, .int .i64 g, .int .i64 l] 23 := Blk.new rfl
  have hB : Below w.heap.size w (w.alloc (.cells #[.int .i64 s, .int .i64 p, .int .i64 g, .int .i64 l] 23)) := belowAlloc (Below.refl _ _)
  refine (HA.out _ (H1.out.later hB) (H2.out.later hB) (H3.out.later hB)).mono ?_
  rintro e w1 ⟨rfl, hb⟩
  replace kB := Blk.later hb kB; replace hB := belowThru hB hb
  clear hb HA
  obtain ⟨aB, bB⟩ := kB.read; have yB := kB.lt
  go_wp2_with fail
  go_ret
  exact ⟨⟨_, rfl, AllE.one (h := (ax, r, cx)) (Blk.new rfl) hB.size ((HO.out.later hB).alloc)⟩, belowAlloc hB⟩
set_option maxRecDepth 100000 in
set_option maxHeartbeats 16000000 in
theorem ext_node (s p g l : Int) (a1 a2 ax : Option Addr) (n m r c1 c2 cx : Nat) (zs us xs : List Int) (k : Nat) (h : asnB s p zs us xs = true) (hrm : r + k + 1 = m) (hn : n ≤ 10) (hm : m ≤ 10) (w : World) (hR1 : RowK 1 in1 w a1 n zs) (hR2 : RowK 1 in1 w a2 m us) (hO : OwnK 3 1 in1 0 w (.slice ax r cx) xs) (HA : Hid (∀ w, RowK 1 in1 w a1 n zs → RowK 1 in1 w a2 m us → RowK 1 in1 w ax r xs → Calls Try.prog 62 #[.agg #[.int .i64 s, .int .i64 p, .int .i64 g, .int .i64 l], .slice a1 n c1, .slice a2 m c2, .slice ax r cx] w fun e w' => e = .returned (.bool true) ∧ Below w.heap.size w w'))
    (HR : Hid (∀ (ax' : Option Addr) (cx' i : Nat) (w : World), i < n → RowK 1 in1 w a1 n zs → RowK 1 in1 w a2 m us → OwnK 3 1 in1 0 w (.slice ax' (r + 1) cx') (xs ++ [(i : Int)]) → Calls Try.prog 53 #[.agg #[.int .i64 s, .int .i64 p, .int .i64 g, .int .i64 l], .slice a1 n c1, .slice a2 m c2, .slice ax' (r + 1) cx'] w fun e w' => (∃ v, e = .returned v ∧ AllE w.heap.size w' v (extR s p zs us n k (xs ++ [(i : Int)]))) ∧ Below w.heap.size w w')) :
    Calls Try.prog 53 #[.agg #[.int .i64 s, .int .i64 p, .int .i64 g, .int .i64 l], .slice a1 n c1, .slice a2 m c2, .slice ax r cx] w fun e w' => (∃ v, e = .returned v ∧ AllE w.heap.size w' v (extR s p zs us n (k + 1) xs)) ∧ Below w.heap.size w w' := by
  have e0 : extR s p zs us n (k + 1) xs = exK s p zs us n k xs n := by unfold extR exK; rw [if_pos h]
  rw [e0]
  have hlx := Lib.hid hO.1
  have hxl : Hid (xs.length = r) := by
    have := (rowOfI hO).1
    exact this
  have z1 : ((r : Int) == (m : Int)) = false := by simp; omega
  have HN := Lib.hid hn
  have HKb := Lib.hid (show k ≤ 10 by omega)
  have HRb := Lib.hid (show r ≤ 10 by omega)
  clear h e0 hrm
  have hRx : RowK 1 in1 w ax r xs := rowOfI hO
  have H1 := Lib.hid hR1; have H2 := Lib.hid hR2; have H3 := Lib.hid hRx; have HO := Lib.hid hO
  clear hR1 hR2 hRx hO
  go_enter Try.func53, Try.ntmps53
  go_wp2_with fail
  have kB : Blk (w.alloc (.cells #[.int .i64 s, .int .i64 p, .int .i64 g, .int .i64 l] 23)) w.heap.size #[.int .i64 s, .int .i64 p, .int .i64 g, .int .i64 l] 23 := Blk.new rfl
  have hB : Below w.heap.size w (w.alloc (.cells #[.int .i64 s, .int .i64 p, .int .i64 g, .int .i64 l] 23)) := belowAlloc (Below.refl _ _)
  refine (HA.out _ (H1.out.later hB) (H2.out.later hB) (H3.out.later hB)).mono ?_
  rintro e w1 ⟨rfl, hb⟩
  replace kB := Blk.later hb kB; replace hB := belowThru hB hb
  clear hb HA
  obtain ⟨aB, bB⟩ := kB.read; have yB := kB.lt
  go_wp2_with fail
  have hs1 := Lib.hid hB.size
  clear aB bB yB
  go_loopw [9, 10] (fun v9 v wr => ∃ i : Nat, i ≤ n ∧ v = .int .i64 i ∧ Hid (AllE (w.heap.size + 1) wr v9 (exK s p zs us n k xs i)) ∧ Blk wr w.heap.size #[.int .i64 s, .int .i64 p, .int .i64 g, .int .i64 l] 23 ∧ Below w.heap.size w wr) (fun _ v _ => n - (intOf v).toNat)
  case atStart => exact ⟨0, Nat.zero_le _, rfl, AllE.nil _ _, kB, hB⟩
  case round =>
    clear kB hB
    obtain ⟨i, hi, rfl, hL, kB, hB⟩ := hrel
    by_cases hlt : i < n
    · have p0 : (0 : Int) ≤ (i : Int) := by omega
      have p1 : (i : Int) < (n : Int) := by omega
      have p2 : (i : Int) ≤ 10 := by omega
      have hLl := Lib.hid (exK_length (s := s) (p := p) (zs := zs) (us := us) (n := n) (k := k) (j := i) (x := xs) hi)
      have hEl := Lib.hid (extR_length (s := s) (p := p) (zs := zs) (us := us) (n := n) k (xs ++ [(i : Int)]))
      have hKe := Lib.hid (exK_succ (s := s) (p := p) (zs := zs) (us := us) (n := n) (k := k) (x := xs) (j := i))
      obtain ⟨a9, c9, ev⟩ := hL.out.form
      obtain ⟨m9, hm9⟩ : ∃ q, (exK s p zs us n k xs i).length = q := ⟨_, rfl⟩
      rw [hm9] at ev
      subst ev
      clear hm9
      have H0 := kB
      obtain ⟨aB, bB⟩ := kB.read; have yB := kB.lt
      go_wp2_with fail
      refine wp_region_held_drew (S := fun W => Blk W w.heap.size #[.int .i64 s, .int .i64 p, .int .i64 g, .int .i64 l] 23 ∧ (∀ i : Nat, W.cell? ⟨w.heap.size, i, none⟩ = (#[.int .i64 s, .int .i64 p, .int .i64 g, .int .i64 l] : Array Value)[i]?)) (by kernel_rfl) kB.drew.full (fun hHeld => ?_)
      obtain ⟨Wd, hWd⟩ : ∃ Wd, wr.drew = Wd := ⟨_, rfl⟩
      have hW : Below wr.heap.size wr Wd := by rw [← hWd]; exact (Below.refl _ _).drew
      rw [hWd] at hHeld ⊢
      clear hWd aB bB yB H0
      refine wpAnyH_take (i := 0) (v := ?_) rfl (by kernel_rfl) (by kernel_rfl) (by kernel_rfl) (fun _ _ _ h => h) (Or.inl ⟨by rfl, ?hT0⟩) (by assumption) ?_
      case hT0 => ((intro w hSw; (try dsimp only at hSw); go_simp); try (with_reducible rfl))
      try simp only [Act.put, List.setIfInBounds_toArray, List.set_cons_zero, List.set_cons_succ]
      refine wpAnyH_take (i := 1) (v := ?_) rfl (by kernel_rfl) (by kernel_rfl) (by kernel_rfl) (fun _ _ _ h => h) (Or.inl ⟨by rfl, ?hT1⟩) (by assumption) ?_
      case hT1 => ((intro w hSw; (try dsimp only at hSw); go_simp); try (with_reducible rfl))
      try simp only [Act.put, List.setIfInBounds_toArray, List.set_cons_zero, List.set_cons_succ]
      refine wpAnyH_take (i := 2) (v := ?_) rfl (by kernel_rfl) (by kernel_rfl) (by kernel_rfl) (fun _ _ _ h => h) (Or.inl ⟨by rfl, ?hT2⟩) (by assumption) ?_
      case hT2 => ((intro w hSw; (try dsimp only at hSw); go_simp); try (with_reducible rfl))
      try simp only [Act.put, List.setIfInBounds_toArray, List.set_cons_zero, List.set_cons_succ]
      refine wpAnyH_take (i := 3) (v := ?_) rfl (by kernel_rfl) (by kernel_rfl) (by kernel_rfl) (fun _ _ _ h => h) (Or.inl ⟨by rfl, ?hT3⟩) (by assumption) ?_
      case hT3 => ((intro w hSw; (try dsimp only at hSw); go_simp); try (with_reducible rfl))
      try simp only [Act.put, List.setIfInBounds_toArray, List.set_cons_zero, List.set_cons_succ]
      refine wpAnyH_take (i := 5) (v := ?_) rfl (by kernel_rfl) (by kernel_rfl) (by kernel_rfl) (fun _ _ _ h => h) (Or.inl ⟨by rfl, ?hT4⟩) (by assumption) ?_
      case hT4 => ((intro w hSw; (try dsimp only at hSw); go_simp); try (with_reducible rfl))
      try simp only [Act.put, List.setIfInBounds_toArray, List.set_cons_zero, List.set_cons_succ]
      refine wpAnyH_take (i := 7) (v := ?_) rfl (by kernel_rfl) (by kernel_rfl) (by kernel_rfl) (fun _ _ _ h => h) (Or.inl ⟨by rfl, ?hT5⟩) (by assumption) ?_
      case hT5 => ((intro w hSw; (try dsimp only at hSw); go_simp); try (with_reducible rfl))
      try simp only [Act.put, List.setIfInBounds_toArray, List.set_cons_zero, List.set_cons_succ]
      refine wpAnyH_ready (rs := [4, 8]) (by kernel_rfl) (by simp) ?_
      refine AllReadyH.cons rfl (fun K hK => ?_) (AllReadyH.cons rfl (fun K hK => ?_) (AllReadyH.nil))
      · go_simp
        obtain ⟨Wa, hWa⟩ : ∃ W, Wd.alloc (.cells #[] 3) = W := ⟨_, rfl⟩
        obtain ⟨bA, hbA'⟩ : ∃ b, Wd.heap.size = b := ⟨_, rfl⟩
        have kA : Blk Wa bA #[] 3 := by rw [← hWa, ← hbA']; exact Blk.new rfl
        have hbA : wr.heap.size ≤ bA := by rw [← hbA']; exact hW.size
        replace hW : Below wr.heap.size wr Wa := by rw [← hWa]; exact hW.alloc hW.size _
        rw [hWa, hbA']
        refine hK.out _ _ ?_ (fun hHeldN => ?_)
        · (try dsimp only); exact (Blk.later hW kB).full
        clear hK K hHeld
        have hHeld := hHeldN
        clear hHeldN
        try simp only [Act.put, List.setIfInBounds_toArray, List.set_cons_zero, List.set_cons_succ]
        clear hWa hbA'
        refine wpAnyH_ready (rs := [6, 8]) (by kernel_rfl) (by simp) ?_
        refine AllReadyH.cons rfl (fun K hK => ?_) (AllReadyH.cons rfl (fun K hK => ?_) (AllReadyH.nil))
        · refine wp_append_row (.tmp 34) (.tmp 35) _ _ rfl (.slice (some ⟨bA, 0, none⟩) 0 0) (.slice ax r cx) rfl rfl (by
            obtain ⟨v', w', q1, q2, q3, q4, -⟩ := run_append_k (P := Try.prog) elem_in _ (B := wr.heap.size) (c := cx) (OwnK.none0 elem_in kA hbA) ((H3.out.later hB).later hW) (by have := HRb.out; simp; omega) hW.size
            rw [List.nil_append] at q2
            exact ⟨v', w', q1, (⟨q2, q3, q4⟩ : OwnK 3 1 in1 wr.heap.size w' v' xs ∧ World.grownBy _ w' (some bA) ∧ Below wr.heap.size _ w')⟩) ?_
          rintro r6 W6 ⟨hO6, hg6, hb6⟩
          replace hW : Below wr.heap.size wr W6 := hW.trans hb6
          clear hb6 hg6
          refine hK.out _ _ ?_ (fun hHeldN => ?_)
          · (try dsimp only); exact (Blk.later hW kB).full
          clear hK K hHeld
          have hHeld := hHeldN
          clear hHeldN
          try simp only [Act.put, List.setIfInBounds_toArray, List.set_cons_zero, List.set_cons_succ]
          refine wpAnyH_ready (rs := [8]) (by kernel_rfl) (by simp) ?_
          refine AllReadyH.cons rfl (fun K hK => ?_) (AllReadyH.nil)
          go_simp
          obtain ⟨Wi, hWi⟩ : ∃ W, W6.alloc (.cells #[.int .i64 (i : Int)] 3) = W := ⟨_, rfl⟩
          obtain ⟨bI, hbI'⟩ : ∃ b, W6.heap.size = b := ⟨_, rfl⟩
          have kI : Blk Wi bI #[.int .i64 (i : Int)] 3 := by rw [← hWi, ← hbI']; exact Blk.new rfl
          replace hO6 : OwnK 3 1 in1 wr.heap.size Wi r6 xs := by rw [← hWi]; exact hO6.alloc
          replace hW : Below wr.heap.size wr Wi := by rw [← hWi]; exact hW.alloc hW.size _
          rw [hWi, hbI']
          refine hK.out _ _ ?_ (fun hHeldN => ?_)
          · (try dsimp only); exact (Blk.later hW kB).full
          clear hK K hHeld
          have hHeld := hHeldN
          clear hHeldN
          try simp only [Act.put, List.setIfInBounds_toArray, List.set_cons_zero, List.set_cons_succ]
          clear hWi hbI'
          refine wpAnyH_ready (rs := [9]) (by kernel_rfl) (by simp) ?_
          refine AllReadyH.cons rfl (fun K hK => ?_) AllReadyH.nil
          refine wp_append_row (.tmp 36) (.tmp 38) _ _ rfl r6 (.slice (some ⟨bI, 0, none⟩) 1 1) rfl rfl (by
            obtain ⟨v', w', q1, q2, -, q4, -⟩ := run_append_k (P := Try.prog) elem_in _ (B := wr.heap.size) (c := 1) hO6 (rowK_one elem_in (x := (i : Int)) kI) (by have := hxl.out; have := HRb.out; omega) hW.size
            exact ⟨v', w', q1, (⟨q2, q4⟩ : OwnK 3 1 in1 wr.heap.size w' v' (xs ++ [(i : Int)]) ∧ Below wr.heap.size _ w')⟩) ?_
          rintro r9 W9 ⟨hO9, hb9⟩
          replace hW : Below wr.heap.size wr W9 := hW.trans hb9
          clear hb9 hO6 kI
          obtain ⟨aq, cq, ev, -⟩ := hO9.row elem_in
          rw [List.length_append, hxl.out] at ev
          replace ev : r9 = .slice aq (r + 1) cq := ev
          subst ev
          refine hK.out _ _ ?_ (fun hHeldN => ?_)
          · (try dsimp only); exact (Blk.later hW kB).full
          clear hK K hHeld
          have hHeld := hHeldN
          clear hHeldN
          try simp only [Act.put, List.setIfInBounds_toArray, List.set_cons_zero, List.set_cons_succ]
          refine wpAnyH_ready (rs := [10]) (by kernel_rfl) (by simp) ?_
          refine AllReadyH.cons rfl (fun K hK => ?_) AllReadyH.nil
          go_simp
          refine (HR.out aq cq i _ hlt ((H1.out.later hB).later hW) ((H2.out.later hB).later hW) (hO9.mono (Nat.zero_le _))).mono ?_
          rintro e W10 ⟨⟨v10, rfl, hV⟩, hb⟩
          replace hW := belowThru hW hb
          clear hb hO9
          obtain ⟨a10, c10, ev⟩ := hV.form
          obtain ⟨m10, hm10⟩ : ∃ q, (extR s p zs us n k (xs ++ [(i : Int)])).length = q := ⟨_, rfl⟩
          rw [hm10] at ev
          subst ev
          clear hm10
          try go_simp
          refine hK.out _ _ ?_ (fun hHeldN => ?_)
          · (try dsimp only); exact (Blk.later hW kB).full
          clear hK K hHeld
          have hHeld := hHeldN
          clear hHeldN
          try simp only [Act.put, List.setIfInBounds_toArray, List.set_cons_zero, List.set_cons_succ]
          refine wpAnyH_ready (rs := [11]) (by kernel_rfl) (by simp) ?_
          refine AllReadyH.cons rfl (fun K hK => ?_) AllReadyH.nil
          refine wp_append_row (.tmp 30) (.tmp 40) _ _ rfl (.slice a9 m9 c9) (.slice a10 m10 c10) rfl rfl (by
            exact AllE.app (B := w.heap.size + 1) (hL.out.later hW) hV (by have := hLl.out; have := hEl.out; have h1 := pow_bd HN.out HKb.out; have h2 : n * n ^ k ≤ 10 * 10000000000 := Nat.mul_le_mul HN.out h1; omega) (by have := hW.size; have := kB.lt; omega) _) ?_
          rintro r11 W11 ⟨hA11, hb11⟩
          rw [← hKe.out] at hA11
          have kB11 : Blk W11 w.heap.size #[.int .i64 s, .int .i64 p, .int .i64 g, .int .i64 l] 23 := (Blk.later hW kB).below hb11 (Nat.lt_succ_self _)
          have hW11 : Below w.heap.size w W11 := (belowThru hB hW).trans (hb11.mono (Nat.le_succ _))
          refine hK.out _ _ ?_ (fun hHeldN => ?_)
          · (try dsimp only); exact kB11.full
          clear hK K hHeld
          have hHeld := hHeldN
          clear hHeldN
          try simp only [Act.put, List.setIfInBounds_toArray, List.set_cons_zero, List.set_cons_succ]
          refine wpAnyH_ready (rs := [12]) (by kernel_rfl) (by simp) ?_
          refine AllReadyH.cons rfl (fun K hK => ?_) AllReadyH.nil
          go_simp
          refine hK.out _ _ ?_ (fun hHeldN => ?_)
          · (try dsimp only); exact kB11.full
          clear hK K hHeld
          have hHeld := hHeldN
          clear hHeldN
          try simp only [Act.put, List.setIfInBounds_toArray, List.set_cons_zero, List.set_cons_succ]
          refine wpAnyH_done (by kernel_rfl) ?_ _
          go_wp2_with fail
          go_roundw
          case rel => exact ⟨i + 1, hlt, by go_num, Lib.hid hA11, kB11, hW11⟩
          case measure => simp [intOf]; omega
        · go_simp
          obtain ⟨Wi, hWi⟩ : ∃ W, Wa.alloc (.cells #[.int .i64 (i : Int)] 3) = W := ⟨_, rfl⟩
          obtain ⟨bI, hbI'⟩ : ∃ b, Wa.heap.size = b := ⟨_, rfl⟩
          have kI : Blk Wi bI #[.int .i64 (i : Int)] 3 := by rw [← hWi, ← hbI']; exact Blk.new rfl
          have kA0 := kA
          replace kA : Blk Wi bA #[] 3 := by rw [← hWi]; exact kA.alloc
          have hAI : bI ≠ bA := by intro e; rw [← hbI'] at e; have := kA0.lt; omega
          replace hW : Below wr.heap.size wr Wi := by rw [← hWi]; exact hW.alloc hW.size _
          rw [hWi, hbI']
          refine hK.out _ _ ?_ (fun hHeldN => ?_)
          · (try dsimp only); exact (Blk.later hW kB).full
          clear hK K hHeld
          have hHeld := hHeldN
          clear hHeldN
          try simp only [Act.put, List.setIfInBounds_toArray, List.set_cons_zero, List.set_cons_succ]
          clear hWi hbI'
          refine wpAnyH_ready (rs := [6]) (by kernel_rfl) (by simp) ?_
          refine AllReadyH.cons rfl (fun K hK => ?_) (AllReadyH.nil)
          refine wp_append_row (.tmp 34) (.tmp 35) _ _ rfl (.slice (some ⟨bA, 0, none⟩) 0 0) (.slice ax r cx) rfl rfl (by
            obtain ⟨v', w', q1, q2, q3, q4, -⟩ := run_append_k (P := Try.prog) elem_in _ (B := wr.heap.size) (c := cx) (OwnK.none0 elem_in kA hbA) ((H3.out.later hB).later hW) (by have := HRb.out; simp; omega) hW.size
            rw [List.nil_append] at q2
            exact ⟨v', w', q1, (⟨q2, q3, q4⟩ : OwnK 3 1 in1 wr.heap.size w' v' xs ∧ World.grownBy _ w' (some bA) ∧ Below wr.heap.size _ w')⟩) ?_
          rintro r6 W6 ⟨hO6, hg6, hb6⟩
          replace kI : Blk W6 bI #[.int .i64 (i : Int)] 3 := kI.but hg6 (fun e => hAI (by cases e; rfl))
          replace hW : Below wr.heap.size wr W6 := hW.trans hb6
          clear hb6 hg6
          refine hK.out _ _ ?_ (fun hHeldN => ?_)
          · (try dsimp only); exact (Blk.later hW kB).full
          clear hK K hHeld
          have hHeld := hHeldN
          clear hHeldN
          try simp only [Act.put, List.setIfInBounds_toArray, List.set_cons_zero, List.set_cons_succ]
          refine wpAnyH_ready (rs := [9]) (by kernel_rfl) (by simp) ?_
          refine AllReadyH.cons rfl (fun K hK => ?_) AllReadyH.nil
          refine wp_append_row (.tmp 36) (.tmp 38) _ _ rfl r6 (.slice (some ⟨bI, 0, none⟩) 1 1) rfl rfl (by
            obtain ⟨v', w', q1, q2, -, q4, -⟩ := run_append_k (P := Try.prog) elem_in _ (B := wr.heap.size) (c := 1) hO6 (rowK_one elem_in (x := (i : Int)) kI) (by have := hxl.out; have := HRb.out; omega) hW.size
            exact ⟨v', w', q1, (⟨q2, q4⟩ : OwnK 3 1 in1 wr.heap.size w' v' (xs ++ [(i : Int)]) ∧ Below wr.heap.size _ w')⟩) ?_
          rintro r9 W9 ⟨hO9, hb9⟩
          replace hW : Below wr.heap.size wr W9 := hW.trans hb9
          clear hb9 hO6 kI
          obtain ⟨aq, cq, ev, -⟩ := hO9.row elem_in
          rw [List.length_append, hxl.out] at ev
          replace ev : r9 = .slice aq (r + 1) cq := ev
          subst ev
          refine hK.out _ _ ?_ (fun hHeldN => ?_)
          · (try dsimp only); exact (Blk.later hW kB).full
          clear hK K hHeld
          have hHeld := hHeldN
          clear hHeldN
          try simp only [Act.put, List.setIfInBounds_toArray, List.set_cons_zero, List.set_cons_succ]
          refine wpAnyH_ready (rs := [10]) (by kernel_rfl) (by simp) ?_
          refine AllReadyH.cons rfl (fun K hK => ?_) AllReadyH.nil
          go_simp
          refine (HR.out aq cq i _ hlt ((H1.out.later hB).later hW) ((H2.out.later hB).later hW) (hO9.mono (Nat.zero_le _))).mono ?_
          rintro e W10 ⟨⟨v10, rfl, hV⟩, hb⟩
          replace hW := belowThru hW hb
          clear hb hO9
          obtain ⟨a10, c10, ev⟩ := hV.form
          obtain ⟨m10, hm10⟩ : ∃ q, (extR s p zs us n k (xs ++ [(i : Int)])).length = q := ⟨_, rfl⟩
          rw [hm10] at ev
          subst ev
          clear hm10
          try go_simp
          refine hK.out _ _ ?_ (fun hHeldN => ?_)
          · (try dsimp only); exact (Blk.later hW kB).full
          clear hK K hHeld
          have hHeld := hHeldN
          clear hHeldN
          try simp only [Act.put, List.setIfInBounds_toArray, List.set_cons_zero, List.set_cons_succ]
          refine wpAnyH_ready (rs := [11]) (by kernel_rfl) (by simp) ?_
          refine AllReadyH.cons rfl (fun K hK => ?_) AllReadyH.nil
          refine wp_append_row (.tmp 30) (.tmp 40) _ _ rfl (.slice a9 m9 c9) (.slice a10 m10 c10) rfl rfl (by
            exact AllE.app (B := w.heap.size + 1) (hL.out.later hW) hV (by have := hLl.out; have := hEl.out; have h1 := pow_bd HN.out HKb.out; have h2 : n * n ^ k ≤ 10 * 10000000000 := Nat.mul_le_mul HN.out h1; omega) (by have := hW.size; have := kB.lt; omega) _) ?_
          rintro r11 W11 ⟨hA11, hb11⟩
          rw [← hKe.out] at hA11
          have kB11 : Blk W11 w.heap.size #[.int .i64 s, .int .i64 p, .int .i64 g, .int .i64 l] 23 := (Blk.later hW kB).below hb11 (Nat.lt_succ_self _)
          have hW11 : Below w.heap.size w W11 := (belowThru hB hW).trans (hb11.mono (Nat.le_succ _))
          refine hK.out _ _ ?_ (fun hHeldN => ?_)
          · (try dsimp only); exact kB11.full
          clear hK K hHeld
          have hHeld := hHeldN
          clear hHeldN
          try simp only [Act.put, List.setIfInBounds_toArray, List.set_cons_zero, List.set_cons_succ]
          refine wpAnyH_ready (rs := [12]) (by kernel_rfl) (by simp) ?_
          refine AllReadyH.cons rfl (fun K hK => ?_) AllReadyH.nil
          go_simp
          refine hK.out _ _ ?_ (fun hHeldN => ?_)
          · (try dsimp only); exact kB11.full
          clear hK K hHeld
          have hHeld := hHeldN
          clear hHeldN
          try simp only [Act.put, List.setIfInBounds_toArray, List.set_cons_zero, List.set_cons_succ]
          refine wpAnyH_done (by kernel_rfl) ?_ _
          go_wp2_with fail
          go_roundw
          case rel => exact ⟨i + 1, hlt, by go_num, Lib.hid hA11, kB11, hW11⟩
          case measure => simp [intOf]; omega
      · go_simp
        obtain ⟨Wi, hWi⟩ : ∃ W, Wd.alloc (.cells #[.int .i64 (i : Int)] 3) = W := ⟨_, rfl⟩
        obtain ⟨bI, hbI'⟩ : ∃ b, Wd.heap.size = b := ⟨_, rfl⟩
        have kI : Blk Wi bI #[.int .i64 (i : Int)] 3 := by rw [← hWi, ← hbI']; exact Blk.new rfl
        replace hW : Below wr.heap.size wr Wi := by rw [← hWi]; exact hW.alloc hW.size _
        rw [hWi, hbI']
        refine hK.out _ _ ?_ (fun hHeldN => ?_)
        · (try dsimp only); exact (Blk.later hW kB).full
        clear hK K hHeld
        have hHeld := hHeldN
        clear hHeldN
        try simp only [Act.put, List.setIfInBounds_toArray, List.set_cons_zero, List.set_cons_succ]
        clear hWi hbI'
        refine wpAnyH_ready (rs := [4]) (by kernel_rfl) (by simp) ?_
        refine AllReadyH.cons rfl (fun K hK => ?_) (AllReadyH.nil)
        go_simp
        obtain ⟨Wa, hWa⟩ : ∃ W, Wi.alloc (.cells #[] 3) = W := ⟨_, rfl⟩
        obtain ⟨bA, hbA'⟩ : ∃ b, Wi.heap.size = b := ⟨_, rfl⟩
        have kA : Blk Wa bA #[] 3 := by rw [← hWa, ← hbA']; exact Blk.new rfl
        have hbA : wr.heap.size ≤ bA := by rw [← hbA']; exact hW.size
        have kI0 := kI
        replace kI : Blk Wa bI #[.int .i64 (i : Int)] 3 := by rw [← hWa]; exact kI.alloc
        have hAI : bI ≠ bA := by intro e; rw [← hbA'] at e; have := kI0.lt; omega
        replace hW : Below wr.heap.size wr Wa := by rw [← hWa]; exact hW.alloc hW.size _
        rw [hWa, hbA']
        refine hK.out _ _ ?_ (fun hHeldN => ?_)
        · (try dsimp only); exact (Blk.later hW kB).full
        clear hK K hHeld
        have hHeld := hHeldN
        clear hHeldN
        try simp only [Act.put, List.setIfInBounds_toArray, List.set_cons_zero, List.set_cons_succ]
        clear hWa hbA'
        refine wpAnyH_ready (rs := [6]) (by kernel_rfl) (by simp) ?_
        refine AllReadyH.cons rfl (fun K hK => ?_) (AllReadyH.nil)
        refine wp_append_row (.tmp 34) (.tmp 35) _ _ rfl (.slice (some ⟨bA, 0, none⟩) 0 0) (.slice ax r cx) rfl rfl (by
          obtain ⟨v', w', q1, q2, q3, q4, -⟩ := run_append_k (P := Try.prog) elem_in _ (B := wr.heap.size) (c := cx) (OwnK.none0 elem_in kA hbA) ((H3.out.later hB).later hW) (by have := HRb.out; simp; omega) hW.size
          rw [List.nil_append] at q2
          exact ⟨v', w', q1, (⟨q2, q3, q4⟩ : OwnK 3 1 in1 wr.heap.size w' v' xs ∧ World.grownBy _ w' (some bA) ∧ Below wr.heap.size _ w')⟩) ?_
        rintro r6 W6 ⟨hO6, hg6, hb6⟩
        replace kI : Blk W6 bI #[.int .i64 (i : Int)] 3 := kI.but hg6 (fun e => hAI (by cases e; rfl))
        replace hW : Below wr.heap.size wr W6 := hW.trans hb6
        clear hb6 hg6
        refine hK.out _ _ ?_ (fun hHeldN => ?_)
        · (try dsimp only); exact (Blk.later hW kB).full
        clear hK K hHeld
        have hHeld := hHeldN
        clear hHeldN
        try simp only [Act.put, List.setIfInBounds_toArray, List.set_cons_zero, List.set_cons_succ]
        refine wpAnyH_ready (rs := [9]) (by kernel_rfl) (by simp) ?_
        refine AllReadyH.cons rfl (fun K hK => ?_) AllReadyH.nil
        refine wp_append_row (.tmp 36) (.tmp 38) _ _ rfl r6 (.slice (some ⟨bI, 0, none⟩) 1 1) rfl rfl (by
          obtain ⟨v', w', q1, q2, -, q4, -⟩ := run_append_k (P := Try.prog) elem_in _ (B := wr.heap.size) (c := 1) hO6 (rowK_one elem_in (x := (i : Int)) kI) (by have := hxl.out; have := HRb.out; omega) hW.size
          exact ⟨v', w', q1, (⟨q2, q4⟩ : OwnK 3 1 in1 wr.heap.size w' v' (xs ++ [(i : Int)]) ∧ Below wr.heap.size _ w')⟩) ?_
        rintro r9 W9 ⟨hO9, hb9⟩
        replace hW : Below wr.heap.size wr W9 := hW.trans hb9
        clear hb9 hO6 kI
        obtain ⟨aq, cq, ev, -⟩ := hO9.row elem_in
        rw [List.length_append, hxl.out] at ev
        replace ev : r9 = .slice aq (r + 1) cq := ev
        subst ev
        refine hK.out _ _ ?_ (fun hHeldN => ?_)
        · (try dsimp only); exact (Blk.later hW kB).full
        clear hK K hHeld
        have hHeld := hHeldN
        clear hHeldN
        try simp only [Act.put, List.setIfInBounds_toArray, List.set_cons_zero, List.set_cons_succ]
        refine wpAnyH_ready (rs := [10]) (by kernel_rfl) (by simp) ?_
        refine AllReadyH.cons rfl (fun K hK => ?_) AllReadyH.nil
        go_simp
        refine (HR.out aq cq i _ hlt ((H1.out.later hB).later hW) ((H2.out.later hB).later hW) (hO9.mono (Nat.zero_le _))).mono ?_
        rintro e W10 ⟨⟨v10, rfl, hV⟩, hb⟩
        replace hW := belowThru hW hb
        clear hb hO9
        obtain ⟨a10, c10, ev⟩ := hV.form
        obtain ⟨m10, hm10⟩ : ∃ q, (extR s p zs us n k (xs ++ [(i : Int)])).length = q := ⟨_, rfl⟩
        rw [hm10] at ev
        subst ev
        clear hm10
        try go_simp
        refine hK.out _ _ ?_ (fun hHeldN => ?_)
        · (try dsimp only); exact (Blk.later hW kB).full
        clear hK K hHeld
        have hHeld := hHeldN
        clear hHeldN
        try simp only [Act.put, List.setIfInBounds_toArray, List.set_cons_zero, List.set_cons_succ]
        refine wpAnyH_ready (rs := [11]) (by kernel_rfl) (by simp) ?_
        refine AllReadyH.cons rfl (fun K hK => ?_) AllReadyH.nil
        refine wp_append_row (.tmp 30) (.tmp 40) _ _ rfl (.slice a9 m9 c9) (.slice a10 m10 c10) rfl rfl (by
          exact AllE.app (B := w.heap.size + 1) (hL.out.later hW) hV (by have := hLl.out; have := hEl.out; have h1 := pow_bd HN.out HKb.out; have h2 : n * n ^ k ≤ 10 * 10000000000 := Nat.mul_le_mul HN.out h1; omega) (by have := hW.size; have := kB.lt; omega) _) ?_
        rintro r11 W11 ⟨hA11, hb11⟩
        rw [← hKe.out] at hA11
        have kB11 : Blk W11 w.heap.size #[.int .i64 s, .int .i64 p, .int .i64 g, .int .i64 l] 23 := (Blk.later hW kB).below hb11 (Nat.lt_succ_self _)
        have hW11 : Below w.heap.size w W11 := (belowThru hB hW).trans (hb11.mono (Nat.le_succ _))
        refine hK.out _ _ ?_ (fun hHeldN => ?_)
        · (try dsimp only); exact kB11.full
        clear hK K hHeld
        have hHeld := hHeldN
        clear hHeldN
        try simp only [Act.put, List.setIfInBounds_toArray, List.set_cons_zero, List.set_cons_succ]
        refine wpAnyH_ready (rs := [12]) (by kernel_rfl) (by simp) ?_
        refine AllReadyH.cons rfl (fun K hK => ?_) AllReadyH.nil
        go_simp
        refine hK.out _ _ ?_ (fun hHeldN => ?_)
        · (try dsimp only); exact kB11.full
        clear hK K hHeld
        have hHeld := hHeldN
        clear hHeldN
        try simp only [Act.put, List.setIfInBounds_toArray, List.set_cons_zero, List.set_cons_succ]
        refine wpAnyH_done (by kernel_rfl) ?_ _
        go_wp2_with fail
        go_roundw
        case rel => exact ⟨i + 1, hlt, by go_num, Lib.hid hA11, kB11, hW11⟩
        case measure => simp [intOf]; omega
    · obtain rfl : i = n := by omega
      clear hlt hi
      go_wp2_with fail
      go_ret
      exact ⟨⟨_, rfl, hL.out.mono (by omega)⟩, hB⟩
end Go.Proofs.Ytnkpejinnbiocaa
