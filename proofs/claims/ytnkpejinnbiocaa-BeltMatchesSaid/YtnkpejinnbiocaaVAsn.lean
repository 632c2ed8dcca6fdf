/-
  Layer 9: the closure of Match, by the code.
-/
import Derived.Test.YtnkpejinnbiocaaVAs
namespace Go.Proofs.Ytnkpejinnbiocaa
open Go.RowKit Go.Shelf
set_option linter.unusedVariables false
set_option linter.unusedSimpArgs false


theorem AllR.app {B : Nat} {W : World} {v : Value} {L : List (List Int)} {h : Sl} {y : List Int} (hL : AllR B W v L) (hy : OwnK 3 1 in1 B W (slv h) y) (hl : L.length < 1099511627776) (hB : B ≤ W.heap.size) (ty : TypeId) :
    ∃ r w', (Builtin.append_ #[57, 57] ty #[v, .slice (some ⟨W.heap.size, 0, none⟩) 1 1]).run Try.prog (W.alloc (.cells #[slv h] 56)) = .ok r w' ∧ (AllR B w' r (L ++ [y]) ∧ Below B W w') := by
  obtain ⟨hs, h1, h2, h3⟩ := hL
  obtain ⟨v', w', q1, q2, q3, q4, q5⟩ := run_append_k elem_sl ty (OwnK.alloc (o := .cells #[slv h] 56) h1) (rowK_one elem_sl (w := W.alloc (.cells #[slv h] 56)) (x := h) (Blk.new rfl)) (by omega) (by simp; omega)
  refine ⟨v', w', q1, ?_, Below.trans ((Below.refl _ _).alloc hB _) q4⟩
  have hL2 : AllR B (W.alloc (.cells #[slv h] 56)) v L := AllR.later (belowAlloc (Below.refl _ _)) ⟨hs, h1, h2, h3⟩
  obtain ⟨hs', h1', h2', h3'⟩ := hL2
  exact ⟨hs ++ [h], q2, by rw [List.length_append, List.length_append, h2]; rfl, fun i h' y' hi hy' => by
    rcases Nat.lt_trichotomy i L.length with hlt | heq | hgt
    · rw [List.getElem?_append_left (by omega)] at hi
      rw [List.getElem?_append_left hlt] at hy'
      have q := (h3 i h' y' hi hy').alloc (o := .cells #[slv h] 56)
      exact q.but q3 (q.apart h1.alloc (by decide))
    · subst heq
      rw [List.getElem?_append_right (by omega), h2, Nat.sub_self] at hi
      rw [List.getElem?_append_right (Nat.le_refl _), Nat.sub_self] at hy'
      cases hi; cases hy'
      have q := hy.alloc (o := .cells #[slv h] 56)
      exact q.but q3 (q.apart h1.alloc (by decide))
    · rw [List.getElem?_append_right (by omega), List.getElem?_eq_none (by simp; omega)] at hi
      cases hi⟩
theorem AllR.form {B : Nat} {W : World} {v : Value} {L : List (List Int)} (h : AllR B W v L) : ∃ a c, v = .slice a L.length c := by
  obtain ⟨hs, h1, h2, -⟩ := h
  obtain ⟨a, c, e, -⟩ := h1.row elem_sl
  exact ⟨a, c, by rw [e, h2]⟩
theorem flR_mono {α : Type} (f : Nat → List α) (fr i j : Nat) (h1 : fr ≤ i) (h2 : i ≤ j) : ((List.range' fr (i - fr)).flatMap f).length ≤ ((List.range' fr (j - fr)).flatMap f).length := by
  induction j with
  | zero =>
    obtain rfl : i = 0 := by omega
    exact Nat.le_refl _
  | succ j ih =>
    rcases Nat.lt_or_ge j i with h | h
    · obtain rfl : i = j + 1 := by omega
      exact Nat.le_refl _
    · rw [flR_succ f fr j (by omega), List.length_append]
      have := ih h
      omega
theorem rowC {w : World} {b : Nat} {cs : List Int} (k : Blk w b (ints cs) 3) : RowK 1 in1 w (some ⟨b, 0, none⟩) cs.length cs :=
  ⟨rfl, fun _ => ⟨b, 0, rfl, k.lt, fun j x hx i v hv => by
    cases i with
    | zero =>
      have e : v = .int .i64 x := by simpa [in1] using hv.symm
      rw [e, Nat.mul_one, Nat.add_zero, Nat.zero_add, k.cells, ints_get, hx]; rfl
    | succ i => simp [in1] at hv⟩⟩
theorem Blk.ne {w : World} {b g : Nat} {c c' : Array Value} {t t' : TypeId} (h : Blk w b c t) (k : Blk w g c' t') (hne : t ≠ t') : b ≠ g := by
  rintro rfl
  have : w.heap[b]? = some (.cells c t (0, 0)) := h
  have k' : w.heap[b]? = some (.cells c' t' (0, 0)) := k
  rw [this] at k'
  cases k'
  exact hne rfl
/-- What is in memory while assignments are sought. -/
def StM (s p g l : Int) (a1 a2 : Option Addr) (n m c1 c2 : Nat) (BS BA BC BF BB BX gC B2 : Nat) (w0 : World) (x : List Int) (L : List (List Int)) (w : World) : Prop :=
  ∃ (av : Option Addr) (cv : Nat) (cs : List Int), Blk w BA #[.slice av L.length cv] 57 ∧ Blk w gC (ints cs) 3 ∧ (cs.length = m ∧ cs.take x.length = x) ∧ AllR B2 w (.slice av L.length cv) L ∧ Blk w BS #[.slice a2 m c2] 56 ∧ Blk w BC #[.slice (some ⟨gC, 0, none⟩) m m] 56 ∧ Blk w BF #[.slice a1 n c1] 56 ∧ Blk w BB #[.int .i64 s, .int .i64 p, .int .i64 g, .int .i64 l] 23 ∧ Blk w BX #[.func (.func 49) #[] #[.pointer (some ⟨BS, 0, none⟩), .pointer (some ⟨BA, 0, none⟩), .pointer (some ⟨BC, 0, none⟩), .pointer (some ⟨BF, 0, none⟩), .pointer (some ⟨BB, 0, none⟩), .pointer (some ⟨BX, 0, none⟩)]] 95 ∧ Below w0.heap.size w0 w ∧ B2 ≤ w.heap.size
section
variable (s p g l : Int) (a1 a2 : Option Addr) (n m c1 c2 : Nat) (zs us : List Int) (BS BA BC BF BB BX gC B2 : Nat) (w0 : World)
set_option maxRecDepth 100000 in
set_option maxHeartbeats 16000000 in
theorem assign_base (hw0 : w0.heap.size ≤ B2) (hltS : BS < B2) (hltH : BC < B2) (hltF : BF < B2) (hltB : BB < B2) (hltX : BX < B2) (hltA : BA < B2) (hltC : gC < B2) (hA : w0.heap.size ≤ BA ∧ BA < B2) (hG : w0.heap.size ≤ gC ∧ gC < B2) (hm : m ≤ 10) (fr : Nat) (x : List Int) (L : List (List Int)) (w : World) (hx : x.length = m) (hl : L.length < 1099511627776) (hS : StM s p g l a1 a2 n m c1 c2 BS BA BC BF BB BX gC B2 w0 x L w) :
    Calls Try.prog 49 #[.int .i64 (m : Int), .int .i64 (fr : Int), .pointer (some ⟨BS, 0, none⟩), .pointer (some ⟨BA, 0, none⟩), .pointer (some ⟨BC, 0, none⟩), .pointer (some ⟨BF, 0, none⟩), .pointer (some ⟨BB, 0, none⟩), .pointer (some ⟨BX, 0, none⟩)] w fun e w' => e = .returned (.tuple #[]) ∧ StM s p g l a1 a2 n m c1 c2 BS BA BC BF BB BX gC B2 w0 x (L ++ [x]) w' := by
  obtain ⟨av, cv, cs, kA, kC, ⟨hc1, hc2⟩, hAll, kS, kH, kF, kB, kX, hB, hw2⟩ := hS
  have hcs : cs = x := by rw [hx, ← hc1, List.take_length] at hc2; exact hc2
  subst hcs
  have HL := Lib.hid hc1
  have HLL := Lib.hid hl
  have HAll := Lib.hid hAll
  have HA := Lib.hid hA; have HG := Lib.hid hG
  obtain ⟨nL, hnL⟩ : ∃ nL, L.length = nL := ⟨_, rfl⟩
  have HNL := Lib.hid hnL
  rw [hnL] at kA HAll
  clear hx hl hc1 hc2 hAll hA hG hnL
  obtain ⟨aS, bS⟩ := kS.read; have yS := kS.lt
  go_enter Try.func49, Try.ntmps49
  go_wp2_with fail
  clear aS bS
  refine wp_region_held_drew (S := fun w' => True) (by kernel_rfl) trivial (fun hHeld => ?_)
  obtain ⟨Wd, hWd⟩ : ∃ Wd, w.drew = Wd := ⟨_, rfl⟩
  have qA : Blk Wd BA #[.slice av nL cv] 57 := by rw [← hWd]; exact kA.drew
  have qC : Blk Wd gC (ints cs) 3 := by rw [← hWd]; exact kC.drew
  have qS : Blk Wd BS #[.slice a2 m c2] 56 := by rw [← hWd]; exact kS.drew
  have qH : Blk Wd BC #[.slice (some ⟨gC, 0, none⟩) m m] 56 := by rw [← hWd]; exact kH.drew
  have qF : Blk Wd BF #[.slice a1 n c1] 56 := by rw [← hWd]; exact kF.drew
  have qB : Blk Wd BB #[.int .i64 s, .int .i64 p, .int .i64 g, .int .i64 l] 23 := by rw [← hWd]; exact kB.drew
  have qX : Blk Wd BX #[.func (.func 49) #[] #[.pointer (some ⟨BS, 0, none⟩), .pointer (some ⟨BA, 0, none⟩), .pointer (some ⟨BC, 0, none⟩), .pointer (some ⟨BF, 0, none⟩), .pointer (some ⟨BB, 0, none⟩), .pointer (some ⟨BX, 0, none⟩)]] 95 := by rw [← hWd]; exact kX.drew
  have qL : Hid (AllR B2 Wd (.slice av nL cv) L) := by rw [← hWd]; exact AllR.later (Below.refl _ _).drew HAll.out
  have hBd : Below w0.heap.size w0 Wd := by rw [← hWd]; exact hB.drew
  have hwd : B2 ≤ Wd.heap.size := by rw [← hWd]; exact hw2
  rw [hWd]
  clear hWd kA kC kS kH kF kB kX HAll hB hw2 yS
  refine wpAnyH_ready (rs := [0, 1]) (by kernel_rfl) (by simp) ?_
  refine AllReadyH.cons rfl (fun K hK => ?_) (AllReadyH.cons rfl (fun K hK => ?_) (AllReadyH.nil))
  · obtain ⟨aA, bA⟩ := qA.read; have yA := qA.lt
    go_simp
    clear aA bA yA
    refine hK.out _ _ trivial (fun hHeldN => ?_)
    clear hK K hHeld
    have hHeld := hHeldN
    clear hHeldN
    try simp only [Act.put, List.setIfInBounds_toArray, List.set_cons_zero, List.set_cons_succ]
    refine wpAnyH_ready (rs := [1]) (by kernel_rfl) (by simp) ?_
    refine AllReadyH.cons rfl (fun K hK => ?_) (AllReadyH.nil)
    obtain ⟨aH, bH⟩ := qH.read; have yH := qH.lt
    go_simp
    clear aH bH yH
    refine hK.out _ _ trivial (fun hHeldN => ?_)
    clear hK K hHeld
    have hHeld := hHeldN
    clear hHeldN
    try simp only [Act.put, List.setIfInBounds_toArray, List.set_cons_zero, List.set_cons_succ]
    refine wpAnyH_ready (rs := [2]) (by kernel_rfl) (by simp) ?_
    refine AllReadyH.cons rfl (fun K hK => ?_) (AllReadyH.nil)
    go_simp
    refine (cloneI_any (some ⟨gC, 0, none⟩) m m cs (by omega) Wd (by have h := rowC qC; rw [HL.out] at h; exact h)).mono ?_
    rintro e W5 ⟨⟨vC, rfl, hC⟩, hb⟩
    replace qA := Blk.later hb qA; replace qC := Blk.later hb qC; replace qS := Blk.later hb qS; replace qH := Blk.later hb qH; replace qF := Blk.later hb qF; replace qB := Blk.later hb qB; replace qX := Blk.later hb qX
    replace qL : Hid (AllR B2 W5 (.slice av nL cv) L) := AllR.later hb qL.out
    replace hBd := belowThru hBd hb
    replace hC := OwnK.mono hwd hC
    replace hwd : B2 ≤ W5.heap.size := Nat.le_trans hwd hb.size
    clear hb
    obtain ⟨aC, cC, rfl, -⟩ := hC.row elem_in
    have HC := Lib.hid hC
    clear hC
    try go_simp
    refine hK.out _ _ trivial (fun hHeldN => ?_)
    clear hK K hHeld
    have hHeld := hHeldN
    clear hHeldN
    try simp only [Act.put, List.setIfInBounds_toArray, List.set_cons_zero, List.set_cons_succ]
    refine wpAnyH_ready (rs := [3]) (by kernel_rfl) (by simp) ?_
    refine AllReadyH.cons rfl (fun K hK => ?_) (AllReadyH.nil)
    go_simp
    refine hK.out _ _ trivial (fun hHeldN => ?_)
    clear hK K hHeld
    have hHeld := hHeldN
    clear hHeldN
    try simp only [Act.put, List.setIfInBounds_toArray, List.set_cons_zero, List.set_cons_succ]
    refine wpAnyH_ready (rs := [4]) (by kernel_rfl) (by simp) ?_
    refine AllReadyH.cons rfl (fun K hK => ?_) (AllReadyH.nil)
    have HA2 : Hid (∀ ty, ∃ r w', (Builtin.append_ #[57, 57] ty #[.slice av nL cv, .slice (some ⟨W5.heap.size, 0, none⟩) 1 1]).run Try.prog (W5.alloc (.cells #[.slice aC cs.length cC] 56)) = .ok r w' ∧ (∃ ar cr, r = .slice ar (nL + 1) cr ∧ Hid (AllR B2 w' (.slice ar (nL + 1) cr) (L ++ [cs])) ∧ Below B2 W5 w')) := fun ty => by
      obtain ⟨r, w', h1, h2, h3⟩ := AllR.app qL.out (h := (aC, cs.length, cC)) HC.out HLL.out hwd ty
      obtain ⟨ar, cr, e⟩ := h2.form
      rw [List.length_append, HNL.out] at e
      subst e
      exact ⟨_, w', h1, ar, cr, rfl, h2, h3⟩
    refine wp_append_row (.tmp 15) (.tmp 18) _ _ rfl (.slice av nL cv) (.slice (some ⟨W5.heap.size, 0, none⟩) 1 1) rfl rfl (HA2.out _) ?_
    rintro r W8 ⟨ar, cr, rfl, hAll, hb⟩
    have lA := qA.lt
    have rA := Blk.below hb (hltA) qA
    have rC := Blk.below hb (hltC) qC
    have rS := Blk.below hb (hltS) qS
    have rH := Blk.below hb (hltH) qH
    have rF := Blk.below hb (hltF) qF
    have rB := Blk.below hb (hltB) qB
    have rX := Blk.below hb (hltX) qX
    have hB8 : Below w0.heap.size w0 W8 := hBd.trans (hb.mono (hw0))
    have hw8 : B2 ≤ W8.heap.size := Nat.le_trans hwd hb.size
    clear qA qC qS qH qF qB qX qL hBd hb HA2 lA
    refine hK.out _ _ trivial (fun hHeldN => ?_)
    clear hK K hHeld
    have hHeld := hHeldN
    clear hHeldN
    try simp only [Act.put, List.setIfInBounds_toArray, List.set_cons_zero, List.set_cons_succ]
    refine wpAnyH_ready (rs := [5]) (by kernel_rfl) (by simp) ?_
    refine AllReadyH.cons rfl (fun K hK => ?_) (AllReadyH.nil)
    obtain ⟨aA, bA⟩ := rA.read; have yA := rA.lt
    go_simp
    have HF : Hid (StM s p g l a1 a2 n m c1 c2 BS BA BC BF BB BX gC B2 w0 cs (L ++ [cs]) (W8.setCell ⟨BA, 0, none⟩ (.slice ar (nL + 1) cr))) := by
      have e : (L ++ [cs]).length = nL + 1 := by rw [List.length_append, HNL.out]; rfl
      refine ⟨ar, cr, cs, ?_, Blk.other rC (rC.ne rA (by decide)), ⟨HL.out, List.take_length⟩, ?_, Blk.other rS (rS.ne rA (by decide)), Blk.other rH (rH.ne rA (by decide)), Blk.other rF (rF.ne rA (by decide)), Blk.other rB (rB.ne rA (by decide)), Blk.other rX (rX.ne rA (by decide)), hB8.setCell HA.out.1 _, by simpa [World.setCell] using hw8⟩
      · rw [e]; exact Blk.set (i := 0) (v := .slice ar (nL + 1) cr) rA
      · rw [e]; exact hAll.out.set HA.out.2 _
    clear aA bA yA rA rC rS rH rF rB rX hB8 hw8 hAll
    refine hK.out _ _ trivial (fun hHeldN => ?_)
    clear hK K hHeld
    have hHeld := hHeldN
    clear hHeldN
    try simp only [Act.put, List.setIfInBounds_toArray, List.set_cons_zero, List.set_cons_succ]
    refine wpAnyH_done (by kernel_rfl) ?_ _
    go_wp2_with fail
    exact bodyPost_ret (v := .tuple #[]) (by simp [results, Try.results49]) rfl ⟨rfl, HF.out⟩
  · obtain ⟨aH, bH⟩ := qH.read; have yH := qH.lt
    go_simp
    clear aH bH yH
    refine hK.out _ _ trivial (fun hHeldN => ?_)
    clear hK K hHeld
    have hHeld := hHeldN
    clear hHeldN
    try simp only [Act.put, List.setIfInBounds_toArray, List.set_cons_zero, List.set_cons_succ]
    refine wpAnyH_ready (rs := [0, 2]) (by kernel_rfl) (by simp) ?_
    refine AllReadyH.cons rfl (fun K hK => ?_) (AllReadyH.cons rfl (fun K hK => ?_) (AllReadyH.nil))
    · obtain ⟨aA, bA⟩ := qA.read; have yA := qA.lt
      go_simp
      clear aA bA yA
      refine hK.out _ _ trivial (fun hHeldN => ?_)
      clear hK K hHeld
      have hHeld := hHeldN
      clear hHeldN
      try simp only [Act.put, List.setIfInBounds_toArray, List.set_cons_zero, List.set_cons_succ]
      refine wpAnyH_ready (rs := [2]) (by kernel_rfl) (by simp) ?_
      refine AllReadyH.cons rfl (fun K hK => ?_) (AllReadyH.nil)
      go_simp
      refine (cloneI_any (some ⟨gC, 0, none⟩) m m cs (by omega) Wd (by have h := rowC qC; rw [HL.out] at h; exact h)).mono ?_
      rintro e W5 ⟨⟨vC, rfl, hC⟩, hb⟩
      replace qA := Blk.later hb qA; replace qC := Blk.later hb qC; replace qS := Blk.later hb qS; replace qH := Blk.later hb qH; replace qF := Blk.later hb qF; replace qB := Blk.later hb qB; replace qX := Blk.later hb qX
      replace qL : Hid (AllR B2 W5 (.slice av nL cv) L) := AllR.later hb qL.out
      replace hBd := belowThru hBd hb
      replace hC := OwnK.mono hwd hC
      replace hwd : B2 ≤ W5.heap.size := Nat.le_trans hwd hb.size
      clear hb
      obtain ⟨aC, cC, rfl, -⟩ := hC.row elem_in
      have HC := Lib.hid hC
      clear hC
      try go_simp
      refine hK.out _ _ trivial (fun hHeldN => ?_)
      clear hK K hHeld
      have hHeld := hHeldN
      clear hHeldN
      try simp only [Act.put, List.setIfInBounds_toArray, List.set_cons_zero, List.set_cons_succ]
      refine wpAnyH_ready (rs := [3]) (by kernel_rfl) (by simp) ?_
      refine AllReadyH.cons rfl (fun K hK => ?_) (AllReadyH.nil)
      go_simp
      refine hK.out _ _ trivial (fun hHeldN => ?_)
      clear hK K hHeld
      have hHeld := hHeldN
      clear hHeldN
      try simp only [Act.put, List.setIfInBounds_toArray, List.set_cons_zero, List.set_cons_succ]
      refine wpAnyH_ready (rs := [4]) (by kernel_rfl) (by simp) ?_
      refine AllReadyH.cons rfl (fun K hK => ?_) (AllReadyH.nil)
      have HA2 : Hid (∀ ty, ∃ r w', (Builtin.append_ #[57, 57] ty #[.slice av nL cv, .slice (some ⟨W5.heap.size, 0, none⟩) 1 1]).run Try.prog (W5.alloc (.cells #[.slice aC cs.length cC] 56)) = .ok r w' ∧ (∃ ar cr, r = .slice ar (nL + 1) cr ∧ Hid (AllR B2 w' (.slice ar (nL + 1) cr) (L ++ [cs])) ∧ Below B2 W5 w')) := fun ty => by
        obtain ⟨r, w', h1, h2, h3⟩ := AllR.app qL.out (h := (aC, cs.length, cC)) HC.out HLL.out hwd ty
        obtain ⟨ar, cr, e⟩ := h2.form
        rw [List.length_append, HNL.out] at e
        subst e
        exact ⟨_, w', h1, ar, cr, rfl, h2, h3⟩
      refine wp_append_row (.tmp 15) (.tmp 18) _ _ rfl (.slice av nL cv) (.slice (some ⟨W5.heap.size, 0, none⟩) 1 1) rfl rfl (HA2.out _) ?_
      rintro r W8 ⟨ar, cr, rfl, hAll, hb⟩
      have lA := qA.lt
      have rA := Blk.below hb (hltA) qA
      have rC := Blk.below hb (hltC) qC
      have rS := Blk.below hb (hltS) qS
      have rH := Blk.below hb (hltH) qH
      have rF := Blk.below hb (hltF) qF
      have rB := Blk.below hb (hltB) qB
      have rX := Blk.below hb (hltX) qX
      have hB8 : Below w0.heap.size w0 W8 := hBd.trans (hb.mono (hw0))
      have hw8 : B2 ≤ W8.heap.size := Nat.le_trans hwd hb.size
      clear qA qC qS qH qF qB qX qL hBd hb HA2 lA
      refine hK.out _ _ trivial (fun hHeldN => ?_)
      clear hK K hHeld
      have hHeld := hHeldN
      clear hHeldN
      try simp only [Act.put, List.setIfInBounds_toArray, List.set_cons_zero, List.set_cons_succ]
      refine wpAnyH_ready (rs := [5]) (by kernel_rfl) (by simp) ?_
      refine AllReadyH.cons rfl (fun K hK => ?_) (AllReadyH.nil)
      obtain ⟨aA, bA⟩ := rA.read; have yA := rA.lt
      go_simp
      have HF : Hid (StM s p g l a1 a2 n m c1 c2 BS BA BC BF BB BX gC B2 w0 cs (L ++ [cs]) (W8.setCell ⟨BA, 0, none⟩ (.slice ar (nL + 1) cr))) := by
        have e : (L ++ [cs]).length = nL + 1 := by rw [List.length_append, HNL.out]; rfl
        refine ⟨ar, cr, cs, ?_, Blk.other rC (rC.ne rA (by decide)), ⟨HL.out, List.take_length⟩, ?_, Blk.other rS (rS.ne rA (by decide)), Blk.other rH (rH.ne rA (by decide)), Blk.other rF (rF.ne rA (by decide)), Blk.other rB (rB.ne rA (by decide)), Blk.other rX (rX.ne rA (by decide)), hB8.setCell HA.out.1 _, by simpa [World.setCell] using hw8⟩
        · rw [e]; exact Blk.set (i := 0) (v := .slice ar (nL + 1) cr) rA
        · rw [e]; exact hAll.out.set HA.out.2 _
      clear aA bA yA rA rC rS rH rF rB rX hB8 hw8 hAll
      refine hK.out _ _ trivial (fun hHeldN => ?_)
      clear hK K hHeld
      have hHeld := hHeldN
      clear hHeldN
      try simp only [Act.put, List.setIfInBounds_toArray, List.set_cons_zero, List.set_cons_succ]
      refine wpAnyH_done (by kernel_rfl) ?_ _
      go_wp2_with fail
      exact bodyPost_ret (v := .tuple #[]) (by simp [results, Try.results49]) rfl ⟨rfl, HF.out⟩
    · go_simp
      refine (cloneI_any (some ⟨gC, 0, none⟩) m m cs (by omega) Wd (by have h := rowC qC; rw [HL.out] at h; exact h)).mono ?_
      rintro e W5 ⟨⟨vC, rfl, hC⟩, hb⟩
      replace qA := Blk.later hb qA; replace qC := Blk.later hb qC; replace qS := Blk.later hb qS; replace qH := Blk.later hb qH; replace qF := Blk.later hb qF; replace qB := Blk.later hb qB; replace qX := Blk.later hb qX
      replace qL : Hid (AllR B2 W5 (.slice av nL cv) L) := AllR.later hb qL.out
      replace hBd := belowThru hBd hb
      replace hC := OwnK.mono hwd hC
      replace hwd : B2 ≤ W5.heap.size := Nat.le_trans hwd hb.size
      clear hb
      obtain ⟨aC, cC, rfl, -⟩ := hC.row elem_in
      have HC := Lib.hid hC
      clear hC
      try go_simp
      refine hK.out _ _ trivial (fun hHeldN => ?_)
      clear hK K hHeld
      have hHeld := hHeldN
      clear hHeldN
      try simp only [Act.put, List.setIfInBounds_toArray, List.set_cons_zero, List.set_cons_succ]
      refine wpAnyH_ready (rs := [0, 3]) (by kernel_rfl) (by simp) ?_
      refine AllReadyH.cons rfl (fun K hK => ?_) (AllReadyH.cons rfl (fun K hK => ?_) (AllReadyH.nil))
      · obtain ⟨aA, bA⟩ := qA.read; have yA := qA.lt
        go_simp
        clear aA bA yA
        refine hK.out _ _ trivial (fun hHeldN => ?_)
        clear hK K hHeld
        have hHeld := hHeldN
        clear hHeldN
        try simp only [Act.put, List.setIfInBounds_toArray, List.set_cons_zero, List.set_cons_succ]
        refine wpAnyH_ready (rs := [3]) (by kernel_rfl) (by simp) ?_
        refine AllReadyH.cons rfl (fun K hK => ?_) (AllReadyH.nil)
        go_simp
        refine hK.out _ _ trivial (fun hHeldN => ?_)
        clear hK K hHeld
        have hHeld := hHeldN
        clear hHeldN
        try simp only [Act.put, List.setIfInBounds_toArray, List.set_cons_zero, List.set_cons_succ]
        refine wpAnyH_ready (rs := [4]) (by kernel_rfl) (by simp) ?_
        refine AllReadyH.cons rfl (fun K hK => ?_) (AllReadyH.nil)
        have HA2 : Hid (∀ ty, ∃ r w', (Builtin.append_ #[57, 57] ty #[.slice av nL cv, .slice (some ⟨W5.heap.size, 0, none⟩) 1 1]).run Try.prog (W5.alloc (.cells #[.slice aC cs.length cC] 56)) = .ok r w' ∧ (∃ ar cr, r = .slice ar (nL + 1) cr ∧ Hid (AllR B2 w' (.slice ar (nL + 1) cr) (L ++ [cs])) ∧ Below B2 W5 w')) := fun ty => by
          obtain ⟨r, w', h1, h2, h3⟩ := AllR.app qL.out (h := (aC, cs.length, cC)) HC.out HLL.out hwd ty
          obtain ⟨ar, cr, e⟩ := h2.form
          rw [List.length_append, HNL.out] at e
          subst e
          exact ⟨_, w', h1, ar, cr, rfl, h2, h3⟩
        refine wp_append_row (.tmp 15) (.tmp 18) _ _ rfl (.slice av nL cv) (.slice (some ⟨W5.heap.size, 0, none⟩) 1 1) rfl rfl (HA2.out _) ?_
        rintro r W8 ⟨ar, cr, rfl, hAll, hb⟩
        have lA := qA.lt
        have rA := Blk.below hb (hltA) qA
        have rC := Blk.below hb (hltC) qC
        have rS := Blk.below hb (hltS) qS
        have rH := Blk.below hb (hltH) qH
        have rF := Blk.below hb (hltF) qF
        have rB := Blk.below hb (hltB) qB
        have rX := Blk.below hb (hltX) qX
        have hB8 : Below w0.heap.size w0 W8 := hBd.trans (hb.mono (hw0))
        have hw8 : B2 ≤ W8.heap.size := Nat.le_trans hwd hb.size
        clear qA qC qS qH qF qB qX qL hBd hb HA2 lA
        refine hK.out _ _ trivial (fun hHeldN => ?_)
        clear hK K hHeld
        have hHeld := hHeldN
        clear hHeldN
        try simp only [Act.put, List.setIfInBounds_toArray, List.set_cons_zero, List.set_cons_succ]
        refine wpAnyH_ready (rs := [5]) (by kernel_rfl) (by simp) ?_
        refine AllReadyH.cons rfl (fun K hK => ?_) (AllReadyH.nil)
        obtain ⟨aA, bA⟩ := rA.read; have yA := rA.lt
        go_simp
        have HF : Hid (StM s p g l a1 a2 n m c1 c2 BS BA BC BF BB BX gC B2 w0 cs (L ++ [cs]) (W8.setCell ⟨BA, 0, none⟩ (.slice ar (nL + 1) cr))) := by
          have e : (L ++ [cs]).length = nL + 1 := by rw [List.length_append, HNL.out]; rfl
          refine ⟨ar, cr, cs, ?_, Blk.other rC (rC.ne rA (by decide)), ⟨HL.out, List.take_length⟩, ?_, Blk.other rS (rS.ne rA (by decide)), Blk.other rH (rH.ne rA (by decide)), Blk.other rF (rF.ne rA (by decide)), Blk.other rB (rB.ne rA (by decide)), Blk.other rX (rX.ne rA (by decide)), hB8.setCell HA.out.1 _, by simpa [World.setCell] using hw8⟩
          · rw [e]; exact Blk.set (i := 0) (v := .slice ar (nL + 1) cr) rA
          · rw [e]; exact hAll.out.set HA.out.2 _
        clear aA bA yA rA rC rS rH rF rB rX hB8 hw8 hAll
        refine hK.out _ _ trivial (fun hHeldN => ?_)
        clear hK K hHeld
        have hHeld := hHeldN
        clear hHeldN
        try simp only [Act.put, List.setIfInBounds_toArray, List.set_cons_zero, List.set_cons_succ]
        refine wpAnyH_done (by kernel_rfl) ?_ _
        go_wp2_with fail
        exact bodyPost_ret (v := .tuple #[]) (by simp [results, Try.results49]) rfl ⟨rfl, HF.out⟩
      · go_simp
        refine hK.out _ _ trivial (fun hHeldN => ?_)
        clear hK K hHeld
        have hHeld := hHeldN
        clear hHeldN
        try simp only [Act.put, List.setIfInBounds_toArray, List.set_cons_zero, List.set_cons_succ]
        refine wpAnyH_ready (rs := [0]) (by kernel_rfl) (by simp) ?_
        refine AllReadyH.cons rfl (fun K hK => ?_) (AllReadyH.nil)
        obtain ⟨aA, bA⟩ := qA.read; have yA := qA.lt
        go_simp
        clear aA bA yA
        refine hK.out _ _ trivial (fun hHeldN => ?_)
        clear hK K hHeld
        have hHeld := hHeldN
        clear hHeldN
        try simp only [Act.put, List.setIfInBounds_toArray, List.set_cons_zero, List.set_cons_succ]
        refine wpAnyH_ready (rs := [4]) (by kernel_rfl) (by simp) ?_
        refine AllReadyH.cons rfl (fun K hK => ?_) (AllReadyH.nil)
        have HA2 : Hid (∀ ty, ∃ r w', (Builtin.append_ #[57, 57] ty #[.slice av nL cv, .slice (some ⟨W5.heap.size, 0, none⟩) 1 1]).run Try.prog (W5.alloc (.cells #[.slice aC cs.length cC] 56)) = .ok r w' ∧ (∃ ar cr, r = .slice ar (nL + 1) cr ∧ Hid (AllR B2 w' (.slice ar (nL + 1) cr) (L ++ [cs])) ∧ Below B2 W5 w')) := fun ty => by
          obtain ⟨r, w', h1, h2, h3⟩ := AllR.app qL.out (h := (aC, cs.length, cC)) HC.out HLL.out hwd ty
          obtain ⟨ar, cr, e⟩ := h2.form
          rw [List.length_append, HNL.out] at e
          subst e
          exact ⟨_, w', h1, ar, cr, rfl, h2, h3⟩
        refine wp_append_row (.tmp 15) (.tmp 18) _ _ rfl (.slice av nL cv) (.slice (some ⟨W5.heap.size, 0, none⟩) 1 1) rfl rfl (HA2.out _) ?_
        rintro r W8 ⟨ar, cr, rfl, hAll, hb⟩
        have lA := qA.lt
        have rA := Blk.below hb (hltA) qA
        have rC := Blk.below hb (hltC) qC
        have rS := Blk.below hb (hltS) qS
        have rH := Blk.below hb (hltH) qH
        have rF := Blk.below hb (hltF) qF
        have rB := Blk.below hb (hltB) qB
        have rX := Blk.below hb (hltX) qX
        have hB8 : Below w0.heap.size w0 W8 := hBd.trans (hb.mono (hw0))
        have hw8 : B2 ≤ W8.heap.size := Nat.le_trans hwd hb.size
        clear qA qC qS qH qF qB qX qL hBd hb HA2 lA
        refine hK.out _ _ trivial (fun hHeldN => ?_)
        clear hK K hHeld
        have hHeld := hHeldN
        clear hHeldN
        try simp only [Act.put, List.setIfInBounds_toArray, List.set_cons_zero, List.set_cons_succ]
        refine wpAnyH_ready (rs := [5]) (by kernel_rfl) (by simp) ?_
        refine AllReadyH.cons rfl (fun K hK => ?_) (AllReadyH.nil)
        obtain ⟨aA, bA⟩ := rA.read; have yA := rA.lt
        go_simp
        have HF : Hid (StM s p g l a1 a2 n m c1 c2 BS BA BC BF BB BX gC B2 w0 cs (L ++ [cs]) (W8.setCell ⟨BA, 0, none⟩ (.slice ar (nL + 1) cr))) := by
          have e : (L ++ [cs]).length = nL + 1 := by rw [List.length_append, HNL.out]; rfl
          refine ⟨ar, cr, cs, ?_, Blk.other rC (rC.ne rA (by decide)), ⟨HL.out, List.take_length⟩, ?_, Blk.other rS (rS.ne rA (by decide)), Blk.other rH (rH.ne rA (by decide)), Blk.other rF (rF.ne rA (by decide)), Blk.other rB (rB.ne rA (by decide)), Blk.other rX (rX.ne rA (by decide)), hB8.setCell HA.out.1 _, by simpa [World.setCell] using hw8⟩
          · rw [e]; exact Blk.set (i := 0) (v := .slice ar (nL + 1) cr) rA
          · rw [e]; exact hAll.out.set HA.out.2 _
        clear aA bA yA rA rC rS rH rF rB rX hB8 hw8 hAll
        refine hK.out _ _ trivial (fun hHeldN => ?_)
        clear hK K hHeld
        have hHeld := hHeldN
        clear hHeldN
        try simp only [Act.put, List.setIfInBounds_toArray, List.set_cons_zero, List.set_cons_succ]
        refine wpAnyH_done (by kernel_rfl) ?_ _
        go_wp2_with fail
        exact bodyPost_ret (v := .tuple #[]) (by simp [results, Try.results49]) rfl ⟨rfl, HF.out⟩
end
end Go.Proofs.Ytnkpejinnbiocaa
