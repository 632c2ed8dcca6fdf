/-
  Layer 9: one count, by the document's own.
-/
import Derived.Test.YtnkpejinnbiocaaVRAd
namespace Go.Proofs.Ytnkpejinnbiocaa
open Go.RowKit Go.Shelf
set_option linter.unusedVariables false
set_option linter.unusedSimpArgs false

theorem run_append_1f (ty : TypeId) {B : Nat} {w : World} {u : Value} {ys : List Ft} (x1 x2 : Int) (x3 : Bool) (hO : OwnK 74 3 ft1 B w u ys) (hl : ys.length ≤ 1000000) (hB : B ≤ w.heap.size) :
    ∃ r w', (Builtin.append_ #[49, 49] ty #[u, .slice (some ⟨w.heap.size, 0, none⟩) 1 1]).run Try.prog (w.alloc (.cells #[.int .i64 x1, .int .u8 x2, .bool x3] 74)) = .ok r w' ∧ (OwnK 74 3 ft1 B w' r (ys ++ [(x1, x2, x3)]) ∧ (w.alloc (.cells #[.int .i64 x1, .int .u8 x2, .bool x3] 74)).grownBy w' u.ownBlock ∧ Below B w w' ∧ (r.ownBlock = u.ownBlock ∨ r.ownBlock = some (w.heap.size + 1))) := run_append_1 elem_ft ty (x1, x2, x3) hO hl hB
/-- What is left of the first parts, and the fates of those that left. -/
def leK (b : Bool) (f z c : Int) (xs : List Sn) (k : Nat) : List Sn := ((xs.take k).map (hitI b f z c)).filter fun x => !goB z c x
def faK (b : Bool) (f z c : Int) (xs : List Sn) (k : Nat) : List Ft := (((xs.take k).map (hitI b f z c)).filter (goB z c)).map fateB
theorem leK_all {f z c : Int} {xs : List Sn} : leK (opB f z c xs) f z c xs xs.length = leftB f z c xs := by unfold leK leftB hitB; rw [List.take_length]
theorem faK_all {f z c : Int} {xs : List Sn} : faK (opB f z c xs) f z c xs xs.length = fatesB f z c xs := by unfold faK fatesB hitB; rw [List.take_length]
theorem leK_go {b : Bool} {f z c : Int} {xs : List Sn} {k : Nat} {x : Sn} (hx : xs[k]? = some x) (hg : goB z c x = true) : leK b f z c xs (k + 1) = leK b f z c xs k := by
  have e : goB z c (hitI b f z c x) = true := by unfold goB at hg ⊢; rw [(hitI_fst b f z c x).2.1]; exact hg
  unfold leK
  rw [List.take_add_one, hx, List.map_append, List.filter_append]
  simp [e]
theorem leK_stay {b : Bool} {f z c : Int} {xs : List Sn} {k : Nat} {x : Sn} (hx : xs[k]? = some x) (hg : goB z c x = false) : leK b f z c xs (k + 1) = leK b f z c xs k ++ [hitI b f z c x] := by
  have e : goB z c (hitI b f z c x) = false := by unfold goB at hg ⊢; rw [(hitI_fst b f z c x).2.1]; exact hg
  unfold leK
  rw [List.take_add_one, hx, List.map_append, List.filter_append]
  simp [e]
theorem faK_go {b : Bool} {f z c : Int} {xs : List Sn} {k : Nat} {x : Sn} (hx : xs[k]? = some x) (hg : goB z c x = true) : faK b f z c xs (k + 1) = faK b f z c xs k ++ [fateB (hitI b f z c x)] := by
  have e : goB z c (hitI b f z c x) = true := by unfold goB at hg ⊢; rw [(hitI_fst b f z c x).2.1]; exact hg
  unfold faK
  rw [List.take_add_one, hx, List.map_append, List.filter_append, List.map_append]
  simp [e]
theorem faK_stay {b : Bool} {f z c : Int} {xs : List Sn} {k : Nat} {x : Sn} (hx : xs[k]? = some x) (hg : goB z c x = false) : faK b f z c xs (k + 1) = faK b f z c xs k := by
  have e : goB z c (hitI b f z c x) = false := by unfold goB at hg ⊢; rw [(hitI_fst b f z c x).2.1]; exact hg
  unfold faK
  rw [List.take_add_one, hx, List.map_append, List.filter_append, List.map_append]
  simp [e]
theorem leK_length {b : Bool} {f z c : Int} {xs : List Sn} {k : Nat} : (leK b f z c xs k).length ≤ xs.length := by
  unfold leK
  have h := List.length_filter_le (fun x => !goB z c x) ((xs.take k).map (hitI b f z c))
  rw [List.length_map, List.length_take] at h
  omega
theorem faK_length {b : Bool} {f z c : Int} {xs : List Sn} {k : Nat} : (faK b f z c xs k).length ≤ xs.length := by
  unfold faK
  have h := List.length_filter_le (goB z c) ((xs.take k).map (hitI b f z c))
  rw [List.length_map, List.length_take] at h
  rw [List.length_map]
  omega
set_option maxRecDepth 100000 in
set_option maxHeartbeats 16000000 in
theorem rpassed_any (s p g l c nx : Int) (a : Option Addr) (n cap : Nat) (F L : Int) (xs : List Sn) (hn : n ≤ 32) (hc : 0 ≤ c ∧ c < 1099511627776) (hL : 1 ≤ L ∧ L ≤ 2000001) (hx : ∀ x ∈ xs, 0 ≤ x.2.1 ∧ x.2.1 ≤ 1099511627776) (w : World) (hR : RowK 4 sn1 w a n xs)
    (HM : Hid (∀ (q1 q2 q3 : Int) (q4 : Bool) (w : World), (q1, q2, q3, q4) ∈ xs → Calls Try.prog 61 #[.agg #[.int .i64 s, .int .i64 p, .int .i64 g, .int .i64 l], .agg #[.int .i64 q1, .int .i64 q2, .int .u8 q3, .bool q4], .int .i64 (c + 1)] w fun e w' => e = .returned (.bool (mayB F L (c + 1) (q1, q2, q3, q4))) ∧ Below w.heap.size w w'))
    (HE : Hid (∀ w, Calls Try.prog 37 #[.agg #[.int .i64 s, .int .i64 p, .int .i64 g, .int .i64 l], .int .i64 g] w fun e w' => e = .returned (.tuple #[.int .i64 F, .int .i64 L]) ∧ Below w.heap.size w w')) :
    Calls Try.prog 47 #[.agg #[.int .i64 s, .int .i64 p, .int .i64 g, .int .i64 l, .int .i64 c, .int .i64 nx, .slice a n cap]] w fun e w' => (∃ v u, e = .returned (.tuple #[.agg #[.int .i64 s, .int .i64 p, .int .i64 g, .int .i64 l, .int .i64 (c + 1), .int .i64 nx, v], u]) ∧ OwnK 43 4 sn1 w.heap.size w' v (leftB F L (c + 1) xs) ∧ OwnK 74 3 ft1 w.heap.size w' u (fatesB F L (c + 1) xs)) ∧ Below w.heap.size w w' := by
  have HR := Lib.hid hR; have HN := Lib.hid hn; have HX := Lib.hid hx
  have HO : Hid (∀ (w : World), RowK 4 sn1 w a n xs → Calls Try.prog 43 #[.agg #[.int .i64 s, .int .i64 p, .int .i64 g, .int .i64 l, .int .i64 (c + 1), .int .i64 nx, .slice a n cap], .int .i64 (c + 1)] w fun e w' => e = .returned (.bool (opB F L (c + 1) xs)) ∧ Below w.heap.size w w') := fun w hR => ropenAt_any s p g l (c + 1) nx a n cap F L (c + 1) xs (by omega) w hR HM
  have HZ1 : Hid (leftB F L (c + 1) xs = leK (opB F L (c + 1) xs) F L (c + 1) xs n) := by rw [← hR.1]; exact leK_all.symm
  have HZ2 : Hid (fatesB F L (c + 1) xs = faK (opB F L (c + 1) xs) F L (c + 1) xs n) := by rw [← hR.1]; exact faK_all.symm
  obtain ⟨O, hO⟩ : ∃ O, opB F L (c + 1) xs = O := ⟨_, rfl⟩
  rw [hO] at HO HZ1 HZ2
  have v1 : IntKind.i64.wrap (c + 1) = c + 1 := IntWalk.i64_in _ (by omega)
  obtain ⟨l1, l2⟩ := hL; obtain ⟨c1, c2⟩ := hc
  clear hO hR hn hx
  go_enter Try.func47, Try.ntmps47
  go_upto_region 2 with fail
  obtain ⟨W0, hW0⟩ : ∃ W, (w.alloc (.cells #[.int .i64 s, .int .i64 p, .int .i64 g, .int .i64 l, .int .i64 (c + 1), .int .i64 nx, .slice a n cap] 26)).alloc (.cells #[.int .i64 0, .int .i64 0, .int .i64 0, .int .i64 0, .int .i64 0, .int .i64 0, .slice none 0 0] 26) = W := ⟨_, rfl⟩
  have kT : Blk W0 w.heap.size #[.int .i64 s, .int .i64 p, .int .i64 g, .int .i64 l, .int .i64 (c + 1), .int .i64 nx, .slice a n cap] 26 := by rw [← hW0]; exact Blk.alloc (Blk.new rfl)
  have kR : Blk W0 (w.heap.size + 1) #[.int .i64 0, .int .i64 0, .int .i64 0, .int .i64 0, .int .i64 0, .int .i64 0, .slice none 0 0] 26 := by rw [← hW0]; exact Blk.new (by simp)
  have hB : Below w.heap.size w W0 := by rw [← hW0]; exact belowAlloc (belowAlloc (Below.refl _ _))
  rw [hW0]
  clear hW0
  obtain ⟨aT, bT⟩ := kT.read; have yT := kT.lt
  go_wp2_with fail
  refine (HO.out _ (HR.out.later hB)).mono ?_
  rintro e w1 ⟨rfl, hb⟩
  clear aT bT yT HO
  replace kT := Blk.later hb kT; replace kR := Blk.later hb kR; replace hB := belowThru hB hb
  clear hb
  obtain ⟨aT, bT⟩ := kT.read; have yT := kT.lt
  go_wp2_with fail
  refine (HE.out _).mono ?_
  rintro e w2 ⟨rfl, hb⟩
  clear aT bT yT HE
  replace kT := Blk.later hb kT; replace kR := Blk.later hb kR; replace hB := belowThru hB hb
  clear hb
  have hs := hB.size
  have yR := kR.lt
  obtain ⟨bT, hbT⟩ : ∃ b, w.heap.size = b := ⟨_, rfl⟩
  obtain ⟨bR, hbR⟩ : ∃ b, w.heap.size + 1 = b := ⟨_, rfl⟩
  obtain ⟨B0, hB0⟩ : ∃ b, w2.heap.size = b := ⟨_, rfl⟩
  have hne : bT ≠ bR := by omega
  have hTR : bT ≤ bR := by omega
  have hTB : bT < B0 := by omega
  have hRB : bR < B0 := by omega
  rw [hbR] at kR; rw [hbT] at kT
  rw [hbR, hbT]
  have HB : Below bT w w2 := by rw [← hbT]; exact hB
  have HRl : Hid (RowK 4 sn1 w2 a n xs) := HR.out.later hB
  have HBT := Lib.hid HB
  have hBw : Hid (w.heap.size = bT) := hbT
  clear hB hbT hbR hs yR HB HR
  obtain ⟨Wl, hWl⟩ : ∃ W, w2 = W := ⟨_, rfl⟩
  subst hWl
  obtain ⟨aT, bT'⟩ := kT.read; have yT := kT.lt
  go_wp2_with fail
  clear aT bT' yT
  have HB2 : Below B0 w2 w2 := Below.refl _ _
  have hBl := Lib.hid hB0
  clear hB0
  go_loopw [7, 8, 9] (fun v7 v8 j wr => ∃ k : Nat, k ≤ n ∧ j = .int .i64 k ∧ Hid (OwnK 74 3 ft1 B0 wr v7 (faK O F L (c + 1) xs k)) ∧ Hid (OwnK 43 4 sn1 B0 wr v8 (leK O F L (c + 1) xs k)) ∧ Blk wr bT #[.int .i64 s, .int .i64 p, .int .i64 g, .int .i64 l, .int .i64 (c + 1), .int .i64 nx, .slice a n cap] 26 ∧ Blk wr bR #[.int .i64 0, .int .i64 0, .int .i64 0, .int .i64 0, .int .i64 0, .int .i64 0, .slice none 0 0] 26 ∧ Below B0 w2 wr) (fun _ _ j _ => n - (intOf j).toNat)
  case atStart => exact ⟨0, Nat.zero_le _, rfl, OwnK.nil _ _, OwnK.nil _ _, kT, kR, HB2⟩
  case round =>
    clear kT kR HB2
    obtain ⟨k, hk, rfl, hU, hV, kT, kR, hB⟩ := hrel
    have hRw := HRl.out.later (by have := hBl.out; rw [this]; exact hB)
    by_cases hlt : k < n
    · obtain ⟨bb, oo, q1, q2, q3, q4, rfl, hbb, hxk, d0, d1, d2, d3⟩ := hRw.seen hlt
      have p0 : (0 : Int) ≤ (k : Int) := by omega
      have p1 : (k : Int) < (n : Int) := by omega
      have p2 : (k : Int) ≤ 32 := by have := HN.out; omega
      have hq : 0 ≤ q2 ∧ q2 ≤ 1099511627776 := HX.out _ (List.mem_of_getElem? hxk)
      have v2 : IntKind.i64.wrap (q2 + L) = q2 + L := IntWalk.i64_in _ (by omega)
      have HMk := Lib.hid (fun w => HM.out q1 q2 q3 q4 w (List.mem_of_getElem? hxk))
      obtain ⟨m, hm⟩ : ∃ m, mayB F L (c + 1) (q1, q2, q3, q4) = m := ⟨_, rfl⟩
      rw [hm] at HMk
      obtain ⟨qh, hqh⟩ : ∃ qh : Bool, (if (O && m) = true then true else q4) = qh := ⟨_, rfl⟩
      have hh : hitI O F L (c + 1) (q1, q2, q3, q4) = (q1, q2, q3, qh) := by
        unfold hitI
        rw [hm]
        split
        · rename_i h; rw [if_pos h] at hqh; rw [← hqh]; rfl
        · rename_i h; rw [if_neg h] at hqh; rw [← hqh]
      have HS : Hid ((q2 + L = c + 1 → leK O F L (c + 1) xs (k + 1) = leK O F L (c + 1) xs k ∧ faK O F L (c + 1) xs (k + 1) = faK O F L (c + 1) xs k ++ [(q1, q3, qh)]) ∧ (¬ q2 + L = c + 1 → leK O F L (c + 1) xs (k + 1) = leK O F L (c + 1) xs k ++ [(q1, q2, q3, qh)] ∧ faK O F L (c + 1) xs (k + 1) = faK O F L (c + 1) xs k)) := by
        refine ⟨fun h => ⟨leK_go hxk (decide_eq_true h), ?_⟩, fun h => ⟨?_, faK_stay hxk (decide_eq_false h)⟩⟩
        · rw [faK_go hxk (decide_eq_true h), hh]; rfl
        · rw [leK_stay hxk (decide_eq_false h), hh]
      have HQ := Lib.hid hqh
      clear hxk hm hq hqh hh hRw
      obtain ⟨aT, bT'⟩ := kT.read; have yT := kT.lt
      go_upto_region 10 with fail
      obtain ⟨Wa, hWa⟩ : ∃ W, wr.alloc (.cells #[.int .i64 q1, .int .i64 q2, .int .u8 q3, .bool q4] 43) = W := ⟨_, rfl⟩
      have hyw := hB.size
      obtain ⟨bX, hbX⟩ : ∃ b, wr.heap.size = b := ⟨_, rfl⟩
      have kX : Blk Wa bX #[.int .i64 q1, .int .i64 q2, .int .u8 q3, .bool q4] 43 := by rw [← hWa, ← hbX]; exact Blk.new rfl
      have hVX : Hid (u8.ownBlock ≠ some bX) := fun e => by have := (hV.out.lt bX e).2; omega
      replace kT : Blk Wa bT #[.int .i64 s, .int .i64 p, .int .i64 g, .int .i64 l, .int .i64 (c + 1), .int .i64 nx, .slice (some ⟨bb, oo, none⟩) n cap] 26 := by rw [← hWa]; exact kT.alloc
      replace kR : Blk Wa bR #[.int .i64 0, .int .i64 0, .int .i64 0, .int .i64 0, .int .i64 0, .int .i64 0, .slice none 0 0] 26 := by rw [← hWa]; exact kR.alloc
      replace hU := Lib.hid (show OwnK 74 3 ft1 B0 Wa _ _ by rw [← hWa]; exact hU.out.alloc)
      replace hV := Lib.hid (show OwnK 43 4 sn1 B0 Wa _ _ by rw [← hWa]; exact hV.out.alloc)
      have hXB : B0 ≤ bX := by have := hBl.out; omega
      replace hB : Below B0 w2 Wa := by rw [← hWa]; exact hB.alloc (by have := hBl.out; omega) _
      have hBX : Hid (bX < Wa.heap.size) := kX.lt
      rw [hWa, hbX]
      clear hWa hbX aT bT' yT d0 d1 d2 d3 hyw
      have nTX : bX ≠ bT := by omega
      have nRX : bX ≠ bR := by omega
      cases O with
      | false =>
        have eq : q4 = qh := HQ.out
        subst eq
        clear HMk HQ
        have hsz : B0 ≤ Wa.heap.size := by have := hB.size; have := hBl.out; omega
        have hl1 : (faK false F L (c + 1) xs k).length ≤ 1000000 := by have := faK_length (b := false) (f := F) (z := L) (c := c + 1) (xs := xs) (k := k); have := HRl.out.1; have := HN.out; omega
        have hl2 : (leK false F L (c + 1) xs k).length ≤ 1000000 := by have := leK_length (b := false) (f := F) (z := L) (c := c + 1) (xs := xs) (k := k); have := HRl.out.1; have := HN.out; omega
        have nUT := Lib.hid (hU.out.ne kT (by decide)); have nUR := Lib.hid (hU.out.ne kR (by decide))
        have nVT := Lib.hid (hV.out.ne kT (by decide)); have nVR := Lib.hid (hV.out.ne kR (by decide))
        have nVU := Lib.hid (OwnK.apart hV.out hU.out (by decide)); have nUV := Lib.hid (OwnK.apart hU.out hV.out (by decide))
        obtain ⟨aT, bT'⟩ := kT.read; have yT := kT.lt; obtain ⟨aX, bX'⟩ := kX.read; have yX := kX.lt
        by_cases hg : q2 + L = c + 1
        · have z1 : (q2 + L == c + 1) = true := by simp [hg]
          have hs := Lib.hid (HS.out.1 hg)
          have HP := Lib.hid (fun ty => run_append_1f ty q1 q3 q4 hU.out hl1 hsz)
          clear hg HS hl1 hl2
          go_wp2_with (at_builtin; (refine wpList_append_w (by first | rfl | decide | (simp [Region.wanted, yielded]; done) | (go_simp; done)) _ _ _ _ rfl _ _ rfl rfl (HP.out _) ?_); (rintro r w6 ⟨hO6, hg6, hb6, -⟩))
          go_roundw
          case rel => exact ⟨k + 1, hlt, by go_num, Lib.hid (show OwnK 74 3 ft1 B0 w6 r _ by rw [hs.out.2]; exact hO6), Lib.hid (show OwnK 43 4 sn1 B0 w6 u8 _ by rw [hs.out.1]; exact hV.out.alloc.but hg6 nVU.out), kT.alloc.but hg6 (fun e => nUT.out e.symm), kR.alloc.but hg6 (fun e => nUR.out e.symm), hB.trans hb6⟩
          case measure => simp [intOf]; omega
        · have z1 : (q2 + L == c + 1) = false := by simp [hg]
          have hs := Lib.hid (HS.out.2 hg)
          have HP := Lib.hid (fun ty => run_append_1s ty q1 q2 q3 q4 hV.out hl2 hsz)
          clear hg HS hl1 hl2
          go_wp2_with (at_builtin; (refine wpList_append_w (by first | rfl | decide | (simp [Region.wanted, yielded]; done) | (go_simp; done)) _ _ _ _ rfl _ _ rfl rfl (HP.out _) ?_); (rintro r w6 ⟨hO6, hg6, hb6, -⟩))
          go_roundw
          case rel => exact ⟨k + 1, hlt, by go_num, Lib.hid (show OwnK 74 3 ft1 B0 w6 u7 _ by rw [hs.out.2]; exact hU.out.alloc.but hg6 nUV.out), Lib.hid (show OwnK 43 4 sn1 B0 w6 r _ by rw [hs.out.1]; exact hO6), kT.alloc.but hg6 (fun e => nVT.out e.symm), kR.alloc.but hg6 (fun e => nVR.out e.symm), hB.trans hb6⟩
          case measure => simp [intOf]; omega
      | true =>
        cases m with
        | false =>
          have eq : q4 = qh := HQ.out
          subst eq
          clear HQ
          obtain ⟨aT, bT'⟩ := kT.read; have yT := kT.lt; obtain ⟨aX, bX'⟩ := kX.read; have yX := kX.lt
          go_wp2_with fail
          refine (HMk.out _).mono ?_
          rintro e wc ⟨rfl, hb⟩
          clear aT bT' yT aX bX' yX HMk
          replace kX := Blk.later hb kX; replace kT := Blk.later hb kT; replace kR := Blk.later hb kR
          replace hU := Lib.hid (hU.out.later hb); replace hV := Lib.hid (hV.out.later hb)
          replace hB := hB.trans (hb.mono (Nat.le_trans hXB (Nat.le_of_lt hBX.out)))
          clear hb
          have hsz : B0 ≤ wc.heap.size := by have := hB.size; have := hBl.out; omega
          have hl1 : (faK true F L (c + 1) xs k).length ≤ 1000000 := by have := faK_length (b := true) (f := F) (z := L) (c := c + 1) (xs := xs) (k := k); have := HRl.out.1; have := HN.out; omega
          have hl2 : (leK true F L (c + 1) xs k).length ≤ 1000000 := by have := leK_length (b := true) (f := F) (z := L) (c := c + 1) (xs := xs) (k := k); have := HRl.out.1; have := HN.out; omega
          have nUT := Lib.hid (hU.out.ne kT (by decide)); have nUR := Lib.hid (hU.out.ne kR (by decide))
          have nVT := Lib.hid (hV.out.ne kT (by decide)); have nVR := Lib.hid (hV.out.ne kR (by decide))
          have nVU := Lib.hid (OwnK.apart hV.out hU.out (by decide)); have nUV := Lib.hid (OwnK.apart hU.out hV.out (by decide))
          obtain ⟨aT, bT'⟩ := kT.read; have yT := kT.lt; obtain ⟨aX, bX'⟩ := kX.read; have yX := kX.lt
          by_cases hg : q2 + L = c + 1
          · have z1 : (q2 + L == c + 1) = true := by simp [hg]
            have hs := Lib.hid (HS.out.1 hg)
            have HP := Lib.hid (fun ty => run_append_1f ty q1 q3 q4 hU.out hl1 hsz)
            clear hg HS hl1 hl2
            go_wp2_with (at_builtin; (refine wpList_append_w (by first | rfl | decide | (simp [Region.wanted, yielded]; done) | (go_simp; done)) _ _ _ _ rfl _ _ rfl rfl (HP.out _) ?_); (rintro r w6 ⟨hO6, hg6, hb6, -⟩))
            go_roundw
            case rel => exact ⟨k + 1, hlt, by go_num, Lib.hid (show OwnK 74 3 ft1 B0 w6 r _ by rw [hs.out.2]; exact hO6), Lib.hid (show OwnK 43 4 sn1 B0 w6 u8 _ by rw [hs.out.1]; exact hV.out.alloc.but hg6 nVU.out), kT.alloc.but hg6 (fun e => nUT.out e.symm), kR.alloc.but hg6 (fun e => nUR.out e.symm), hB.trans hb6⟩
            case measure => simp [intOf]; omega
          · have z1 : (q2 + L == c + 1) = false := by simp [hg]
            have hs := Lib.hid (HS.out.2 hg)
            have HP := Lib.hid (fun ty => run_append_1s ty q1 q2 q3 q4 hV.out hl2 hsz)
            clear hg HS hl1 hl2
            go_wp2_with (at_builtin; (refine wpList_append_w (by first | rfl | decide | (simp [Region.wanted, yielded]; done) | (go_simp; done)) _ _ _ _ rfl _ _ rfl rfl (HP.out _) ?_); (rintro r w6 ⟨hO6, hg6, hb6, -⟩))
            go_roundw
            case rel => exact ⟨k + 1, hlt, by go_num, Lib.hid (show OwnK 74 3 ft1 B0 w6 u7 _ by rw [hs.out.2]; exact hU.out.alloc.but hg6 nUV.out), Lib.hid (show OwnK 43 4 sn1 B0 w6 r _ by rw [hs.out.1]; exact hO6), kT.alloc.but hg6 (fun e => nVT.out e.symm), kR.alloc.but hg6 (fun e => nVR.out e.symm), hB.trans hb6⟩
            case measure => simp [intOf]; omega
        | true =>
          have eq : true = qh := HQ.out
          subst eq
          clear HQ
          obtain ⟨aT, bT'⟩ := kT.read; have yT := kT.lt; obtain ⟨aX, bX'⟩ := kX.read; have yX := kX.lt
          go_wp2_with fail
          refine (HMk.out _).mono ?_
          rintro e wc ⟨rfl, hb⟩
          clear aT bT' yT aX bX' yX HMk
          replace kX := Blk.later hb kX; replace kT := Blk.later hb kT; replace kR := Blk.later hb kR
          replace hU := Lib.hid (hU.out.later hb); replace hV := Lib.hid (hV.out.later hb)
          replace hB := hB.trans (hb.mono (Nat.le_trans hXB (Nat.le_of_lt hBX.out)))
          clear hb
          obtain ⟨aX, bX'⟩ := kX.read; have yX := kX.lt
          go_upto_region 12 with fail
          have kXo := kX
          obtain ⟨Wd, hWd⟩ : ∃ W, wc.setCell ⟨bX, 3, none⟩ (.bool true) = W := ⟨_, rfl⟩
          replace kX : Blk Wd bX #[.int .i64 q1, .int .i64 q2, .int .u8 q3, .bool true] 43 := by rw [← hWd]; exact Blk.set (i := 3) (v := .bool true) kX
          replace kT : Blk Wd bT #[.int .i64 s, .int .i64 p, .int .i64 g, .int .i64 l, .int .i64 (c + 1), .int .i64 nx, .slice (some ⟨bb, oo, none⟩) n cap] 26 := by rw [← hWd]; exact kT.other (fun e => nTX e.symm)
          replace kR : Blk Wd bR #[.int .i64 0, .int .i64 0, .int .i64 0, .int .i64 0, .int .i64 0, .int .i64 0, .slice none 0 0] 26 := by rw [← hWd]; exact kR.other (fun e => nRX e.symm)
          replace hU := Lib.hid (show OwnK 74 3 ft1 B0 Wd u7 _ by rw [← hWd]; exact hU.out.other (hU.out.ne kXo (by decide)))
          replace hV := Lib.hid (show OwnK 43 4 sn1 B0 Wd u8 _ by rw [← hWd]; exact hV.out.other hVX.out)
          replace hB : Below B0 w2 Wd := by rw [← hWd]; exact hB.setCell hXB _
          rw [hWd]
          clear hWd aX bX' yX kXo
          have hsz : B0 ≤ Wd.heap.size := by have := hB.size; have := hBl.out; omega
          have hl1 : (faK true F L (c + 1) xs k).length ≤ 1000000 := by have := faK_length (b := true) (f := F) (z := L) (c := c + 1) (xs := xs) (k := k); have := HRl.out.1; have := HN.out; omega
          have hl2 : (leK true F L (c + 1) xs k).length ≤ 1000000 := by have := leK_length (b := true) (f := F) (z := L) (c := c + 1) (xs := xs) (k := k); have := HRl.out.1; have := HN.out; omega
          have nUT := Lib.hid (hU.out.ne kT (by decide)); have nUR := Lib.hid (hU.out.ne kR (by decide))
          have nVT := Lib.hid (hV.out.ne kT (by decide)); have nVR := Lib.hid (hV.out.ne kR (by decide))
          have nVU := Lib.hid (OwnK.apart hV.out hU.out (by decide)); have nUV := Lib.hid (OwnK.apart hU.out hV.out (by decide))
          obtain ⟨aT, bT'⟩ := kT.read; have yT := kT.lt; obtain ⟨aX, bX'⟩ := kX.read; have yX := kX.lt
          by_cases hg : q2 + L = c + 1
          · have z1 : (q2 + L == c + 1) = true := by simp [hg]
            have hs := Lib.hid (HS.out.1 hg)
            have HP := Lib.hid (fun ty => run_append_1f ty q1 q3 true hU.out hl1 hsz)
            clear hg HS hl1 hl2
            go_wp2_with (at_builtin; (refine wpList_append_w (by first | rfl | decide | (simp [Region.wanted, yielded]; done) | (go_simp; done)) _ _ _ _ rfl _ _ rfl rfl (HP.out _) ?_); (rintro r w6 ⟨hO6, hg6, hb6, -⟩))
            go_roundw
            case rel => exact ⟨k + 1, hlt, by go_num, Lib.hid (show OwnK 74 3 ft1 B0 w6 r _ by rw [hs.out.2]; exact hO6), Lib.hid (show OwnK 43 4 sn1 B0 w6 u8 _ by rw [hs.out.1]; exact hV.out.alloc.but hg6 nVU.out), kT.alloc.but hg6 (fun e => nUT.out e.symm), kR.alloc.but hg6 (fun e => nUR.out e.symm), hB.trans hb6⟩
            case measure => simp [intOf]; omega
          · have z1 : (q2 + L == c + 1) = false := by simp [hg]
            have hs := Lib.hid (HS.out.2 hg)
            have HP := Lib.hid (fun ty => run_append_1s ty q1 q2 q3 true hV.out hl2 hsz)
            clear hg HS hl1 hl2
            go_wp2_with (at_builtin; (refine wpList_append_w (by first | rfl | decide | (simp [Region.wanted, yielded]; done) | (go_simp; done)) _ _ _ _ rfl _ _ rfl rfl (HP.out _) ?_); (rintro r w6 ⟨hO6, hg6, hb6, -⟩))
            go_roundw
            case rel => exact ⟨k + 1, hlt, by go_num, Lib.hid (show OwnK 74 3 ft1 B0 w6 u7 _ by rw [hs.out.2]; exact hU.out.alloc.but hg6 nUV.out), Lib.hid (show OwnK 43 4 sn1 B0 w6 r _ by rw [hs.out.1]; exact hO6), kT.alloc.but hg6 (fun e => nVT.out e.symm), kR.alloc.but hg6 (fun e => nVR.out e.symm), hB.trans hb6⟩
            case measure => simp [intOf]; omega
    · obtain rfl : k = n := by omega
      have hU2 : OwnK 74 3 ft1 B0 wr u7 (fatesB F L (c + 1) xs) := by rw [HZ2.out]; exact hU.out
      have hV2 : OwnK 43 4 sn1 B0 wr u8 (leftB F L (c + 1) xs) := by rw [HZ1.out]; exact hV.out
      clear hU hV HZ1 HZ2 hlt hk hRw
      obtain ⟨a8, c8, ev, -⟩ := hV2.row elem_sn
      obtain ⟨m8, hm8⟩ : ∃ m, (leftB F L (c + 1) xs).length = m := ⟨_, rfl⟩
      rw [hm8] at ev
      subst ev
      clear hm8
      obtain ⟨aT, bT'⟩ := kT.read; have yT := kT.lt
      go_upto_region 16 with fail
      obtain ⟨W5, hW5⟩ : ∃ W, wr.setCell ⟨bT, 6, none⟩ (.slice a8 m8 c8) = W := ⟨_, rfl⟩
      have kT5 : Blk W5 bT #[.int .i64 s, .int .i64 p, .int .i64 g, .int .i64 l, .int .i64 (c + 1), .int .i64 nx, .slice a8 m8 c8] 26 := by rw [← hW5]; exact Blk.set (i := 6) (v := .slice a8 m8 c8) kT
      have kR5 : Blk W5 bR #[.int .i64 0, .int .i64 0, .int .i64 0, .int .i64 0, .int .i64 0, .int .i64 0, .slice none 0 0] 26 := by rw [← hW5]; exact kR.other (fun e => hne e.symm)
      have hU5 : OwnK 74 3 ft1 B0 W5 u7 (fatesB F L (c + 1) xs) := by rw [← hW5]; exact hU2.other (hU2.ne kT (by decide))
      have hV5 : OwnK 43 4 sn1 B0 W5 (.slice a8 m8 c8) (leftB F L (c + 1) xs) := by rw [← hW5]; exact hV2.other (hV2.ne kT (by decide))
      have hB5 : Below bT w W5 := by rw [← hW5]; exact (HBT.out.trans (hB.mono (Nat.le_of_lt hTB))).setCell (Nat.le_refl _) _
      rw [hW5]
      have hBR := hTR
      have hU6 := Lib.hid ((hU5.mono (Nat.le_of_lt hTB)).other7 (b := bR) (.int .i64 s) (.int .i64 p) (.int .i64 g) (.int .i64 l) (.int .i64 (c + 1)) (.int .i64 nx) (.slice a8 m8 c8) (hU5.ne kR5 (by decide)))
      have hV6 := Lib.hid ((hV5.mono (Nat.le_of_lt hTB)).other7 (b := bR) (.int .i64 s) (.int .i64 p) (.int .i64 g) (.int .i64 l) (.int .i64 (c + 1)) (.int .i64 nx) (.slice a8 m8 c8) (hV5.ne kR5 (by decide)))
      have kR6 := kR5.set7 (.int .i64 s) (.int .i64 p) (.int .i64 g) (.int .i64 l) (.int .i64 (c + 1)) (.int .i64 nx) (.slice a8 m8 c8)
      have hB6 := Lib.hid (((((((hB5.setCell hBR (p := ⟨bR, 0, none⟩) (.int .i64 s)).setCell hBR (p := ⟨bR, 1, none⟩) (.int .i64 p)).setCell hBR (p := ⟨bR, 2, none⟩) (.int .i64 g)).setCell hBR (p := ⟨bR, 3, none⟩) (.int .i64 l)).setCell hBR (p := ⟨bR, 4, none⟩) (.int .i64 (c + 1))).setCell hBR (p := ⟨bR, 5, none⟩) (.int .i64 nx)).setCell hBR (p := ⟨bR, 6, none⟩) (.slice a8 m8 c8))
      clear hW5 kT kR hU2 hV2 hU5 hV5 hB hB5 aT bT' yT
      obtain ⟨aT, bT'⟩ := kT5.read; have yT := kT5.lt
      obtain ⟨aR, bR'⟩ := kR5.read; have yR := kR5.lt
      go_wp2_with fail
      have q2 := kR6.cells
      exact bodyPost_ret (v := .tuple #[.agg #[.int .i64 s, .int .i64 p, .int .i64 g, .int .i64 l, .int .i64 (c + 1), .int .i64 nx, .slice a8 m8 c8], u7]) (by simp only [results, Try.results47]; go_simp) rfl ⟨⟨_, _, rfl, by rw [hBw.out]; exact hV6.out, by rw [hBw.out]; exact hU6.out⟩, by rw [hBw.out]; exact hB6.out⟩
end Go.Proofs.Ytnkpejinnbiocaa
