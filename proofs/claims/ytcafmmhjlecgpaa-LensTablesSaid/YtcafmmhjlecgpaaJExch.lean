/-
  Layer 4: a table with its sides exchanged, by the code and by the document; a copy of a table.
-/
import Derived.Laws.AppendOwn
import Derived.Maps.AppendAt
import Derived.Deep.RegionLaw
import Derived.Test.YtcafmmhjlecgpaaJCorM
import Derived.IntWalk
namespace Go.Proofs.Ytcafmmhjlecgpaa
open Go.RowKit
set_option linter.unusedVariables false
set_option linter.unusedSimpArgs false

/-- A table's cells. -/
def kv (ks : List (Int × Int)) : List Value := ks.flatMap fun p => [.int .i64 p.1, .int .i64 p.2]
theorem kv_length (ks : List (Int × Int)) : (kv ks).length = ks.length * 2 := by
  induction ks with
  | nil => rfl
  | cons p ks ih =>
    have e : kv (p :: ks) = .int .i64 p.1 :: .int .i64 p.2 :: kv ks := rfl
    rw [e, List.length_cons, List.length_cons, List.length_cons, ih]; omega
theorem kv_snoc (ks : List (Int × Int)) (p : Int × Int) : kv (ks ++ [p]) = kv ks ++ [.int .i64 p.1, .int .i64 p.2] := by
  unfold kv; rw [List.flatMap_append]; rfl
theorem kv_get (ks : List (Int × Int)) (j : Nat) (h : j < ks.length) : (kv ks)[j * 2]? = some (.int .i64 (at1 ks j)) ∧ (kv ks)[j * 2 + 1]? = some (.int .i64 (to1 ks j)) := by
  induction ks generalizing j with
  | nil => cases h
  | cons p ks ih =>
    have e : kv (p :: ks) = .int .i64 p.1 :: .int .i64 p.2 :: kv ks := rfl
    rw [e]
    cases j with
    | zero => exact ⟨rfl, rfl⟩
    | succ j =>
      have h' := ih j (by simpa using h)
      rw [show (j + 1) * 2 = j * 2 + 1 + 1 by omega]
      exact ⟨by simpa [at1] using h'.1, by simpa [to1] using h'.2⟩
theorem oneCell_kv (ks : List (Int × Int)) : ∀ u ∈ kv ks, u.oneCell' = true := by
  intro u hu
  obtain ⟨p, -, hp⟩ := List.mem_flatMap.1 hu
  simp at hp
  rcases hp with rfl | rfl <;> rfl
theorem add_plus (b off i : Nat) : (⟨b, off, none⟩ : Addr).add i = ⟨b, off + i, none⟩ := by
  unfold Addr.add; split <;> simp_all
theorem cell_two_new (w : World) (x y : Value) (t : TypeId) : ∀ j u, [x, y][j]? = some u → (w.alloc (.cells #[x, y] t)).cell? ((⟨w.heap.size, 0, none⟩ : Addr).add j) = some u := by
  intro j u hj
  rw [add_plus]
  have hk : Blk (w.alloc (.cells #[x, y] t)) w.heap.size #[x, y] t := Blk.new rfl
  rw [hk.cells, Nat.zero_add]
  simpa using hj
theorem info_knot : (Try.prog.info? 37).map (fun i => (i.zero, i.size, i.bytes)) = some (some (.agg #[.int .i64 0, .int .i64 0]), 2, 16) := by kernel_rfl
/-- A table's slice out of the cells that a slice owns. -/
theorem ownsRow_krow {w : World} {base : Nat} {v : Value} {ks : List (Int × Int)} (h : w.ownsRow base 37 2 v ks.length (kv ks)) : ∃ a c, v = .slice a ks.length c ∧ KRow w a ks.length ks := by
  rcases h.2 with ⟨rfl, h0⟩ | ⟨g, cap, cur, rfl, hb, hh, hnc, _, hcs, ht⟩
  · exact ⟨none, 0, by rw [h0], ⟨rfl, fun hn => absurd hn (by omega)⟩⟩
  · refine ⟨_, _, rfl, ⟨rfl, fun hn => ⟨g, 0, rfl, lt_of_block hh, fun j hj => ?_⟩⟩⟩
    have hk := kv_get ks j hj
    rw [← ht, List.getElem?_take_of_lt (by omega), List.getElem?_take_of_lt (by omega), Array.getElem?_toList, Array.getElem?_toList] at hk
    exact ⟨by simpa [World.cell?, hh, at1] using hk.1, by simpa [World.cell?, hh, to1] using hk.2⟩
def swp (p : Int × Int) : Int × Int := (p.2, p.1)
/-- A new slice that reads as a table. -/
def RetK (ks : List (Int × Int)) (w : World) (e : Ending) (w' : World) : Prop := ∃ (v : Option Addr) (d : Nat), e = .returned (.slice v ks.length d) ∧ KRow w' v ks.length ks ∧ Below w.heap.size w w'
theorem below_grow2 {w wr W w3 : World} {v : Value} {n : Nat} {xs : List Value} (hB : Below w.heap.size w wr) (hown : wr.ownsRow w.heap.size 37 2 v n xs) (hW : Below w.heap.size w W) (hz : wr.heap.size ≤ W.heap.size) (hg : W.grownBy w3 v.ownBlock) : Below w.heap.size w w3 :=
  hW.grown hg (by have := hB.size; omega) (fun k hk => (hown.lt k hk).1)
theorem own_snoc2 {w : World} {base : Nat} {v : Value} {zs ys : List (Int × Int)} {p : Int × Int} {n : Nat} (h : w.ownsRow base 37 2 v (n + 1) (kv zs ++ [.int .i64 p.1, .int .i64 p.2])) (e : ys = zs ++ [p]) : w.ownsRow base 37 2 v (n + 1) (kv ys) := by
  subst e; rw [kv_snoc]; exact h
theorem step_append_own {P : Program} {ops : Array Oper} {o : Oper} {a : Act} {w : World} {K : Act → World → Prop} {Q : Exit → Act → World → Prop} {E : Prop}
    (hg : o.guard = none) (s x : Operand) (t : TypeId) (hop : o.op = Op.call { callee := Callee.builtin Builtin.append, args := #[s, x], argTypes := #[t, t] })
    (base : Nat) (e : TypeId) (i : TypeInfo) (z : Value) (size bytes : Nat) (ht : P.underlying t = some (.slice e)) (hi : P.info? e = some i) (hz : i.zero = some z)
    (hsize : i.size = size) (hby : i.bytes = bytes) (hzs : z.cells.size = size) (hsz : 0 < size)
    (v : Value) (n : Nat) (xs : List Value) (hs : a.eval s = v) (hown : w.ownsRow base e size v n xs)
    (ad : Addr) (m c : Nat) (news : List Value) (hx : a.eval x = .slice (some ad) m c) (hl : news.length = m * size) (hnews : ∀ j u, news[j]? = some u → w.cell? (ad.add j) = some u) (h1 : ∀ u ∈ news, u.oneCell' = true)
    (h63 : n + m ≤ maxLen) (hbytes : (n + m) * bytes ≤ 140737488355328) (hbase : base ≤ w.heap.size)
    (h : ∀ v' w', w'.ownsRow base e size v' (n + m) (xs ++ news) → w.grownBy w' v.ownBlock → K (a.put o.dst v') w') :
    if Region.wanted o (yielded ops a.tmps) = true then Oper.wp P o a w K Q else E := by
  have hw : Region.wanted o (yielded ops a.tmps) = true := by simp [Region.wanted, hg]
  rw [if_pos hw]
  exact wp_append_own w s x t hop base e i z size bytes ht hi hz hsize hby hzs hsz v n xs hs hown ad m c news hx hl hnews h1 h63 hbytes hbase fun v' w' h2 h3 _ => h v' w' h2 h3

set_option maxRecDepth 100000 in
set_option maxHeartbeats 4000000 in
theorem exchanged_any (a : Option Addr) (n c : Nat) (ks : List (Int × Int)) (hn : n ≤ 1000) (w : World) (hR : KRow w a n ks) :
    Calls Try.prog 55 #[.slice a n c] w (RetK (ks.map swp) w) := by
  have hl : ks.length = n := hR.1
  have HL := Lib.hid hl; have HR := Lib.hid hR
  clear hl hR
  obtain ⟨i0, hi, hz0, hz1, hz2⟩ := info_parts info_knot
  have p9 : (n : Int) ≤ 1000 := by omega
  go_enter Try.func55, Try.ntmps55
  go_wp2
  go_loopw [3, 5, 8] (fun v _ i wr => ∃ k : Nat, k ≤ n ∧ i = .int .i64 k ∧ wr.ownsRow w.heap.size 37 2 v k (kv ((ks.take k).map swp)) ∧ Below w.heap.size w wr) (fun _ _ i _ => n - (intOf i).toNat)
  case atStart => exact ⟨0, Nat.zero_le _, rfl, World.ownsRow_nil _ _ _ _, by (repeat' (first | (with_reducible exact Below.refl _ _) | (with_reducible assumption) | (with_reducible refine belowThru ?_ (by assumption)) | (with_reducible refine belowAlloc ?_) | (with_reducible refine Below.setCell ?_ (by first | omega | (simp; done) | (simp; omega)) _) | (with_reducible refine Below.drew ?_) | (with_reducible refine below_drewN ?_ _)))⟩
  case round =>
    obtain ⟨k, hk, rfl, hown, hB⟩ := hrel
    by_cases hlt : k < n
    · obtain ⟨bb, oo, x, y, rfl, l1, h1, c1, d1⟩ := HR.out.at hlt
      have c1 := cell_later hB c1
      have d1 := cell_later hB d1
      have HN : Hid ((ks.take (k + 1)).map swp = (ks.take k).map swp ++ [(y, x)]) := by show _ = _; rw [List.take_add_one, h1]; simp [swp]
      have q0 : (0 : Int) ≤ (k : Int) := by omega
      have q1 : (k : Int) < (n : Int) := by omega
      have hzB := hB.size
      clear h1
      go_wp2_with (at_builtin; refine wpList_append_own _ rfl _ _ 22 rfl w.heap.size 37 i0 (.agg #[.int .i64 0, .int .i64 0]) 2 16 Try.underlying22 hi hz0 hz1 hz2 rfl (by decide) _ _ _ rfl ((hown.alloc _).alloc _) ⟨wr.heap.size + 1, 0, none⟩ 1 1 [.int .i64 y, .int .i64 x] rfl rfl (by have h := cell_two_new (wr.alloc (.cells #[.int .i64 x, .int .i64 y] 37)) (.int .i64 y) (.int .i64 x) 37; rw [World.size_alloc] at h; exact h) (fun u hu => by simp at hu; rcases hu with rfl | rfl <;> rfl) (by unfold maxLen; omega) (by omega) (by simp; omega) ?_; intro v' w3 hown' hgrow3 hnil3)
      have hB' := below_grow2 hB hown (belowAlloc (belowAlloc hB)) (by simp; omega) hgrow3
      have HO := Lib.hid (own_snoc2 (p := (y, x)) hown' HN.out)
      clear hown' hgrow3 hnil3 hown
      go_roundw
      case rel => exact ⟨k + 1, hlt, by go_num, HO.out, hB'⟩
      case measure => simp [intOf]; omega
    · obtain rfl : k = n := by omega
      have e1 : (ks.map swp).length = k := by rw [List.length_map, HL.out]
      rw [List.take_of_length_le (by rw [HL.out]; exact Nat.le_refl _)] at hown
      obtain ⟨v', d', rfl, hr⟩ := ownsRow_krow (by rw [e1]; exact hown)
      have HQ := Lib.hid hr
      have HE := Lib.hid e1
      clear hr hown e1
      rw [HE.out]
      go_wp2
      go_ret
      exact ⟨v', d', by rw [HE.out]; rfl, HQ.out, hB⟩
set_option maxRecDepth 100000 in
set_option maxHeartbeats 4000000 in
theorem turned_any (a : Option Addr) (n c : Nat) (ks : List (Int × Int)) (hn : n ≤ 1000) (w : World) (hR : KRow w a n ks) :
    Calls Try.prog 56 #[.slice a n c] w (RetK (ks.map swp) w) := by
  have hl : ks.length = n := hR.1
  have HL := Lib.hid hl; have HR := Lib.hid hR
  clear hl hR
  obtain ⟨i0, hi, hz0, hz1, hz2⟩ := info_parts info_knot
  have p9 : (n : Int) ≤ 1000 := by omega
  go_enter Try.func56, Try.ntmps56
  go_wp2
  go_loopw [3, 4] (fun v i wr => ∃ k : Nat, k ≤ n ∧ i = .int .i64 k ∧ wr.ownsRow w.heap.size 37 2 v k (kv ((ks.take k).map swp)) ∧ Below w.heap.size w wr) (fun _ i _ => n - (intOf i).toNat)
  case atStart => exact ⟨0, Nat.zero_le _, rfl, World.ownsRow_nil _ _ _ _, by (repeat' (first | (with_reducible exact Below.refl _ _) | (with_reducible assumption) | (with_reducible refine belowThru ?_ (by assumption)) | (with_reducible refine belowAlloc ?_) | (with_reducible refine Below.setCell ?_ (by first | omega | (simp; done) | (simp; omega)) _) | (with_reducible refine Below.drew ?_) | (with_reducible refine below_drewN ?_ _)))⟩
  case round =>
    obtain ⟨k, hk, rfl, hown, hB⟩ := hrel
    by_cases hlt : k < n
    · obtain ⟨bb, oo, x, y, rfl, l1, h1, c1, d1⟩ := HR.out.at hlt
      have c1 := cell_later hB c1
      have d1 := cell_later hB d1
      have HN : Hid ((ks.take (k + 1)).map swp = (ks.take k).map swp ++ [(y, x)]) := by show _ = _; rw [List.take_add_one, h1]; simp [swp]
      have q0 : (0 : Int) ≤ (k : Int) := by omega
      have q1 : (k : Int) < (n : Int) := by omega
      have hzB := hB.size
      clear h1
      go_wp2_with fail
      go_region_law (refine step_append_own rfl _ _ 22 rfl w.heap.size 37 i0 (.agg #[.int .i64 0, .int .i64 0]) 2 16 Try.underlying22 hi hz0 hz1 hz2 rfl (by decide) _ _ _ rfl (World.ownsRow.alloc (w := wr.drew) hown _) ⟨wr.heap.size, 0, none⟩ 1 1 [.int .i64 y, .int .i64 x] rfl rfl (cell_two_new wr.drew (.int .i64 y) (.int .i64 x) 37) (fun u hu => by simp at hu; rcases hu with rfl | rfl <;> rfl) (by unfold maxLen; omega) (by omega) (by simp; omega) ?_; intro v' w3 hown' hgrow3)
      all_goals
        have hB' := below_grow2 hB hown (belowAlloc hB.drew) (by simp) hgrow3
        have HO := Lib.hid (own_snoc2 (p := (y, x)) hown' HN.out)
        clear hown' hgrow3 hown
        go_wp2
        go_roundw
        case rel => exact ⟨k + 1, hlt, by go_num, HO.out, hB'⟩
        case measure => simp [intOf]; omega
    · obtain rfl : k = n := by omega
      have e1 : (ks.map swp).length = k := by rw [List.length_map, HL.out]
      rw [List.take_of_length_le (by rw [HL.out]; exact Nat.le_refl _)] at hown
      obtain ⟨v', d', rfl, hr⟩ := ownsRow_krow (by rw [e1]; exact hown)
      have HQ := Lib.hid hr
      have HE := Lib.hid e1
      clear hr hown e1
      rw [HE.out]
      go_wp2
      go_ret
      exact ⟨v', d', by rw [HE.out]; rfl, HQ.out, hB⟩
end Go.Proofs.Ytcafmmhjlecgpaa
