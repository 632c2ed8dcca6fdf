/-
  The texts that the laws of this seat share, merged: part 11.
-/
import Derived.BigQuiet
import Derived.Deep.CutRange
import Derived.Deep.DeepCutAuto
import Derived.Deep.Draws
import Derived.Deep.OwnRows
import Derived.Deep.QuietTactic
import Derived.Deep.RegionHeld3
import Derived.Laws.AppendOwn
import Derived.Lib.Hide
import Derived.LoopIn
import Derived.LoopNIn
import Derived.MapKept
import Derived.Maps.AppendAt
import Derived.OneCell
import Derived.Orders
import Derived.OwnWalkIn
import Derived.RangeFuncBound
import Derived.RangeFuncCalls
import Derived.RangeFuncLeaves
import Derived.RangeFuncNested
import Derived.Shelf.Abstract
import Derived.Shelf.AbstractIn
import Derived.Shelf.RegionOpen
import Derived.StillTailTactics
import Derived.TacticsInMore
import Derived.Test.YtghmjdmiaajbnaaProg
import Derived.WalkKit
import Derived.WalkSmall
import Derived.WalkSpells
import Derived.Test.YtghmjdmiaajbnaaM1
import Derived.Test.YtghmjdmiaajbnaaM2
import Derived.Test.YtghmjdmiaajbnaaM3
import Derived.Test.YtghmjdmiaajbnaaM7
import Derived.Test.YtghmjdmiaajbnaaM9
/-
  Memory that append has made.
-/
namespace Go.Proofs.Ytghmjdmiaajbnaa
open Go.RowKit
set_option linter.unusedVariables false
set_option linter.unusedSimpArgs false

theorem ownsRow_row {w : World} {base : Nat} {v : Value} {zs : List Int} (h : w.ownsRow base 3 1 v zs.length (iv zs)) : ∃ a c, v = .slice a zs.length c ∧ Row w a zs.length (iv zs) := by
  rcases h.2 with ⟨rfl, h0⟩ | ⟨g, cap, cur, rfl, hb, hh, hnc, _, hcs, ht⟩
  · exact ⟨none, 0, by rw [h0], ⟨iv_length zs, fun hn => absurd hn (by omega)⟩⟩
  · refine ⟨_, _, rfl, ⟨iv_length zs, fun hn => ⟨g, 0, rfl, lt_of_block hh, fun j hj => ?_⟩⟩⟩
    have e : w.cell? ⟨g, 0 + j, none⟩ = cur[j]? := by simp [World.cell?, hh]
    rw [e, ← ht, Nat.mul_one, List.getElem?_take_of_lt hj, Array.getElem?_toList]
end Go.Proofs.Ytghmjdmiaajbnaa
/-
  Layer 2: the statements' own images of rows.
-/
namespace Go.Proofs.Ytghmjdmiaajbnaa
open Go.RowKit
set_option linter.unusedVariables false
set_option linter.unusedSimpArgs false

/-- Lists in blocks, and a block of them. -/
def rws (rs : List (Nat × List Int)) : Array Value := (rs.map fun r => Value.slice (some ⟨r.1, 0, none⟩) r.2.length r.2.length).toArray
def Rws (w : World) (B : Nat) (rs : List (Nat × List Int)) : Prop := Blk w B (rws rs) 22 ∧ ∀ r ∈ rs, Blk w r.1 (ints r.2) 3
def flat (rs : List (Nat × List Int)) : List Int := (rs.map (·.2)).flatten
theorem Rws.later {w w' : World} (hb : Below w.heap.size w w') {B : Nat} {rs : List (Nat × List Int)} (h : Rws w B rs) : Rws w' B rs := ⟨Blk.later hb h.1, fun r hr => Blk.later hb (h.2 r hr)⟩
theorem rws_get (rs : List (Nat × List Int)) {i : Nat} {r : Nat × List Int} (h : rs[i]? = some r) : (rws rs)[i]? = some (.slice (some ⟨r.1, 0, none⟩) r.2.length r.2.length) := by unfold rws; simp [h]
theorem flat_succ (rs : List (Nat × List Int)) {i : Nat} {r : Nat × List Int} (h : rs[i]? = some r) : flat (rs.take (i + 1)) = flat (rs.take i) ++ r.2 := by
  unfold flat
  rw [List.take_add_one, h]; simp
theorem flat_len (rs : List (Nat × List Int)) (hl : ∀ r ∈ rs, r.2.length ≤ 16) : (flat rs).length ≤ rs.length * 16 := by
  unfold flat
  induction rs with
  | nil => simp
  | cons r rs ih =>
    have h1 := hl r (by simp)
    have h2 := ih (fun r hr => hl r (by simp [hr]))
    simp only [List.map_cons, List.flatten_cons, List.length_append, List.length_cons, Nat.add_one_mul] at *
    omega
theorem ints_cells {w : World} {g : Nat} {zs : List Int} (h : Blk w g (ints zs) 3) : ∀ j u, (iv zs)[j]? = some u → w.cell? ((⟨g, 0, none⟩ : Addr).add j) = some u := by
  intro j u hj
  rw [add_pl, h.cells, Nat.zero_add, ints_get]
  rw [iv] at hj
  simpa using hj

theorem ownsRow_form {w : World} {base e size : Nat} {v : Value} {n : Nat} {xs : List Value} (h : w.ownsRow base e size v n xs) : ∃ a c, v = .slice a n c := by
  rcases h.2 with ⟨rfl, h0⟩ | ⟨g, cap, cur, rfl, -⟩
  · exact ⟨none, 0, by rw [h0]⟩
  · exact ⟨_, _, rfl⟩
set_option maxRecDepth 100000 in
set_option maxHeartbeats 4000000 in
theorem rows_any (B k : Nat) (rs : List (Nat × List Int)) (r0 : Nat × List Int) (h0 : rs[0]? = some r0) (hk : rs.length = k) (hk16 : k ≤ 16) (hl : ∀ r ∈ rs, r.2.length ≤ 16) (w : World) (hR : Rws w B rs) :
    Calls Try.prog 16 #[.slice (some ⟨B, 0, none⟩) k k] w fun e w' => ∃ (a : Option Addr) (c : Nat), e = .returned (.agg #[.int .i64 (r0.2.length : Nat), .int .i64 (k : Nat), .slice a (flat rs).length c]) ∧ Row w' a (flat rs).length (iv (flat rs)) ∧ Below w.heap.size w w' := by
  have hk0 : 0 < k := by
    rcases Nat.eq_zero_or_pos k with e | e
    · rw [← hk] at e; rw [List.eq_nil_of_length_eq_zero e] at h0; cases h0
    · exact e
  have kc : (0 : Int) < (k : Int) := by omega
  have hg0 := rws_get rs h0
  have hB := hR.1
  have hBl := hB.lt
  obtain ⟨aB, bB⟩ := hB.read
  have HR := Lib.hid hR
  have HG : Hid (∀ i, i < k → ∃ r, rs[i]? = some r ∧ r ∈ rs) := fun i hi => ⟨rs[i]'(by omega), List.getElem?_eq_getElem (by omega), List.getElem_mem _⟩
  have HL := Lib.hid hl
  have HFL : Hid (∀ i, (flat (rs.take i)).length ≤ 256) := fun i => by
    have h1 := flat_len (rs.take i) (fun r hr => hl r (List.mem_of_mem_take hr))
    rw [List.length_take] at h1
    omega
  have HK := Lib.hid hk
  obtain ⟨l0, hl0⟩ : ∃ l0, r0.2.length = l0 := ⟨_, rfl⟩
  rw [hl0] at hg0 ⊢
  clear hl hk h0 hl0 hR
  go_enter Try.func16, Try.ntmps16
  go_wp2
  go_loopw [4] (fun s4 wr => ∃ i : Nat, i ≤ k ∧ s4 = .int .i64 i ∧ Blk wr w.heap.size #[.int .i64 0, .int .i64 0, .slice none 0 0] 24 ∧ (∃ v, Blk wr (w.heap.size + 1) #[.int .i64 l0, .int .i64 k, v] 24 ∧ wr.ownsRow (w.heap.size + 1 + 1) 3 1 v (flat (rs.take i)).length (iv (flat (rs.take i)))) ∧ Below w.heap.size w wr) (fun s4 _ => k - (intOf s4).toNat)
  case atStart => exact ⟨0, Nat.zero_le _, rfl, by (repeat' (first | (with_reducible assumption) | ((with_reducible refine Blk.new ?_); first | rfl | (simp; done)) | (with_reducible refine Blk.later (by assumption) ?_) | (with_reducible refine Blk.alloc ?_) | (with_reducible refine Blk.drewN ?_) | (with_reducible refine Blk.drew ?_) | (with_reducible refine Blk.other ?_ (by first | omega | (simp; done) | (simp; omega))))), ⟨.slice none 0 0, by first | exact Blk.set (Blk.set (Blk.set (Blk.new (by simp)))) | ((repeat' (first | (with_reducible assumption) | ((with_reducible refine Blk.new ?_); first | rfl | (simp; done)) | (with_reducible refine Blk.later (by assumption) ?_) | (with_reducible refine Blk.alloc ?_) | (with_reducible refine Blk.drewN ?_) | (with_reducible refine Blk.drew ?_) | (with_reducible refine Blk.other ?_ (by first | omega | (simp; done) | (simp; omega)))))), World.ownsRow_nil _ _ _ _⟩, by (repeat' (first | (with_reducible exact Below.refl _ _) | (with_reducible assumption) | (with_reducible refine belowThru ?_ (by assumption)) | (with_reducible refine belowAlloc ?_) | (with_reducible refine Below.setCell ?_ (by first | omega | (simp; done) | (simp; omega)) _) | (with_reducible refine Below.drew ?_) | (with_reducible refine below_drewN ?_ _)))⟩
  case round =>
    clear aB bB
    obtain ⟨i, hi, rfl, k0, ⟨v, k1, hO⟩, hBw⟩ := hrel
    obtain ⟨a0, b0⟩ := k0.read; obtain ⟨a1, b1⟩ := k1.read
    have y0 := k0.lt; have y1 := k1.lt
    have HO := Lib.hid hO
    clear hO
    by_cases hlt : i < k
    · have i9 : (i : Int) < (k : Int) := by omega
      have i0 : (0 : Int) ≤ (i : Int) := by omega
      obtain ⟨r, hr, hrm⟩ := HG.out i hlt
      have hgi := rws_get rs hr
      have HRM := Lib.hid hrm
      have HRI := Lib.hid hr
      clear hr hrm
      have hBr := Blk.later hBw (HR.out.1)
      go_wp2_with fail
      refine wp_region_held_drew (S := fun w' => (Blk w' B (rws rs) 22 ∧ (∀ i : Nat, w'.cell? ⟨B, i, none⟩ = (rws rs)[i]?)) ∧ Below w.heap.size w w') (by kernel_rfl) ⟨hBr.drew.full, hBw.drew⟩ (fun hHeld => ?_)
      refine wpAnyH_take (i := 0) (v := ?_) rfl (by kernel_rfl) (by kernel_rfl) (by kernel_rfl) (fun _ _ _ h => h) (Or.inl ⟨by rfl, ?hT0⟩) (by assumption) ?_
      case hT0 => ((intro w hSw; (try dsimp only at hSw); go_simp); try (with_reducible rfl))
      try simp only [Act.put, List.setIfInBounds_toArray, List.set_cons_zero, List.set_cons_succ]
      refine wpAnyH_take (i := 2) (v := ?_) rfl (by kernel_rfl) (by kernel_rfl) (by kernel_rfl) (fun _ _ _ h => h) (Or.inl ⟨by rfl, ?hT1⟩) (by assumption) ?_
      case hT1 => ((intro w hSw; (try dsimp only at hSw); go_simp); try (with_reducible rfl))
      try simp only [Act.put, List.setIfInBounds_toArray, List.set_cons_zero, List.set_cons_succ]
      refine wpAnyH_take (i := 3) (v := ?_) rfl (by kernel_rfl) (by kernel_rfl) (by kernel_rfl) (fun _ _ _ h => h) (Or.inl ⟨by rfl, ?hT2⟩) (by assumption) ?_
      case hT2 => ((intro w hSw; (try dsimp only at hSw); go_simp); try (with_reducible rfl))
      try simp only [Act.put, List.setIfInBounds_toArray, List.set_cons_zero, List.set_cons_succ]
      refine wpAnyH_take (i := 4) (v := ?_) rfl (by kernel_rfl) (by kernel_rfl) (by kernel_rfl) (fun _ _ _ h => h) (Or.inl ⟨by rfl, ?hT3⟩) (by assumption) ?_
      case hT3 => ((intro w hSw; (try dsimp only at hSw); go_simp); try (with_reducible rfl))
      try simp only [Act.put, List.setIfInBounds_toArray, List.set_cons_zero, List.set_cons_succ]
      refine wpAnyH_take (i := 5) (v := ?_) rfl (by kernel_rfl) (by kernel_rfl) (by kernel_rfl) (fun _ _ _ h => h) (Or.inl ⟨by rfl, ?hT4⟩) (by assumption) ?_
      case hT4 => ((intro w hSw; (try dsimp only at hSw); go_simp); try (with_reducible rfl))
      try simp only [Act.put, List.setIfInBounds_toArray, List.set_cons_zero, List.set_cons_succ]
      refine wpAnyH_ready (rs := [1]) (by kernel_rfl) (by simp) ?_
      refine AllReadyH.cons rfl (fun K hK => ?_) AllReadyH.nil
      go_simp
      refine hK.out _ _ ?_ (fun hHeldN => ?_)
      · (try dsimp only); (((first | (apply hold1; (focus assumption); intro p0 pB) | skip); refine ⟨Blk.full ?_, ?_⟩; all_goals (first | ((repeat' (first | (with_reducible assumption) | ((with_reducible refine Blk.new ?_); first | rfl | (simp; done)) | (with_reducible refine Blk.later (by assumption) ?_) | (with_reducible refine Blk.alloc ?_) | (with_reducible refine Blk.drewN ?_) | (with_reducible refine Blk.drew ?_) | (with_reducible refine Blk.other ?_ (by first | omega | (simp; done) | (simp; omega))))); done) | ((repeat' (first | (with_reducible exact Below.refl _ _) | (with_reducible assumption) | (with_reducible refine belowThru ?_ (by assumption)) | (with_reducible refine belowAlloc ?_) | (with_reducible refine Below.setCell ?_ (by first | omega | (simp; done) | (simp; omega)) _) | (with_reducible refine Below.drew ?_) | (with_reducible refine below_drewN ?_ _))); done))))
      clear hK K hHeld
      have hHeld := hHeldN
      clear hHeldN
      try simp only [Act.put, List.setIfInBounds_toArray, List.set_cons_zero, List.set_cons_succ]
      refine wpAnyH_ready (rs := [6]) (by kernel_rfl) (by simp) ?_
      refine AllReadyH.cons rfl (fun K hK => ?_) AllReadyH.nil
      obtain ⟨inf, hf0, hf1, hf2, hf3⟩ := info_parts info_tin
      refine wp_append_own _ (.tmp 19) (.tmp 23) 22 rfl (w.heap.size + 1 + 1) 3 inf (.int .i64 0) 1 8 Try.underlying22 hf0 hf1 hf2 hf3 rfl (by omega) v _ _ rfl HO.out ⟨r.1, 0, none⟩ r.2.length r.2.length (iv r.2) rfl (by rw [iv_length]; omega) (ints_cells (Blk.later hBw.drew (HR.out.2 r HRM.out))) (oneCell_iv _) ?h63 ?hby ?hbs ?hrest
      case hbs => simp only [World.size_drew]; omega
      case h63 => have h1 := HFL.out i; have h2 := HL.out r HRM.out; unfold maxLen; omega
      case hby => have h1 := HFL.out i; have h2 := HL.out r HRM.out; omega
      case hrest =>
        intro v2 w2 hO2 hg hnil
        obtain ⟨av, cv, rfl⟩ := ownsRow_form hO2
        have hlv : ∀ g, v.ownBlock = some g → w.heap.size + 1 + 1 ≤ g := fun g e => (HO.out.lt g e).1
        have hB2 : Below w.heap.size w w2 := hBw.drew.grown hg hBw.size (fun g e => by have := hlv g e; omega)
        have k0' := Blk.but hg (fun g e => by have := hlv g e; omega) k0.drew
        have k1' := Blk.but hg (fun g e => by have := hlv g e; omega) k1.drew
        obtain ⟨a1', b1'⟩ := k1'.read
        refine hK.out _ _ ⟨(Blk.later hB2 HR.out.1).full, hB2⟩ (fun hHeldN => ?_)
        clear hK K hHeld
        have hHeld := hHeldN
        clear hHeldN
        try simp only [Act.put, List.setIfInBounds_toArray, List.set_cons_zero, List.set_cons_succ]
        refine wpAnyH_take (i := 7) (v := ?_) rfl (by kernel_rfl) (by kernel_rfl) (by kernel_rfl) (fun _ _ _ h => h) (Or.inl ⟨by rfl, ?hT5⟩) (by assumption) ?_
        case hT5 => ((intro w hSw; (try dsimp only at hSw); go_simp); try (with_reducible rfl))
        try simp only [Act.put, List.setIfInBounds_toArray, List.set_cons_zero, List.set_cons_succ]
        refine wpAnyH_ready (rs := [8]) (by kernel_rfl) (by simp) ?_
        refine AllReadyH.cons rfl (fun K hK => ?_) AllReadyH.nil
        go_simp
        refine hK.out _ _ ?_ (fun hHeldN => ?_)
        · (try dsimp only); (((first | (apply hold1; (focus assumption); intro p0 pB) | skip); refine ⟨Blk.full ?_, ?_⟩; all_goals (first | ((repeat' (first | (with_reducible assumption) | ((with_reducible refine Blk.new ?_); first | rfl | (simp; done)) | (with_reducible refine Blk.later (by assumption) ?_) | (with_reducible refine Blk.alloc ?_) | (with_reducible refine Blk.drewN ?_) | (with_reducible refine Blk.drew ?_) | (with_reducible refine Blk.other ?_ (by first | omega | (simp; done) | (simp; omega))))); done) | ((repeat' (first | (with_reducible exact Below.refl _ _) | (with_reducible assumption) | (with_reducible refine belowThru ?_ (by assumption)) | (with_reducible refine belowAlloc ?_) | (with_reducible refine Below.setCell ?_ (by first | omega | (simp; done) | (simp; omega)) _) | (with_reducible refine Below.drew ?_) | (with_reducible refine below_drewN ?_ _))); done))))
        clear hK K hHeld
        have hHeld := hHeldN
        clear hHeldN
        try simp only [Act.put, List.setIfInBounds_toArray, List.set_cons_zero, List.set_cons_succ]
        refine wpAnyH_done (by kernel_rfl) ?_ _
        obtain ⟨-, pB⟩ := hHeld
        have hO3 : (w2.setCell ⟨w.heap.size + 1, 2, none⟩ (.slice av ((flat (rs.take i)).length + r.2.length) cv)).ownsRow (w.heap.size + 1 + 1) 3 1 (.slice av ((flat (rs.take i)).length + r.2.length) cv) (flat (rs.take (i + 1))).length (iv (flat (rs.take (i + 1)))) := by
          rw [flat_succ rs HRI.out, List.length_append, show iv (flat (rs.take i) ++ r.2) = iv (flat (rs.take i)) ++ iv r.2 by simp [iv]]
          exact hO2.kept (grownBy_set ⟨rfl, rfl, rfl, Nat.le_refl _, fun _ _ _ => rfl⟩ _ _) (.inr (fun e => by have := (hO2.lt _ e).1; omega))
        go_wp2
        go_roundw
        case rel => exact ⟨i + 1, hlt, by go_num, Blk.other k0' (by simp), ⟨_, Blk.set k1', hO3⟩, pB⟩
        case measure => simp [intOf]; omega
    · have hie : i = k := by omega
      subst hie
      rw [List.take_of_length_le (Nat.le_of_eq HK.out)] at HO
      obtain ⟨a, c, rfl, hrow⟩ := ownsRow_row HO.out
      have hp : ∀ ad : Addr, a = some ad → w.heap.size ≠ ad.block := by
        rintro ad rfl
        have := (HO.out.lt ad.block rfl).1
        omega
      have HRow := Lib.hid hrow
      have HP := Lib.hid hp
      clear hrow hp
      go_wp2
      exact bodyPost_ret (v := .agg #[.int .i64 l0, .int .i64 i, .slice a (flat rs).length c]) (by simp only [results, Try.results16]; go_simp) rfl ⟨a, c, rfl, ((HRow.out.set HP.out).set HP.out).set HP.out, by (repeat' (first | (with_reducible exact Below.refl _ _) | (with_reducible assumption) | (with_reducible refine belowThru ?_ (by assumption)) | (with_reducible refine belowAlloc ?_) | (with_reducible refine Below.setCell ?_ (by first | omega | (simp; done) | (simp; omega)) _) | (with_reducible refine Below.drew ?_) | (with_reducible refine below_drewN ?_ _)))⟩
end Go.Proofs.Ytghmjdmiaajbnaa
/-
  Layer 2: the statements' own comparison of an image with rows.
-/
namespace Go.Proofs.Ytghmjdmiaajbnaa
open Go.RowKit
set_option linter.unusedVariables false
set_option linter.unusedSimpArgs false

set_option maxRecDepth 100000 in
set_option maxHeartbeats 4000000 in
theorem is_true (W H : Int) (a : Option Addr) (n c : Nat) (zs : List Int) (B k : Nat) (rs : List (Nat × List Int)) (r0 : Nat × List Int) (h0 : rs[0]? = some r0) (hk : rs.length = k) (hk16 : k ≤ 16) (hl : ∀ r ∈ rs, r.2.length ≤ 16) (hW : (r0.2.length : Int) = W) (hH : (k : Int) = H) (hz : flat rs = zs) (hn : n ≤ maxLen) (w : World) (hR : Row w a n (iv zs)) (hRw : Rws w B rs) :
    Calls Try.prog 19 #[.agg #[.int .i64 W, .int .i64 H, .slice a n c], .int .i64 0, .slice (some ⟨B, 0, none⟩) k k] w fun e w' => e = .returned (.bool true) ∧ Below w.heap.size w w' := by
  have HROWS : Hid (∀ w, Rws w B rs → Calls Try.prog 16 #[.slice (some ⟨B, 0, none⟩) k k] w fun e w' => ∃ (b : Option Addr) (d : Nat), e = .returned (.agg #[.int .i64 W, .int .i64 H, .slice b (flat rs).length d]) ∧ Row w' b (flat rs).length (iv zs) ∧ Below w.heap.size w w') := fun w h => by
    have := rows_any B k rs r0 h0 hk hk16 hl w h
    rw [hW, hH, show iv (flat rs) = iv zs by rw [hz]] at this
    exact this
  have HSAME : Hid (∀ (b : Option Addr) (m d : Nat) w, Row w a n (iv zs) → Row w b m (iv zs) → Calls Try.prog 35 #[.agg #[.int .i64 W, .int .i64 H, .slice a n c], .agg #[.int .i64 W, .int .i64 H, .slice b m d]] w fun e w' => e = .returned (.bool true) ∧ Below w.heap.size w w') := fun b m d w h1 h2 => same_yes W H a b n m c d zs hn w h1 h2
  have HR := Lib.hid hR
  have HW := Lib.hid hRw
  obtain ⟨N, hN⟩ : ∃ N, (flat rs).length = N := ⟨_, rfl⟩
  rw [hN] at HROWS
  have hmx : Try.prog.follows .mixedOrders = true := by kernel_rfl
  clear h0 hk hk16 hl hW hH hz hn hR hRw hN
  go_enter Try.func19, Try.ntmps19
  go_upto_region 1 with fail
  refine wp_region_held_drew (S := fun w' => (Blk w' w.heap.size #[.int .i64 W, .int .i64 H, .slice a n c] 24 ∧ (∀ i : Nat, w'.cell? ⟨w.heap.size, i, none⟩ = (#[.int .i64 W, .int .i64 H, .slice a n c] : Array Value)[i]?)) ∧ Below w.heap.size w w') hmx ⟨Blk.full (by (repeat' (first | (with_reducible assumption) | ((with_reducible refine Blk.new ?_); first | rfl | (simp; done)) | (with_reducible refine Blk.later (by assumption) ?_) | (with_reducible refine Blk.alloc ?_) | (with_reducible refine Blk.drewN ?_) | (with_reducible refine Blk.drew ?_) | (with_reducible refine Blk.other ?_ (by first | omega | (simp; done) | (simp; omega)))))), by (repeat' (first | (with_reducible exact Below.refl _ _) | (with_reducible assumption) | (with_reducible refine belowThru ?_ (by assumption)) | (with_reducible refine belowAlloc ?_) | (with_reducible refine Below.setCell ?_ (by first | omega | (simp; done) | (simp; omega)) _) | (with_reducible refine Below.drew ?_) | (with_reducible refine below_drewN ?_ _)))⟩ (fun hHeld => ?_)
  refine wpAnyH_take (i := 0) (v := ?_) rfl (by kernel_rfl) (by kernel_rfl) (by kernel_rfl) (fun _ _ _ h => h) (Or.inl ⟨by rfl, ?hT0⟩) (by assumption) ?_
  case hT0 => ((intro w hSw; (try dsimp only at hSw); go_simp); try (with_reducible rfl))
  try simp only [Act.put, List.setIfInBounds_toArray, List.set_cons_zero, List.set_cons_succ]
  refine wpAnyH_take (i := 1) (v := ?_) rfl (by kernel_rfl) (by kernel_rfl) (by kernel_rfl) (fun _ _ _ h => h) (Or.inl ⟨by rfl, ?hT1⟩) (by assumption) ?_
  case hT1 => ((intro w hSw; (try dsimp only at hSw); go_simp); try (with_reducible rfl))
  try simp only [Act.put, List.setIfInBounds_toArray, List.set_cons_zero, List.set_cons_succ]
  refine wpAnyH_take (i := 2) (v := ?_) rfl (by kernel_rfl) (by kernel_rfl) (by kernel_rfl) (fun _ _ _ h => h) (Or.inl ⟨by rfl, ?hT2⟩) (by assumption) ?_
  case hT2 => ((intro w hSw; (try dsimp only at hSw); go_simp); try (with_reducible rfl))
  try simp only [Act.put, List.setIfInBounds_toArray, List.set_cons_zero, List.set_cons_succ]
  refine wpAnyH_take (i := 3) (v := ?_) rfl (by kernel_rfl) (by kernel_rfl) (by kernel_rfl) (fun _ _ _ h => h) (Or.inl ⟨by rfl, ?hT3⟩) (by assumption) ?_
  case hT3 => ((intro w hSw; (try dsimp only at hSw); go_simp); try (with_reducible rfl))
  try simp only [Act.put, List.setIfInBounds_toArray, List.set_cons_zero, List.set_cons_succ]
  refine wpAnyH_take (i := 4) (v := ?_) rfl (by kernel_rfl) (by kernel_rfl) (by kernel_rfl) (fun _ _ _ h => h) (Or.inl ⟨by rfl, ?hT4⟩) (by assumption) ?_
  case hT4 => ((intro w hSw; (try dsimp only at hSw); go_simp); try (with_reducible rfl))
  try simp only [Act.put, List.setIfInBounds_toArray, List.set_cons_zero, List.set_cons_succ]
  refine wpAnyH_ready (rs := [5]) (by kernel_rfl) (by simp) ?_
  refine AllReadyH.cons rfl (fun K hK => ?_) AllReadyH.nil
  go_simp
  (go_at_call 16; (with_reducible refine (HROWS.out _ (HW.out.later (by (repeat' (first | (with_reducible exact Below.refl _ _) | (with_reducible assumption) | (with_reducible refine belowThru ?_ (by assumption)) | (with_reducible refine belowAlloc ?_) | (with_reducible refine Below.setCell ?_ (by first | omega | (simp; done) | (simp; omega)) _) | (with_reducible refine Below.drew ?_) | (with_reducible refine below_drewN ?_ _)))))).mono ?_); rintro e wA ⟨b, d, rfl, hb2, hb⟩)
  refine hK.out _ _ ?_ (fun hHeldN => ?_)
  · (try dsimp only); (((first | (apply hold1; (focus assumption); intro p0 pB) | skip); refine ⟨Blk.full ?_, ?_⟩; all_goals (first | ((repeat' (first | (with_reducible assumption) | ((with_reducible refine Blk.new ?_); first | rfl | (simp; done)) | (with_reducible refine Blk.later (by assumption) ?_) | (with_reducible refine Blk.alloc ?_) | (with_reducible refine Blk.drewN ?_) | (with_reducible refine Blk.drew ?_) | (with_reducible refine Blk.other ?_ (by first | omega | (simp; done) | (simp; omega))))); done) | ((repeat' (first | (with_reducible exact Below.refl _ _) | (with_reducible assumption) | (with_reducible refine belowThru ?_ (by assumption)) | (with_reducible refine belowAlloc ?_) | (with_reducible refine Below.setCell ?_ (by first | omega | (simp; done) | (simp; omega)) _) | (with_reducible refine Below.drew ?_) | (with_reducible refine below_drewN ?_ _))); done))))
  clear hK K hHeld
  have hHeld := hHeldN
  clear hHeldN
  try simp only [Act.put, List.setIfInBounds_toArray, List.set_cons_zero, List.set_cons_succ]
  have hBA : Below w.heap.size w wA := by (repeat' (first | (with_reducible exact Below.refl _ _) | (with_reducible assumption) | (with_reducible refine belowThru ?_ (by assumption)) | (with_reducible refine belowAlloc ?_) | (with_reducible refine Below.setCell ?_ (by first | omega | (simp; done) | (simp; omega)) _) | (with_reducible refine Below.drew ?_) | (with_reducible refine below_drewN ?_ _)))
  have HB := Lib.hid hb2
  clear hb hb2
  refine wpAnyH_ready (rs := [6]) (by kernel_rfl) (by simp) ?_
  refine AllReadyH.cons rfl (fun K hK => ?_) AllReadyH.nil
  go_simp
  (go_at_call 35; (with_reducible refine (HSAME.out _ _ _ _ (HR.out.later hBA) HB.out).mono ?_); rintro e wB ⟨rfl, hb⟩)
  refine hK.out _ _ ?_ (fun hHeldN => ?_)
  · (try dsimp only); (((first | (apply hold1; (focus assumption); intro p0 pB) | skip); refine ⟨Blk.full ?_, ?_⟩; all_goals (first | ((repeat' (first | (with_reducible assumption) | ((with_reducible refine Blk.new ?_); first | rfl | (simp; done)) | (with_reducible refine Blk.later (by assumption) ?_) | (with_reducible refine Blk.alloc ?_) | (with_reducible refine Blk.drewN ?_) | (with_reducible refine Blk.drew ?_) | (with_reducible refine Blk.other ?_ (by first | omega | (simp; done) | (simp; omega))))); done) | ((repeat' (first | (with_reducible exact Below.refl _ _) | (with_reducible assumption) | (with_reducible refine belowThru ?_ (by assumption)) | (with_reducible refine belowAlloc ?_) | (with_reducible refine Below.setCell ?_ (by first | omega | (simp; done) | (simp; omega)) _) | (with_reducible refine Below.drew ?_) | (with_reducible refine below_drewN ?_ _))); done))))
  clear hK K hHeld
  have hHeld := hHeldN
  clear hHeldN
  try simp only [Act.put, List.setIfInBounds_toArray, List.set_cons_zero, List.set_cons_succ]
  clear hb
  refine wpAnyH_ready (rs := [7]) (by kernel_rfl) (by simp) ?_
  refine AllReadyH.cons rfl (fun K hK => ?_) AllReadyH.nil
  go_simp
  refine hK.out _ _ ?_ (fun hHeldN => ?_)
  · (try dsimp only); (((first | (apply hold1; (focus assumption); intro p0 pB) | skip); refine ⟨Blk.full ?_, ?_⟩; all_goals (first | ((repeat' (first | (with_reducible assumption) | ((with_reducible refine Blk.new ?_); first | rfl | (simp; done)) | (with_reducible refine Blk.later (by assumption) ?_) | (with_reducible refine Blk.alloc ?_) | (with_reducible refine Blk.drewN ?_) | (with_reducible refine Blk.drew ?_) | (with_reducible refine Blk.other ?_ (by first | omega | (simp; done) | (simp; omega))))); done) | ((repeat' (first | (with_reducible exact Below.refl _ _) | (with_reducible assumption) | (with_reducible refine belowThru ?_ (by assumption)) | (with_reducible refine belowAlloc ?_) | (with_reducible refine Below.setCell ?_ (by first | omega | (simp; done) | (simp; omega)) _) | (with_reducible refine Below.drew ?_) | (with_reducible refine below_drewN ?_ _))); done))))
  clear hK K hHeld
  have hHeld := hHeldN
  clear hHeldN
  try simp only [Act.put, List.setIfInBounds_toArray, List.set_cons_zero, List.set_cons_succ]
  refine wpAnyH_ready (rs := [8]) (by kernel_rfl) (by simp) ?_
  refine AllReadyH.cons rfl (fun K hK => ?_) AllReadyH.nil
  go_simp
  refine hK.out _ _ ?_ (fun hHeldN => ?_)
  · (try dsimp only); (((first | (apply hold1; (focus assumption); intro p0 pB) | skip); refine ⟨Blk.full ?_, ?_⟩; all_goals (first | ((repeat' (first | (with_reducible assumption) | ((with_reducible refine Blk.new ?_); first | rfl | (simp; done)) | (with_reducible refine Blk.later (by assumption) ?_) | (with_reducible refine Blk.alloc ?_) | (with_reducible refine Blk.drewN ?_) | (with_reducible refine Blk.drew ?_) | (with_reducible refine Blk.other ?_ (by first | omega | (simp; done) | (simp; omega))))); done) | ((repeat' (first | (with_reducible exact Below.refl _ _) | (with_reducible assumption) | (with_reducible refine belowThru ?_ (by assumption)) | (with_reducible refine belowAlloc ?_) | (with_reducible refine Below.setCell ?_ (by first | omega | (simp; done) | (simp; omega)) _) | (with_reducible refine Below.drew ?_) | (with_reducible refine below_drewN ?_ _))); done))))
  clear hK K hHeld
  have hHeld := hHeldN
  clear hHeldN
  try simp only [Act.put, List.setIfInBounds_toArray, List.set_cons_zero, List.set_cons_succ]
  refine wpAnyH_done (by kernel_rfl) ?_ _
  obtain ⟨-, pB⟩ := hHeld
  go_wp2_with fail
  go_ret
  exact ⟨rfl, pB⟩
end Go.Proofs.Ytghmjdmiaajbnaa
/-
  Layer 2: sums of rows and of columns, by the code.
-/
namespace Go.Proofs.Ytghmjdmiaajbnaa
open Go.RowKit Go.Shelf
set_option linter.unusedVariables false
set_option linter.unusedSimpArgs false

attribute [local go_sem] Oper.semAt_some

/-- What the iterator hands on of an image: its values. -/
def ValR (zs : List Int) (j : Nat) (z : Int) : Prop := zs[j]? = some z ∧ okV z
/-- The sum of the values of some pixels that belong to a number. -/
def addP {N : Nat} {zs : List Int} (ix : Nat → Nat) (pre : List (Pel N (ValR zs))) (j : Nat) : Int := (pre.map fun x => if ix x.1.1 = j then x.1.2 else 0).foldl (· + ·) 0
theorem addP_snoc {N : Nat} {zs : List Int} (ix : Nat → Nat) (pre : List (Pel N (ValR zs))) (x : Pel N (ValR zs)) (j : Nat) : addP ix (pre ++ [x]) j = addP ix pre j + if ix x.1.1 = j then x.1.2 else 0 := by
  unfold addP; rw [List.map_append, List.foldl_append]; rfl
theorem fold_range (f : Nat → Int) (n : Nat) : ((List.range n).map f).foldl (· + ·) 0 = sumN f n := by
  induction n with
  | zero => rfl
  | succ n ih => rw [List.range_succ, List.map_append, List.foldl_append, ih]; rfl
theorem addP_all {N : Nat} {zs : List Int} (ix : Nat → Nat) {xs : List (Pel N (ValR zs))} (h : PixAll N xs) (j : Nat) : addP ix xs j = sumN (fun i => if ix i = j then zs[i]?.getD 0 else 0) N := by
  rw [← fold_range, ← (show xs.map (fun x => x.1.1) = List.range N from h), List.map_map]
  unfold addP
  congr 1
  refine List.map_congr_left fun x _ => ?_
  show _ = if ix x.1.1 = j then zs[x.1.1]?.getD 0 else 0
  rw [x.2.2.1]; rfl
def SumsP {N : Nat} {zs : List Int} (ix : Nat → Nat) (cnt : Nat) (pre : List (Pel N (ValR zs))) (ls : List Int) : Prop := ls.length = cnt ∧ ∀ j, j < cnt → ls[j]? = some (addP ix pre j)
theorem SumsP.snoc {N : Nat} {zs : List Int} {ix : Nat → Nat} {cnt : Nat} {pre : List (Pel N (ValR zs))} {ls : List Int} (h : SumsP ix cnt pre ls) (x : Pel N (ValR zs)) (hx : ix x.1.1 < cnt) : SumsP ix cnt (pre ++ [x]) (ls.set (ix x.1.1) (addP ix pre (ix x.1.1) + x.1.2)) := by
  refine ⟨by rw [List.length_set]; exact h.1, fun j hj => ?_⟩
  rw [addP_snoc]
  by_cases e : ix x.1.1 = j
  · rw [if_pos e, ← e, List.getElem?_set_self (by rw [h.1]; exact hx)]
  · rw [if_neg e, Int.add_zero, List.getElem?_set_ne e, h.2 j hj]
theorem SumsP.all {N : Nat} {zs : List Int} {ix : Nat → Nat} {cnt : Nat} {xs : List (Pel N (ValR zs))} {ls : List Int} (h : SumsP ix cnt xs ls) (ha : PixAll N xs) : ls = (List.range cnt).map fun j => sumN (fun i => if ix i = j then zs[i]?.getD 0 else 0) N := by
  apply List.ext_getElem?
  intro j
  by_cases hj : j < cnt
  · rw [h.2 j hj, addP_all ix ha, List.getElem?_map, List.getElem?_range hj]; rfl
  · rw [List.getElem?_eq_none (by rw [h.1]; omega), List.getElem?_eq_none (by simp; omega)]
theorem SumsP.start {N : Nat} {zs : List Int} (ix : Nat → Nat) (cnt : Nat) : SumsP ix cnt ([] : List (Pel N (ValR zs))) (List.replicate cnt 0) :=
  ⟨List.length_replicate, fun j hj => by rw [List.getElem?_replicate, if_pos hj]; rfl⟩

end Go.Proofs.Ytghmjdmiaajbnaa
/-
  Layer 2: what distances, labels and basins are made of, by the code.
-/
namespace Go.Proofs.Ytghmjdmiaajbnaa
open Go.RowKit
set_option linter.unusedVariables false
set_option linter.unusedSimpArgs false

/-- The steps to the four neighbours. -/
def offs4 : List (Int × Int) := [(0, -1), (-1, 0), (1, 0), (0, 1)]
def cells4 : Array Value := #[.int .i64 0, .int .i64 (-1), .int .i64 (-1), .int .i64 0, .int .i64 1, .int .i64 0, .int .i64 0, .int .i64 1]
theorem around4_any (w : World) :
    Calls Try.prog 73 #[.bool false] w fun e w' => e = .returned (.slice (some ⟨w.heap.size, 0, none⟩) 4 4) ∧ Blk w' w.heap.size cells4 83 ∧ Below w.heap.size w w' := by
  go_enter Try.func73, Try.ntmps73
  go_wp2
  go_ret
  exact ⟨rfl, by unfold cells4; (repeat' (first | (with_reducible assumption) | ((with_reducible refine Blk.new ?_); first | rfl | (simp; done)) | (with_reducible refine Blk.later (by assumption) ?_) | (with_reducible refine Blk.alloc ?_) | (with_reducible refine Blk.drewN ?_) | (with_reducible refine Blk.drew ?_) | (with_reducible refine Blk.other ?_ (by first | omega | (simp; done) | (simp; omega))))), by (repeat' (first | (with_reducible exact Below.refl _ _) | (with_reducible assumption) | (with_reducible refine belowThru ?_ (by assumption)) | (with_reducible refine belowAlloc ?_) | (with_reducible refine Below.setCell ?_ (by first | omega | (simp; done) | (simp; omega)) _) | (with_reducible refine Below.drew ?_) | (with_reducible refine below_drewN ?_ _)))⟩
set_option maxHeartbeats 1000000 in
theorem steps_any (px py qx qy : Int) (hp : (0 ≤ px ∧ px ≤ 64) ∧ 0 ≤ py ∧ py ≤ 64) (hq : (0 ≤ qx ∧ qx ≤ 64) ∧ 0 ≤ qy ∧ qy ≤ 64) (w : World) :
    Calls Try.prog 71 #[.agg #[.int .i64 px, .int .i64 py], .agg #[.int .i64 qx, .int .i64 qy]] w fun e w' => e = .returned (.int .i64 (max (px - qx) (qx - px) + max (py - qy) (qy - py))) ∧ Below w.heap.size w w' := by
  obtain ⟨⟨h1, h2⟩, h3, h4⟩ := hp
  obtain ⟨⟨g1, g2⟩, g3, g4⟩ := hq
  go_enter Try.func71, Try.ntmps71
  go_wp2
  all_goals
    go_ret
    exact ⟨ret_int (by omega), by (repeat' (first | (with_reducible exact Below.refl _ _) | (with_reducible assumption) | (with_reducible refine belowThru ?_ (by assumption)) | (with_reducible refine belowAlloc ?_) | (with_reducible refine Below.setCell ?_ (by first | omega | (simp; done) | (simp; omega)) _) | (with_reducible refine Below.drew ?_) | (with_reducible refine below_drewN ?_ _)))⟩
/-- A pixel with the value vq and the number iq is taken as lower than one with vp and ip. -/
def lowB (vq vp : Int) (iq ip : Nat) : Prop := vq < vp ∨ (vq = vp ∧ iq < ip)
instance (vq vp : Int) (iq ip : Nat) : Decidable (lowB vq vp iq ip) := inferInstanceAs (Decidable (_ ∨ _))
set_option maxRecDepth 100000 in
set_option maxHeartbeats 4000000 in
theorem lower_any (W H qx qy px py vq vp : Int) (iq ip : Nat) (a : Option Addr) (n c : Nat) (zs : List Int) (hI : okI W H zs) (hq : inP W H qx qy) (hp : inP W H px py) (evq : pixAt W zs qx qy = vq) (evp : pixAt W zs px py = vp) (eiq : qy * W + qx = (iq : Int)) (eip : py * W + px = (ip : Int)) (w : World) (hR : Row w a n (iv zs)) :
    Calls Try.prog 114 #[.agg #[.int .i64 W, .int .i64 H, .slice a n c], .agg #[.int .i64 qx, .int .i64 qy], .agg #[.int .i64 px, .int .i64 py]] w fun e w' => e = .returned (.bool (decide (lowB vq vp iq ip))) ∧ Below w.heap.size w w' := by
  have HAQ := Lib.hid (at_z W H qx qy a n c zs hI hq)
  have HAP := Lib.hid (at_z W H px py a n c zs hI hp)
  rw [evq] at HAQ
  rw [evp] at HAP
  have HR := Lib.hid hR
  have hs := hI.1
  unfold okS at hs
  have HXQ := Lib.hid (fun w => index_any W H qx qy iq a n c eiq hq.2.1 (by have := hq.2.2; omega) (by omega) (by omega) hq.1.1 (by have := hq.1.2; omega) w)
  have HXP := Lib.hid (fun w => index_any W H px py ip a n c eip hp.2.1 (by have := hp.2.2; omega) (by omega) (by omega) hp.1.1 (by have := hp.1.2; omega) w)
  clear hI hq hp evq evp eiq eip hR hs
  by_cases e : vq = vp
  · have dl : decide (lowB vq vp iq ip) = decide ((iq : Int) < (ip : Int)) := by unfold lowB; simp [e]
    rw [dl]
    subst e
    clear dl
    go_enter Try.func114, Try.ntmps114
    go_upto_region 1 with fail
    go_region_held3 (fun w' => (Blk w' w.heap.size #[.int .i64 W, .int .i64 H, .slice a n c] 86 ∧ (∀ i : Nat, w'.cell? ⟨w.heap.size, i, none⟩ = (#[.int .i64 W, .int .i64 H, .slice a n c] : Array Value)[i]?)) ∧ (Blk w' (w.heap.size + 1) #[.int .i64 qx, .int .i64 qy] 83 ∧ (∀ i : Nat, w'.cell? ⟨(w.heap.size + 1), i, none⟩ = (#[.int .i64 qx, .int .i64 qy] : Array Value)[i]?)) ∧ (Blk w' (w.heap.size + 1 + 1) #[.int .i64 px, .int .i64 py] 83 ∧ (∀ i : Nat, w'.cell? ⟨(w.heap.size + 1 + 1), i, none⟩ = (#[.int .i64 px, .int .i64 py] : Array Value)[i]?)) ∧ Below w.heap.size w w')
      (((first | (apply hold3; (focus assumption); intro p0 p1 p2 pB) | skip); refine ⟨Blk.full ?_, Blk.full ?_, Blk.full ?_, ?_⟩; all_goals (first | ((repeat' (first | (with_reducible assumption) | ((with_reducible refine Blk.new ?_); first | rfl | (simp; done)) | (with_reducible refine Blk.later (by assumption) ?_) | (with_reducible refine Blk.alloc ?_) | (with_reducible refine Blk.drewN ?_) | (with_reducible refine Blk.drew ?_) | (with_reducible refine Blk.other ?_ (by first | omega | (simp; done) | (simp; omega))))); done) | ((repeat' (first | (with_reducible exact Below.refl _ _) | (with_reducible assumption) | (with_reducible refine belowThru ?_ (by assumption)) | (with_reducible refine belowAlloc ?_) | (with_reducible refine Below.setCell ?_ (by first | omega | (simp; done) | (simp; omega)) _) | (with_reducible refine Below.drew ?_) | (with_reducible refine below_drewN ?_ _))); done))))
      (first
      | (go_at_call 57; (with_reducible refine (HAQ.out _ (HR.out.later (by (repeat' (first | (with_reducible exact Below.refl _ _) | (with_reducible assumption) | (with_reducible refine belowThru ?_ (by assumption)) | (with_reducible refine belowAlloc ?_) | (with_reducible refine Below.setCell ?_ (by first | omega | (simp; done) | (simp; omega)) _) | (with_reducible refine Below.drew ?_) | (with_reducible refine below_drewN ?_ _)))))).mono ?_); rintro e w1 ⟨rfl, hb⟩)
      | (go_at_call 57; (with_reducible refine (HAP.out _ (HR.out.later (by (repeat' (first | (with_reducible exact Below.refl _ _) | (with_reducible assumption) | (with_reducible refine belowThru ?_ (by assumption)) | (with_reducible refine belowAlloc ?_) | (with_reducible refine Below.setCell ?_ (by first | omega | (simp; done) | (simp; omega)) _) | (with_reducible refine Below.drew ?_) | (with_reducible refine below_drewN ?_ _)))))).mono ?_); rintro e w1 ⟨rfl, hb⟩))
    all_goals
      apply hold3; (focus assumption); intro k0 k1 k2 hB
      obtain ⟨a0, b0⟩ := k0.read; obtain ⟨a1, b1⟩ := k1.read; obtain ⟨a2, b2⟩ := k2.read
      go_upto_region 2 with fail
      go_region_held3 (fun w' => (Blk w' w.heap.size #[.int .i64 W, .int .i64 H, .slice a n c] 86 ∧ (∀ i : Nat, w'.cell? ⟨w.heap.size, i, none⟩ = (#[.int .i64 W, .int .i64 H, .slice a n c] : Array Value)[i]?)) ∧ (Blk w' (w.heap.size + 1) #[.int .i64 qx, .int .i64 qy] 83 ∧ (∀ i : Nat, w'.cell? ⟨(w.heap.size + 1), i, none⟩ = (#[.int .i64 qx, .int .i64 qy] : Array Value)[i]?)) ∧ (Blk w' (w.heap.size + 1 + 1) #[.int .i64 px, .int .i64 py] 83 ∧ (∀ i : Nat, w'.cell? ⟨(w.heap.size + 1 + 1), i, none⟩ = (#[.int .i64 px, .int .i64 py] : Array Value)[i]?)) ∧ Below w.heap.size w w')
        (((first | (apply hold3; (focus assumption); intro p0 p1 p2 pB) | skip); refine ⟨Blk.full ?_, Blk.full ?_, Blk.full ?_, ?_⟩; all_goals (first | ((repeat' (first | (with_reducible assumption) | ((with_reducible refine Blk.new ?_); first | rfl | (simp; done)) | (with_reducible refine Blk.later (by assumption) ?_) | (with_reducible refine Blk.alloc ?_) | (with_reducible refine Blk.drewN ?_) | (with_reducible refine Blk.drew ?_) | (with_reducible refine Blk.other ?_ (by first | omega | (simp; done) | (simp; omega))))); done) | ((repeat' (first | (with_reducible exact Below.refl _ _) | (with_reducible assumption) | (with_reducible refine belowThru ?_ (by assumption)) | (with_reducible refine belowAlloc ?_) | (with_reducible refine Below.setCell ?_ (by first | omega | (simp; done) | (simp; omega)) _) | (with_reducible refine Below.drew ?_) | (with_reducible refine below_drewN ?_ _))); done))))
        (first
      | (go_at_call 96; (with_reducible refine (HXQ.out _).mono ?_); rintro e w1 ⟨rfl, hb⟩)
      | (go_at_call 96; (with_reducible refine (HXP.out _).mono ?_); rintro e w1 ⟨rfl, hb⟩))
      all_goals
        apply hold3; (focus assumption); intro q0 q1 q2 qB
        go_wp2_with fail
        go_ret
        exact ⟨by first | rfl | (simp; done) | (congr 2; simp), qB⟩
  · have dl : decide (lowB vq vp iq ip) = decide (vq < vp) := by unfold lowB; simp [e]
    rw [dl]
    have e2 : (vq == vp) = false := by simpa using e
    clear dl
    go_enter Try.func114, Try.ntmps114
    go_upto_region 1 with fail
    go_region_held3 (fun w' => (Blk w' w.heap.size #[.int .i64 W, .int .i64 H, .slice a n c] 86 ∧ (∀ i : Nat, w'.cell? ⟨w.heap.size, i, none⟩ = (#[.int .i64 W, .int .i64 H, .slice a n c] : Array Value)[i]?)) ∧ (Blk w' (w.heap.size + 1) #[.int .i64 qx, .int .i64 qy] 83 ∧ (∀ i : Nat, w'.cell? ⟨(w.heap.size + 1), i, none⟩ = (#[.int .i64 qx, .int .i64 qy] : Array Value)[i]?)) ∧ (Blk w' (w.heap.size + 1 + 1) #[.int .i64 px, .int .i64 py] 83 ∧ (∀ i : Nat, w'.cell? ⟨(w.heap.size + 1 + 1), i, none⟩ = (#[.int .i64 px, .int .i64 py] : Array Value)[i]?)) ∧ Below w.heap.size w w')
      (((first | (apply hold3; (focus assumption); intro p0 p1 p2 pB) | skip); refine ⟨Blk.full ?_, Blk.full ?_, Blk.full ?_, ?_⟩; all_goals (first | ((repeat' (first | (with_reducible assumption) | ((with_reducible refine Blk.new ?_); first | rfl | (simp; done)) | (with_reducible refine Blk.later (by assumption) ?_) | (with_reducible refine Blk.alloc ?_) | (with_reducible refine Blk.drewN ?_) | (with_reducible refine Blk.drew ?_) | (with_reducible refine Blk.other ?_ (by first | omega | (simp; done) | (simp; omega))))); done) | ((repeat' (first | (with_reducible exact Below.refl _ _) | (with_reducible assumption) | (with_reducible refine belowThru ?_ (by assumption)) | (with_reducible refine belowAlloc ?_) | (with_reducible refine Below.setCell ?_ (by first | omega | (simp; done) | (simp; omega)) _) | (with_reducible refine Below.drew ?_) | (with_reducible refine below_drewN ?_ _))); done))))
      (first
      | (go_at_call 57; (with_reducible refine (HAQ.out _ (HR.out.later (by (repeat' (first | (with_reducible exact Below.refl _ _) | (with_reducible assumption) | (with_reducible refine belowThru ?_ (by assumption)) | (with_reducible refine belowAlloc ?_) | (with_reducible refine Below.setCell ?_ (by first | omega | (simp; done) | (simp; omega)) _) | (with_reducible refine Below.drew ?_) | (with_reducible refine below_drewN ?_ _)))))).mono ?_); rintro e w1 ⟨rfl, hb⟩)
      | (go_at_call 57; (with_reducible refine (HAP.out _ (HR.out.later (by (repeat' (first | (with_reducible exact Below.refl _ _) | (with_reducible assumption) | (with_reducible refine belowThru ?_ (by assumption)) | (with_reducible refine belowAlloc ?_) | (with_reducible refine Below.setCell ?_ (by first | omega | (simp; done) | (simp; omega)) _) | (with_reducible refine Below.drew ?_) | (with_reducible refine below_drewN ?_ _)))))).mono ?_); rintro e w1 ⟨rfl, hb⟩))
    all_goals
      apply hold3; (focus assumption); intro k0 k1 k2 hB
      obtain ⟨a0, b0⟩ := k0.read; obtain ⟨a1, b1⟩ := k1.read; obtain ⟨a2, b2⟩ := k2.read
      go_upto_region 3 with fail
      go_region_held3 (fun w' => (Blk w' w.heap.size #[.int .i64 W, .int .i64 H, .slice a n c] 86 ∧ (∀ i : Nat, w'.cell? ⟨w.heap.size, i, none⟩ = (#[.int .i64 W, .int .i64 H, .slice a n c] : Array Value)[i]?)) ∧ (Blk w' (w.heap.size + 1) #[.int .i64 qx, .int .i64 qy] 83 ∧ (∀ i : Nat, w'.cell? ⟨(w.heap.size + 1), i, none⟩ = (#[.int .i64 qx, .int .i64 qy] : Array Value)[i]?)) ∧ (Blk w' (w.heap.size + 1 + 1) #[.int .i64 px, .int .i64 py] 83 ∧ (∀ i : Nat, w'.cell? ⟨(w.heap.size + 1 + 1), i, none⟩ = (#[.int .i64 px, .int .i64 py] : Array Value)[i]?)) ∧ Below w.heap.size w w')
        (((first | (apply hold3; (focus assumption); intro p0 p1 p2 pB) | skip); refine ⟨Blk.full ?_, Blk.full ?_, Blk.full ?_, ?_⟩; all_goals (first | ((repeat' (first | (with_reducible assumption) | ((with_reducible refine Blk.new ?_); first | rfl | (simp; done)) | (with_reducible refine Blk.later (by assumption) ?_) | (with_reducible refine Blk.alloc ?_) | (with_reducible refine Blk.drewN ?_) | (with_reducible refine Blk.drew ?_) | (with_reducible refine Blk.other ?_ (by first | omega | (simp; done) | (simp; omega))))); done) | ((repeat' (first | (with_reducible exact Below.refl _ _) | (with_reducible assumption) | (with_reducible refine belowThru ?_ (by assumption)) | (with_reducible refine belowAlloc ?_) | (with_reducible refine Below.setCell ?_ (by first | omega | (simp; done) | (simp; omega)) _) | (with_reducible refine Below.drew ?_) | (with_reducible refine below_drewN ?_ _))); done))))
        (first
      | (go_at_call 57; (with_reducible refine (HAQ.out _ (HR.out.later (by (repeat' (first | (with_reducible exact Below.refl _ _) | (with_reducible assumption) | (with_reducible refine belowThru ?_ (by assumption)) | (with_reducible refine belowAlloc ?_) | (with_reducible refine Below.setCell ?_ (by first | omega | (simp; done) | (simp; omega)) _) | (with_reducible refine Below.drew ?_) | (with_reducible refine below_drewN ?_ _)))))).mono ?_); rintro e w1 ⟨rfl, hb⟩)
      | (go_at_call 57; (with_reducible refine (HAP.out _ (HR.out.later (by (repeat' (first | (with_reducible exact Below.refl _ _) | (with_reducible assumption) | (with_reducible refine belowThru ?_ (by assumption)) | (with_reducible refine belowAlloc ?_) | (with_reducible refine Below.setCell ?_ (by first | omega | (simp; done) | (simp; omega)) _) | (with_reducible refine Below.drew ?_) | (with_reducible refine below_drewN ?_ _)))))).mono ?_); rintro e w1 ⟨rfl, hb⟩))
      all_goals
        apply hold3; (focus assumption); intro q0 q1 q2 qB
        go_wp2_with fail
        go_ret
        exact ⟨by first | rfl | (simp; done) | (congr 2; simp), qB⟩
end Go.Proofs.Ytghmjdmiaajbnaa
/-
  Layer 2: the distance of a place from the places of a list, by the code.
-/
namespace Go.Proofs.Ytghmjdmiaajbnaa
open Go.RowKit
set_option linter.unusedVariables false
set_option linter.unusedSimpArgs false

def stepD (px py qx qy : Int) : Int := max (px - qx) (qx - px) + max (py - qy) (qy - py)
/-- The least of a number and the distances to the first places of a list. -/
def disN (px py M : Int) (Z : List (Int × Int)) : Nat → Int
  | 0 => M
  | j + 1 => min (disN px py M Z j) (stepD px py (Z[j]?.getD (0, 0)).1 (Z[j]?.getD (0, 0)).2)
theorem disN_bd {px py M : Int} {Z : List (Int × Int)} (hM : 0 ≤ M) (j : Nat) : 0 ≤ disN px py M Z j ∧ disN px py M Z j ≤ M := by
  induction j with
  | zero => exact ⟨hM, Int.le_refl _⟩
  | succ j ih => unfold disN stepD; omega
/-- A slice value that reads as these places. -/
def PRow (w : World) (a : Option Addr) (Z : List (Int × Int)) : Prop :=
  ∀ j, j < Z.length → ∃ g, a = some ⟨g, 0, none⟩ ∧ w.cell? ⟨g, j * 2, none⟩ = some (.int .i64 (Z[j]?.getD (0, 0)).1) ∧ w.cell? ⟨g, j * 2 + 1, none⟩ = some (.int .i64 (Z[j]?.getD (0, 0)).2)
theorem PRow.later {w w' : World} (hb : Below w.heap.size w w') {a : Option Addr} {Z : List (Int × Int)} (h : PRow w a Z) : PRow w' a Z := fun j hj => by
  obtain ⟨g, e, h1, h2⟩ := h j hj
  exact ⟨g, e, cell_later hb h1, cell_later hb h2⟩
set_option maxRecDepth 100000 in
set_option maxHeartbeats 8000000 in
theorem dist1_any (W H px py : Int) (Z : List (Int × Int)) (a az : Option Addr) (n c nz cz Bm Bz : Nat) (hW : okS W) (hH : okS H) (hp : inP W H px py) (hz : ∀ q ∈ Z, inP W H q.1 q.2) (hn : Z.length = nz) (hnz : nz ≤ 256) (w : World) (hR : PRow w az Z) (km : Blk w Bm #[.int .i64 W, .int .i64 H, .slice a n c] 24) (kz : Blk w Bz #[.slice az nz cz] 101) :
    Calls Try.prog 70 #[.agg #[.int .i64 px, .int .i64 py], .pointer (some ⟨Bm, 0, none⟩), .pointer (some ⟨Bz, 0, none⟩)] w fun e w' => e = .returned (.int .i64 (disN px py (W + H) Z nz)) ∧ Below w.heap.size w w' := by
  obtain ⟨w0, w1⟩ := hW
  obtain ⟨h0, h1⟩ := hH
  have HB : Hid (∀ j, 0 ≤ disN px py (W + H) Z j ∧ disN px py (W + H) Z j ≤ W + H) := fun j => disN_bd (by omega) j
  have HQ : Hid (∀ j, j < nz → ∃ qx qy : Int, (Z[j]?.getD (0, 0)) = (qx, qy) ∧ (0 ≤ qx ∧ qx ≤ 64) ∧ 0 ≤ qy ∧ qy ≤ 64) := fun j hj => by
    have hm : Z[j]'(by omega) ∈ Z := List.getElem_mem _
    have := hz _ hm
    refine ⟨(Z[j]'(by omega)).1, (Z[j]'(by omega)).2, by rw [List.getElem?_eq_getElem (by omega)]; rfl, ?_⟩
    unfold inP at this
    omega
  have hp2 : (0 ≤ px ∧ px ≤ 64) ∧ 0 ≤ py ∧ py ≤ 64 := by unfold inP at hp; omega
  have HP := Lib.hid hp2
  have HN := Lib.hid hn
  have HR := Lib.hid hR
  obtain ⟨D, hD⟩ : ∃ D : Nat → Int, D = disN px py (W + H) Z := ⟨_, rfl⟩
  have HD0 : Hid (D 0 = W + H) := by rw [hD]; rfl
  have HDS : Hid (∀ j qx qy, (Z[j]?.getD (0, 0)) = (qx, qy) → D (j + 1) = min (D j) (stepD px py qx qy)) := by rw [hD]; intro j qx qy h; show min _ _ = _; rw [h]
  rw [← hD] at HB ⊢
  clear hp hz hn hR hp2 hD
  obtain ⟨am, bm⟩ := km.read; obtain ⟨az', bz'⟩ := kz.read
  have zm := km.lt; have zz := kz.lt
  have km1 : Hid (Blk w Bm #[.int .i64 W, .int .i64 H, .slice a n c] 24) := km
  go_enter Try.func70, Try.ntmps70
  go_wp2
  go_loopw [5, 7, 15] (fun s5 _ s15 wr => ∃ j : Nat, j ≤ nz ∧ s15 = .int .i64 j ∧ s5 = .int .i64 (D j) ∧ Blk wr w.heap.size #[.int .i64 px, .int .i64 py] 83 ∧ Below w.heap.size w wr) (fun _ _ s15 _ => nz - (intOf s15).toNat)
  case atStart => exact ⟨0, Nat.zero_le _, rfl, by rw [HD0.out], by (repeat' (first | (with_reducible assumption) | ((with_reducible refine Blk.new ?_); first | rfl | (simp; done)) | (with_reducible refine Blk.later (by assumption) ?_) | (with_reducible refine Blk.alloc ?_) | (with_reducible refine Blk.drewN ?_) | (with_reducible refine Blk.drew ?_) | (with_reducible refine Blk.other ?_ (by first | omega | (simp; done) | (simp; omega))))), by (repeat' (first | (with_reducible exact Below.refl _ _) | (with_reducible assumption) | (with_reducible refine belowThru ?_ (by assumption)) | (with_reducible refine belowAlloc ?_) | (with_reducible refine Below.setCell ?_ (by first | omega | (simp; done) | (simp; omega)) _) | (with_reducible refine Below.drew ?_) | (with_reducible refine below_drewN ?_ _)))⟩
  case round =>
    obtain ⟨j, hj, rfl, rfl, k0, hB⟩ := hrel
    clear am bm az' bz' km kz
    obtain ⟨a0, b0⟩ := k0.read
    have y0 := k0.lt
    have hdb := HB.out j
    by_cases hlt : j < nz
    · have i9 : (j : Int) < (nz : Int) := by omega
      have i0 : (0 : Int) ≤ (j : Int) := by omega
      obtain ⟨qx, qy, hq, hqb⟩ := HQ.out j hlt
      have HS := Lib.hid (HDS.out j qx qy hq)
      obtain ⟨g, rfl, c0, c1⟩ := HR.out.later hB j (by rw [HN.out]; exact hlt)
      rw [hq] at c0 c1
      have HC := Lib.hid (steps_any px py qx qy HP.out hqb)
      have hsb : 0 ≤ stepD px py qx qy ∧ stepD px py qx qy ≤ 128 := by have := HP.out; unfold stepD; omega
      obtain ⟨u, hu⟩ : ∃ u, D j = u := ⟨_, rfl⟩
      obtain ⟨t, ht⟩ : ∃ t, stepD px py qx qy = t := ⟨_, rfl⟩
      rw [hu] at hdb HS ⊢
      rw [ht] at hsb HS
      rw [show max (px - qx) (qx - px) + max (py - qy) (qy - py) = t from ht] at HC
      clear hq hqb hu ht
      go_wp2_with (go_at_call 71; (with_reducible refine (HC.out _).mono ?_); rintro e w5 ⟨rfl, hb⟩; (try (have zk := k0.lt; (first | ((with_reducible refine Blk.keepG hb k0 (fun h => ?_) ?_); (focus ((repeat' (first | (with_reducible assumption) | ((with_reducible refine Blk.new ?_); first | rfl | (simp; done)) | (with_reducible refine Blk.later (by assumption) ?_) | (with_reducible refine Blk.alloc ?_) | (with_reducible refine Blk.drewN ?_) | (with_reducible refine Blk.drew ?_) | (with_reducible refine Blk.other ?_ (by first | omega | (simp; done) | (simp; omega))))); done)); clear k0; intro k0) | (with_reducible replace k0 := Blk.later hb (Blk.set (Blk.set k0))) | (with_reducible replace k0 := Blk.later hb (Blk.set k0))); clear a0 b0; obtain ⟨a0, b0⟩ := k0.read; have zl := k0.lt)))
      all_goals
        go_roundw
        case rel => exact ⟨j + 1, hlt, by go_num, by rw [HS.out]; congr 1; omega, by (repeat' (first | (with_reducible assumption) | ((with_reducible refine Blk.new ?_); first | rfl | (simp; done)) | (with_reducible refine Blk.later (by assumption) ?_) | (with_reducible refine Blk.alloc ?_) | (with_reducible refine Blk.drewN ?_) | (with_reducible refine Blk.drew ?_) | (with_reducible refine Blk.other ?_ (by first | omega | (simp; done) | (simp; omega))))), by (repeat' (first | (with_reducible exact Below.refl _ _) | (with_reducible assumption) | (with_reducible refine belowThru ?_ (by assumption)) | (with_reducible refine belowAlloc ?_) | (with_reducible refine Below.setCell ?_ (by first | omega | (simp; done) | (simp; omega)) _) | (with_reducible refine Below.drew ?_) | (with_reducible refine below_drewN ?_ _)))⟩
        case measure => simp [intOf]; omega
    · have hje : j = nz := by omega
      rw [hje]
      go_wp2
      go_ret
      exact ⟨rfl, by (repeat' (first | (with_reducible exact Below.refl _ _) | (with_reducible assumption) | (with_reducible refine belowThru ?_ (by assumption)) | (with_reducible refine belowAlloc ?_) | (with_reducible refine Below.setCell ?_ (by first | omega | (simp; done) | (simp; omega)) _) | (with_reducible refine Below.drew ?_) | (with_reducible refine below_drewN ?_ _)))⟩
end Go.Proofs.Ytghmjdmiaajbnaa
