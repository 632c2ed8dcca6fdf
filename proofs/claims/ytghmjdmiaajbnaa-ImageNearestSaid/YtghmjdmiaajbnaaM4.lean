/-
  The texts that the laws of this seat share, merged: part 4.
-/
import Derived.BigQuiet
import Derived.Deep.CutRange
import Derived.Deep.DeepCutAuto
import Derived.Deep.Draws
import Derived.Deep.OwnRows
import Derived.Deep.QuietTactic
import Derived.Deep.RegionHeld3
import Derived.Laws.AppendOwn
import Derived.Laws.StructEq
import Derived.Lib.Hide
import Derived.LoopIn
import Derived.LoopNIn
import Derived.MapKept
import Derived.Maps.AppendAt
import Derived.OneCell
import Derived.Orders
import Derived.OwnWalkIn
import Derived.RangeFuncBound
import Derived.RangeFuncCalls
import Derived.RangeFuncLeaves
import Derived.RangeFuncNested
import Derived.Shelf.Abstract
import Derived.Shelf.AbstractIn
import Derived.Shelf.RegionOpen
import Derived.StillTailTactics
import Derived.TacticsIn
import Derived.TacticsInMore
import Derived.Test.YtghmjdmiaajbnaaProg
import Derived.WalkKit
import Derived.WalkSmall
import Derived.WalkSpells
import Derived.Test.YtghmjdmiaajbnaaM1
import Derived.Test.YtghmjdmiaajbnaaM2
import Derived.Test.YtghmjdmiaajbnaaM3
/-
  Layer 2: the distance of a place from the places of a list, by the code.
-/
namespace Go.Proofs.Ytghmjdmiaajbnaa
open Go.RowKit
set_option linter.unusedVariables false
set_option linter.unusedSimpArgs false

def stepD (px py qx qy : Int) : Int := max (px - qx) (qx - px) + max (py - qy) (qy - py)
/-- The least of a number and the distances to the first places of a list. -/
def disN (px py M : Int) (Z : List (Int × Int)) : Nat → Int
  | 0 => M
  | j + 1 => min (disN px py M Z j) (stepD px py (Z[j]?.getD (0, 0)).1 (Z[j]?.getD (0, 0)).2)
theorem disN_bd {px py M : Int} {Z : List (Int × Int)} (hM : 0 ≤ M) (j : Nat) : 0 ≤ disN px py M Z j ∧ disN px py M Z j ≤ M := by
  induction j with
  | zero => exact ⟨hM, Int.le_refl _⟩
  | succ j ih => unfold disN stepD; omega
/-- A slice value that reads as these places. -/
def PRow (w : World) (a : Option Addr) (Z : List (Int × Int)) : Prop :=
  ∀ j, j < Z.length → ∃ g, a = some ⟨g, 0, none⟩ ∧ w.cell? ⟨g, j * 2, none⟩ = some (.int .i64 (Z[j]?.getD (0, 0)).1) ∧ w.cell? ⟨g, j * 2 + 1, none⟩ = some (.int .i64 (Z[j]?.getD (0, 0)).2)
theorem PRow.later {w w' : World} (hb : Below w.heap.size w w') {a : Option Addr} {Z : List (Int × Int)} (h : PRow w a Z) : PRow w' a Z := fun j hj => by
  obtain ⟨g, e, h1, h2⟩ := h j hj
  exact ⟨g, e, cell_later hb h1, cell_later hb h2⟩
set_option maxRecDepth 100000 in
set_option maxHeartbeats 8000000 in
theorem dist1_any (W H px py : Int) (Z : List (Int × Int)) (a az : Option Addr) (n c nz cz Bm Bz : Nat) (hW : okS W) (hH : okS H) (hp : inP W H px py) (hz : ∀ q ∈ Z, inP W H q.1 q.2) (hn : Z.length = nz) (hnz : nz ≤ 256) (w : World) (hR : PRow w az Z) (km : Blk w Bm #[.int .i64 W, .int .i64 H, .slice a n c] 24) (kz : Blk w Bz #[.slice az nz cz] 101) :
    Calls Try.prog 70 #[.agg #[.int .i64 px, .int .i64 py], .pointer (some ⟨Bm, 0, none⟩), .pointer (some ⟨Bz, 0, none⟩)] w fun e w' => e = .returned (.int .i64 (disN px py (W + H) Z nz)) ∧ Below w.heap.size w w' := by
  obtain ⟨w0, w1⟩ := hW
  obtain ⟨h0, h1⟩ := hH
  have HB : Hid (∀ j, 0 ≤ disN px py (W + H) Z j ∧ disN px py (W + H) Z j ≤ W + H) := fun j => disN_bd (by omega) j
  have HQ : Hid (∀ j, j < nz → ∃ qx qy : Int, (Z[j]?.getD (0, 0)) = (qx, qy) ∧ (0 ≤ qx ∧ qx ≤ 64) ∧ 0 ≤ qy ∧ qy ≤ 64) := fun j hj => by
    have hm : Z[j]'(by omega) ∈ Z := List.getElem_mem _
    have := hz _ hm
    refine ⟨(Z[j]'(by omega)).1, (Z[j]'(by omega)).2, by rw [List.getElem?_eq_getElem (by omega)]; rfl, ?_⟩
    unfold inP at this
    omega
  have hp2 : (0 ≤ px ∧ px ≤ 64) ∧ 0 ≤ py ∧ py ≤ 64 := by unfold inP at hp; omega
  have HP := Lib.hid hp2
  have HN := Lib.hid hn
  have HR := Lib.hid hR
  obtain ⟨D, hD⟩ : ∃ D : Nat → Int, D = disN px py (W + H) Z := ⟨_, rfl⟩
  have HD0 : Hid (D 0 = W + H) := by rw [hD]; rfl
  have HDS : Hid (∀ j qx qy, (Z[j]?.getD (0, 0)) = (qx, qy) → D (j + 1) = min (D j) (stepD px py qx qy)) := by rw [hD]; intro j qx qy h; show min _ _ = _; rw [h]
  rw [← hD] at HB ⊢
  clear hp hz hn hR hp2 hD
  obtain ⟨am, bm⟩ := km.read; obtain ⟨az', bz'⟩ := kz.read
  have zm := km.lt; have zz := kz.lt
  have km1 : Hid (Blk w Bm #[.int .i64 W, .int .i64 H, .slice a n c] 24) := km
  go_enter Try.func70, Try.ntmps70
  go_wp2
  go_loopw [5, 7, 15] (fun s5 _ s15 wr => ∃ j : Nat, j ≤ nz ∧ s15 = .int .i64 j ∧ s5 = .int .i64 (D j) ∧ Blk wr w.heap.size #[.int .i64 px, .int .i64 py] 83 ∧ Below w.heap.size w wr) (fun _ _ s15 _ => nz - (intOf s15).toNat)
  case atStart => exact ⟨0, Nat.zero_le _, rfl, by rw [HD0.out], by (repeat' (first | (with_reducible assumption) | ((with_reducible refine Blk.new ?_); first | rfl | (simp; done)) | (with_reducible refine Blk.later (by assumption) ?_) | (with_reducible refine Blk.alloc ?_) | (with_reducible refine Blk.drewN ?_) | (with_reducible refine Blk.drew ?_) | (with_reducible refine Blk.other ?_ (by first | omega | (simp; done) | (simp; omega))))), by (repeat' (first | (with_reducible exact Below.refl _ _) | (with_reducible assumption) | (with_reducible refine belowThru ?_ (by assumption)) | (with_reducible refine belowAlloc ?_) | (with_reducible refine Below.setCell ?_ (by first | omega | (simp; done) | (simp; omega)) _) | (with_reducible refine Below.drew ?_) | (with_reducible refine below_drewN ?_ _)))⟩
  case round =>
    obtain ⟨j, hj, rfl, rfl, k0, hB⟩ := hrel
    clear am bm az' bz' km kz
    obtain ⟨a0, b0⟩ := k0.read
    have y0 := k0.lt
    have hdb := HB.out j
    by_cases hlt : j < nz
    · have i9 : (j : Int) < (nz : Int) := by omega
      have i0 : (0 : Int) ≤ (j : Int) := by omega
      obtain ⟨qx, qy, hq, hqb⟩ := HQ.out j hlt
      have HS := Lib.hid (HDS.out j qx qy hq)
      obtain ⟨g, rfl, c0, c1⟩ := HR.out.later hB j (by rw [HN.out]; exact hlt)
      rw [hq] at c0 c1
      have HC := Lib.hid (steps_any px py qx qy HP.out hqb)
      have hsb : 0 ≤ stepD px py qx qy ∧ stepD px py qx qy ≤ 128 := by have := HP.out; unfold stepD; omega
      obtain ⟨u, hu⟩ : ∃ u, D j = u := ⟨_, rfl⟩
      obtain ⟨t, ht⟩ : ∃ t, stepD px py qx qy = t := ⟨_, rfl⟩
      rw [hu] at hdb HS ⊢
      rw [ht] at hsb HS
      rw [show max (px - qx) (qx - px) + max (py - qy) (qy - py) = t from ht] at HC
      clear hq hqb hu ht
      go_wp2_with (go_at_call 71; (with_reducible refine (HC.out _).mono ?_); rintro e w5 ⟨rfl, hb⟩; (try (have zk := k0.lt; (first | ((with_reducible refine Blk.keepG hb k0 (fun h => ?_) ?_); (focus ((repeat' (first | (with_reducible assumption) | ((with_reducible refine Blk.new ?_); first | rfl | (simp; done)) | (with_reducible refine Blk.later (by assumption) ?_) | (with_reducible refine Blk.alloc ?_) | (with_reducible refine Blk.drewN ?_) | (with_reducible refine Blk.drew ?_) | (with_reducible refine Blk.other ?_ (by first | omega | (simp; done) | (simp; omega))))); done)); clear k0; intro k0) | (with_reducible replace k0 := Blk.later hb (Blk.set (Blk.set k0))) | (with_reducible replace k0 := Blk.later hb (Blk.set k0))); clear a0 b0; obtain ⟨a0, b0⟩ := k0.read; have zl := k0.lt)))
      all_goals
        go_roundw
        case rel => exact ⟨j + 1, hlt, by go_num, by rw [HS.out]; congr 1; omega, by (repeat' (first | (with_reducible assumption) | ((with_reducible refine Blk.new ?_); first | rfl | (simp; done)) | (with_reducible refine Blk.later (by assumption) ?_) | (with_reducible refine Blk.alloc ?_) | (with_reducible refine Blk.drewN ?_) | (with_reducible refine Blk.drew ?_) | (with_reducible refine Blk.other ?_ (by first | omega | (simp; done) | (simp; omega))))), by (repeat' (first | (with_reducible exact Below.refl _ _) | (with_reducible assumption) | (with_reducible refine belowThru ?_ (by assumption)) | (with_reducible refine belowAlloc ?_) | (with_reducible refine Below.setCell ?_ (by first | omega | (simp; done) | (simp; omega)) _) | (with_reducible refine Below.drew ?_) | (with_reducible refine below_drewN ?_ _)))⟩
        case measure => simp [intOf]; omega
    · have hje : j = nz := by omega
      rw [hje]
      go_wp2
      go_ret
      exact ⟨rfl, by (repeat' (first | (with_reducible exact Below.refl _ _) | (with_reducible assumption) | (with_reducible refine belowThru ?_ (by assumption)) | (with_reducible refine belowAlloc ?_) | (with_reducible refine Below.setCell ?_ (by first | omega | (simp; done) | (simp; omega)) _) | (with_reducible refine Below.drew ?_) | (with_reducible refine below_drewN ?_ _)))⟩
end Go.Proofs.Ytghmjdmiaajbnaa
/-
  Layer 2: the statements' own images of rows.
-/
namespace Go.Proofs.Ytghmjdmiaajbnaa
open Go.RowKit
set_option linter.unusedVariables false
set_option linter.unusedSimpArgs false

/-- Lists in blocks, and a block of them. -/
def rws (rs : List (Nat × List Int)) : Array Value := (rs.map fun r => Value.slice (some ⟨r.1, 0, none⟩) r.2.length r.2.length).toArray
def Rws (w : World) (B : Nat) (rs : List (Nat × List Int)) : Prop := Blk w B (rws rs) 22 ∧ ∀ r ∈ rs, Blk w r.1 (ints r.2) 3
def flat (rs : List (Nat × List Int)) : List Int := (rs.map (·.2)).flatten
theorem Rws.later {w w' : World} (hb : Below w.heap.size w w') {B : Nat} {rs : List (Nat × List Int)} (h : Rws w B rs) : Rws w' B rs := ⟨Blk.later hb h.1, fun r hr => Blk.later hb (h.2 r hr)⟩
theorem rws_get (rs : List (Nat × List Int)) {i : Nat} {r : Nat × List Int} (h : rs[i]? = some r) : (rws rs)[i]? = some (.slice (some ⟨r.1, 0, none⟩) r.2.length r.2.length) := by unfold rws; simp [h]
theorem flat_succ (rs : List (Nat × List Int)) {i : Nat} {r : Nat × List Int} (h : rs[i]? = some r) : flat (rs.take (i + 1)) = flat (rs.take i) ++ r.2 := by
  unfold flat
  rw [List.take_add_one, h]; simp
theorem flat_len (rs : List (Nat × List Int)) (hl : ∀ r ∈ rs, r.2.length ≤ 16) : (flat rs).length ≤ rs.length * 16 := by
  unfold flat
  induction rs with
  | nil => simp
  | cons r rs ih =>
    have h1 := hl r (by simp)
    have h2 := ih (fun r hr => hl r (by simp [hr]))
    simp only [List.map_cons, List.flatten_cons, List.length_append, List.length_cons, Nat.add_one_mul] at *
    omega
theorem ints_cells {w : World} {g : Nat} {zs : List Int} (h : Blk w g (ints zs) 3) : ∀ j u, (iv zs)[j]? = some u → w.cell? ((⟨g, 0, none⟩ : Addr).add j) = some u := by
  intro j u hj
  rw [add_pl, h.cells, Nat.zero_add, ints_get]
  rw [iv] at hj
  simpa using hj

theorem ownsRow_form {w : World} {base e size : Nat} {v : Value} {n : Nat} {xs : List Value} (h : w.ownsRow base e size v n xs) : ∃ a c, v = .slice a n c := by
  rcases h.2 with ⟨rfl, h0⟩ | ⟨g, cap, cur, rfl, -⟩
  · exact ⟨none, 0, by rw [h0]⟩
  · exact ⟨_, _, rfl⟩
set_option maxRecDepth 100000 in
set_option maxHeartbeats 4000000 in
theorem rows_any (B k : Nat) (rs : List (Nat × List Int)) (r0 : Nat × List Int) (h0 : rs[0]? = some r0) (hk : rs.length = k) (hk16 : k ≤ 16) (hl : ∀ r ∈ rs, r.2.length ≤ 16) (w : World) (hR : Rws w B rs) :
    Calls Try.prog 16 #[.slice (some ⟨B, 0, none⟩) k k] w fun e w' => ∃ (a : Option Addr) (c : Nat), e = .returned (.agg #[.int .i64 (r0.2.length : Nat), .int .i64 (k : Nat), .slice a (flat rs).length c]) ∧ Row w' a (flat rs).length (iv (flat rs)) ∧ Below w.heap.size w w' := by
  have hk0 : 0 < k := by
    rcases Nat.eq_zero_or_pos k with e | e
    · rw [← hk] at e; rw [List.eq_nil_of_length_eq_zero e] at h0; cases h0
    · exact e
  have kc : (0 : Int) < (k : Int) := by omega
  have hg0 := rws_get rs h0
  have hB := hR.1
  have hBl := hB.lt
  obtain ⟨aB, bB⟩ := hB.read
  have HR := Lib.hid hR
  have HG : Hid (∀ i, i < k → ∃ r, rs[i]? = some r ∧ r ∈ rs) := fun i hi => ⟨rs[i]'(by omega), List.getElem?_eq_getElem (by omega), List.getElem_mem _⟩
  have HL := Lib.hid hl
  have HFL : Hid (∀ i, (flat (rs.take i)).length ≤ 256) := fun i => by
    have h1 := flat_len (rs.take i) (fun r hr => hl r (List.mem_of_mem_take hr))
    rw [List.length_take] at h1
    omega
  have HK := Lib.hid hk
  obtain ⟨l0, hl0⟩ : ∃ l0, r0.2.length = l0 := ⟨_, rfl⟩
  rw [hl0] at hg0 ⊢
  clear hl hk h0 hl0 hR
  go_enter Try.func16, Try.ntmps16
  go_wp2
  go_loopw [4] (fun s4 wr => ∃ i : Nat, i ≤ k ∧ s4 = .int .i64 i ∧ Blk wr w.heap.size #[.int .i64 0, .int .i64 0, .slice none 0 0] 24 ∧ (∃ v, Blk wr (w.heap.size + 1) #[.int .i64 l0, .int .i64 k, v] 24 ∧ wr.ownsRow (w.heap.size + 1 + 1) 3 1 v (flat (rs.take i)).length (iv (flat (rs.take i)))) ∧ Below w.heap.size w wr) (fun s4 _ => k - (intOf s4).toNat)
  case atStart => exact ⟨0, Nat.zero_le _, rfl, by (repeat' (first | (with_reducible assumption) | ((with_reducible refine Blk.new ?_); first | rfl | (simp; done)) | (with_reducible refine Blk.later (by assumption) ?_) | (with_reducible refine Blk.alloc ?_) | (with_reducible refine Blk.drewN ?_) | (with_reducible refine Blk.drew ?_) | (with_reducible refine Blk.other ?_ (by first | omega | (simp; done) | (simp; omega))))), ⟨.slice none 0 0, by first | exact Blk.set (Blk.set (Blk.set (Blk.new (by simp)))) | ((repeat' (first | (with_reducible assumption) | ((with_reducible refine Blk.new ?_); first | rfl | (simp; done)) | (with_reducible refine Blk.later (by assumption) ?_) | (with_reducible refine Blk.alloc ?_) | (with_reducible refine Blk.drewN ?_) | (with_reducible refine Blk.drew ?_) | (with_reducible refine Blk.other ?_ (by first | omega | (simp; done) | (simp; omega)))))), World.ownsRow_nil _ _ _ _⟩, by (repeat' (first | (with_reducible exact Below.refl _ _) | (with_reducible assumption) | (with_reducible refine belowThru ?_ (by assumption)) | (with_reducible refine belowAlloc ?_) | (with_reducible refine Below.setCell ?_ (by first | omega | (simp; done) | (simp; omega)) _) | (with_reducible refine Below.drew ?_) | (with_reducible refine below_drewN ?_ _)))⟩
  case round =>
    clear aB bB
    obtain ⟨i, hi, rfl, k0, ⟨v, k1, hO⟩, hBw⟩ := hrel
    obtain ⟨a0, b0⟩ := k0.read; obtain ⟨a1, b1⟩ := k1.read
    have y0 := k0.lt; have y1 := k1.lt
    have HO := Lib.hid hO
    clear hO
    by_cases hlt : i < k
    · have i9 : (i : Int) < (k : Int) := by omega
      have i0 : (0 : Int) ≤ (i : Int) := by omega
      obtain ⟨r, hr, hrm⟩ := HG.out i hlt
      have hgi := rws_get rs hr
      have HRM := Lib.hid hrm
      have HRI := Lib.hid hr
      clear hr hrm
      have hBr := Blk.later hBw (HR.out.1)
      go_wp2_with fail
      refine wp_region_held_drew (S := fun w' => (Blk w' B (rws rs) 22 ∧ (∀ i : Nat, w'.cell? ⟨B, i, none⟩ = (rws rs)[i]?)) ∧ Below w.heap.size w w') (by kernel_rfl) ⟨hBr.drew.full, hBw.drew⟩ (fun hHeld => ?_)
      refine wpAnyH_take (i := 0) (v := ?_) rfl (by kernel_rfl) (by kernel_rfl) (by kernel_rfl) (fun _ _ _ h => h) (Or.inl ⟨by rfl, ?hT0⟩) (by assumption) ?_
      case hT0 => ((intro w hSw; (try dsimp only at hSw); go_simp); try (with_reducible rfl))
      try simp only [Act.put, List.setIfInBounds_toArray, List.set_cons_zero, List.set_cons_succ]
      refine wpAnyH_take (i := 2) (v := ?_) rfl (by kernel_rfl) (by kernel_rfl) (by kernel_rfl) (fun _ _ _ h => h) (Or.inl ⟨by rfl, ?hT1⟩) (by assumption) ?_
      case hT1 => ((intro w hSw; (try dsimp only at hSw); go_simp); try (with_reducible rfl))
      try simp only [Act.put, List.setIfInBounds_toArray, List.set_cons_zero, List.set_cons_succ]
      refine wpAnyH_take (i := 3) (v := ?_) rfl (by kernel_rfl) (by kernel_rfl) (by kernel_rfl) (fun _ _ _ h => h) (Or.inl ⟨by rfl, ?hT2⟩) (by assumption) ?_
      case hT2 => ((intro w hSw; (try dsimp only at hSw); go_simp); try (with_reducible rfl))
      try simp only [Act.put, List.setIfInBounds_toArray, List.set_cons_zero, List.set_cons_succ]
      refine wpAnyH_take (i := 4) (v := ?_) rfl (by kernel_rfl) (by kernel_rfl) (by kernel_rfl) (fun _ _ _ h => h) (Or.inl ⟨by rfl, ?hT3⟩) (by assumption) ?_
      case hT3 => ((intro w hSw; (try dsimp only at hSw); go_simp); try (with_reducible rfl))
      try simp only [Act.put, List.setIfInBounds_toArray, List.set_cons_zero, List.set_cons_succ]
      refine wpAnyH_take (i := 5) (v := ?_) rfl (by kernel_rfl) (by kernel_rfl) (by kernel_rfl) (fun _ _ _ h => h) (Or.inl ⟨by rfl, ?hT4⟩) (by assumption) ?_
      case hT4 => ((intro w hSw; (try dsimp only at hSw); go_simp); try (with_reducible rfl))
      try simp only [Act.put, List.setIfInBounds_toArray, List.set_cons_zero, List.set_cons_succ]
      refine wpAnyH_ready (rs := [1]) (by kernel_rfl) (by simp) ?_
      refine AllReadyH.cons rfl (fun K hK => ?_) AllReadyH.nil
      go_simp
      refine hK.out _ _ ?_ (fun hHeldN => ?_)
      · (try dsimp only); (((first | (apply hold1; (focus assumption); intro p0 pB) | skip); refine ⟨Blk.full ?_, ?_⟩; all_goals (first | ((repeat' (first | (with_reducible assumption) | ((with_reducible refine Blk.new ?_); first | rfl | (simp; done)) | (with_reducible refine Blk.later (by assumption) ?_) | (with_reducible refine Blk.alloc ?_) | (with_reducible refine Blk.drewN ?_) | (with_reducible refine Blk.drew ?_) | (with_reducible refine Blk.other ?_ (by first | omega | (simp; done) | (simp; omega))))); done) | ((repeat' (first | (with_reducible exact Below.refl _ _) | (with_reducible assumption) | (with_reducible refine belowThru ?_ (by assumption)) | (with_reducible refine belowAlloc ?_) | (with_reducible refine Below.setCell ?_ (by first | omega | (simp; done) | (simp; omega)) _) | (with_reducible refine Below.drew ?_) | (with_reducible refine below_drewN ?_ _))); done))))
      clear hK K hHeld
      have hHeld := hHeldN
      clear hHeldN
      try simp only [Act.put, List.setIfInBounds_toArray, List.set_cons_zero, List.set_cons_succ]
      refine wpAnyH_ready (rs := [6]) (by kernel_rfl) (by simp) ?_
      refine AllReadyH.cons rfl (fun K hK => ?_) AllReadyH.nil
      obtain ⟨inf, hf0, hf1, hf2, hf3⟩ := info_parts info_tin
      refine wp_append_own _ (.tmp 19) (.tmp 23) 22 rfl (w.heap.size + 1 + 1) 3 inf (.int .i64 0) 1 8 Try.underlying22 hf0 hf1 hf2 hf3 rfl (by omega) v _ _ rfl HO.out ⟨r.1, 0, none⟩ r.2.length r.2.length (iv r.2) rfl (by rw [iv_length]; omega) (ints_cells (Blk.later hBw.drew (HR.out.2 r HRM.out))) (oneCell_iv _) ?h63 ?hby ?hbs ?hrest
      case hbs => simp only [World.size_drew]; omega
      case h63 => have h1 := HFL.out i; have h2 := HL.out r HRM.out; unfold maxLen; omega
      case hby => have h1 := HFL.out i; have h2 := HL.out r HRM.out; omega
      case hrest =>
        intro v2 w2 hO2 hg hnil
        obtain ⟨av, cv, rfl⟩ := ownsRow_form hO2
        have hlv : ∀ g, v.ownBlock = some g → w.heap.size + 1 + 1 ≤ g := fun g e => (HO.out.lt g e).1
        have hB2 : Below w.heap.size w w2 := hBw.drew.grown hg hBw.size (fun g e => by have := hlv g e; omega)
        have k0' := Blk.but hg (fun g e => by have := hlv g e; omega) k0.drew
        have k1' := Blk.but hg (fun g e => by have := hlv g e; omega) k1.drew
        obtain ⟨a1', b1'⟩ := k1'.read
        refine hK.out _ _ ⟨(Blk.later hB2 HR.out.1).full, hB2⟩ (fun hHeldN => ?_)
        clear hK K hHeld
        have hHeld := hHeldN
        clear hHeldN
        try simp only [Act.put, List.setIfInBounds_toArray, List.set_cons_zero, List.set_cons_succ]
        refine wpAnyH_take (i := 7) (v := ?_) rfl (by kernel_rfl) (by kernel_rfl) (by kernel_rfl) (fun _ _ _ h => h) (Or.inl ⟨by rfl, ?hT5⟩) (by assumption) ?_
        case hT5 => ((intro w hSw; (try dsimp only at hSw); go_simp); try (with_reducible rfl))
        try simp only [Act.put, List.setIfInBounds_toArray, List.set_cons_zero, List.set_cons_succ]
        refine wpAnyH_ready (rs := [8]) (by kernel_rfl) (by simp) ?_
        refine AllReadyH.cons rfl (fun K hK => ?_) AllReadyH.nil
        go_simp
        refine hK.out _ _ ?_ (fun hHeldN => ?_)
        · (try dsimp only); (((first | (apply hold1; (focus assumption); intro p0 pB) | skip); refine ⟨Blk.full ?_, ?_⟩; all_goals (first | ((repeat' (first | (with_reducible assumption) | ((with_reducible refine Blk.new ?_); first | rfl | (simp; done)) | (with_reducible refine Blk.later (by assumption) ?_) | (with_reducible refine Blk.alloc ?_) | (with_reducible refine Blk.drewN ?_) | (with_reducible refine Blk.drew ?_) | (with_reducible refine Blk.other ?_ (by first | omega | (simp; done) | (simp; omega))))); done) | ((repeat' (first | (with_reducible exact Below.refl _ _) | (with_reducible assumption) | (with_reducible refine belowThru ?_ (by assumption)) | (with_reducible refine belowAlloc ?_) | (with_reducible refine Below.setCell ?_ (by first | omega | (simp; done) | (simp; omega)) _) | (with_reducible refine Below.drew ?_) | (with_reducible refine below_drewN ?_ _))); done))))
        clear hK K hHeld
        have hHeld := hHeldN
        clear hHeldN
        try simp only [Act.put, List.setIfInBounds_toArray, List.set_cons_zero, List.set_cons_succ]
        refine wpAnyH_done (by kernel_rfl) ?_ _
        obtain ⟨-, pB⟩ := hHeld
        have hO3 : (w2.setCell ⟨w.heap.size + 1, 2, none⟩ (.slice av ((flat (rs.take i)).length + r.2.length) cv)).ownsRow (w.heap.size + 1 + 1) 3 1 (.slice av ((flat (rs.take i)).length + r.2.length) cv) (flat (rs.take (i + 1))).length (iv (flat (rs.take (i + 1)))) := by
          rw [flat_succ rs HRI.out, List.length_append, show iv (flat (rs.take i) ++ r.2) = iv (flat (rs.take i)) ++ iv r.2 by simp [iv]]
          exact hO2.kept (grownBy_set ⟨rfl, rfl, rfl, Nat.le_refl _, fun _ _ _ => rfl⟩ _ _) (.inr (fun e => by have := (hO2.lt _ e).1; omega))
        go_wp2
        go_roundw
        case rel => exact ⟨i + 1, hlt, by go_num, Blk.other k0' (by simp), ⟨_, Blk.set k1', hO3⟩, pB⟩
        case measure => simp [intOf]; omega
    · have hie : i = k := by omega
      subst hie
      rw [List.take_of_length_le (Nat.le_of_eq HK.out)] at HO
      obtain ⟨a, c, rfl, hrow⟩ := ownsRow_row HO.out
      have hp : ∀ ad : Addr, a = some ad → w.heap.size ≠ ad.block := by
        rintro ad rfl
        have := (HO.out.lt ad.block rfl).1
        omega
      have HRow := Lib.hid hrow
      have HP := Lib.hid hp
      clear hrow hp
      go_wp2
      exact bodyPost_ret (v := .agg #[.int .i64 l0, .int .i64 i, .slice a (flat rs).length c]) (by simp only [results, Try.results16]; go_simp) rfl ⟨a, c, rfl, ((HRow.out.set HP.out).set HP.out).set HP.out, by (repeat' (first | (with_reducible exact Below.refl _ _) | (with_reducible assumption) | (with_reducible refine belowThru ?_ (by assumption)) | (with_reducible refine belowAlloc ?_) | (with_reducible refine Below.setCell ?_ (by first | omega | (simp; done) | (simp; omega)) _) | (with_reducible refine Below.drew ?_) | (with_reducible refine below_drewN ?_ _)))⟩
end Go.Proofs.Ytghmjdmiaajbnaa
/-
  Layer 2: the distances to the nearest pixel with the value 0, by the code.
-/
namespace Go.Proofs.Ytghmjdmiaajbnaa
open Go.RowKit Go.Shelf
set_option linter.unusedVariables false
set_option linter.unusedSimpArgs false

attribute [local go_sem] Oper.semAt_some

/-- The cells of some places. -/
def pcs (ks : List (Int × Int)) : List Value := ks.flatMap fun p => [.int .i64 p.1, .int .i64 p.2]
theorem pcs_snoc (ks : List (Int × Int)) (p : Int × Int) : pcs (ks ++ [p]) = pcs ks ++ [.int .i64 p.1, .int .i64 p.2] := by
  unfold pcs; rw [List.flatMap_append]; rfl
theorem pcs_get (ks : List (Int × Int)) (j : Nat) (h : j < ks.length) : (pcs ks)[j * 2]? = some (.int .i64 (ks[j]?.getD (0, 0)).1) ∧ (pcs ks)[j * 2 + 1]? = some (.int .i64 (ks[j]?.getD (0, 0)).2) := by
  induction ks generalizing j with
  | nil => cases h
  | cons p ks ih =>
    have e : pcs (p :: ks) = .int .i64 p.1 :: .int .i64 p.2 :: pcs ks := rfl
    rw [e]
    cases j with
    | zero => exact ⟨rfl, rfl⟩
    | succ j =>
      have h' := ih j (by simpa using h)
      rw [show (j + 1) * 2 = j * 2 + 1 + 1 by omega]
      exact ⟨by simpa using h'.1, by simpa using h'.2⟩
theorem cell_two_pl (w : World) (x y : Value) (t : TypeId) : ∀ j u, [x, y][j]? = some u → (w.alloc (.cells #[x, y] t)).cell? ((⟨w.heap.size, 0, none⟩ : Addr).add j) = some u := by
  intro j u hj
  rw [add_pl]
  have hk : Blk (w.alloc (.cells #[x, y] t)) w.heap.size #[x, y] t := Blk.new rfl
  rw [hk.cells, Nat.zero_add]
  simpa using hj
theorem info_place : (Try.prog.info? 83).map (fun i => (i.zero, i.size, i.bytes)) = some (some (.agg #[.int .i64 0, .int .i64 0]), 2, 16) := by kernel_rfl
theorem ownsRow_prow {w : World} {base : Nat} {v : Value} {ks : List (Int × Int)} (h : w.ownsRow base 83 2 v ks.length (pcs ks)) : ∃ a c, v = .slice a ks.length c ∧ PRow w a ks := by
  rcases h.2 with ⟨rfl, h0⟩ | ⟨g, cap, cur, rfl, hb, hh, hnc, _, hcs, ht⟩
  · exact ⟨none, 0, by rw [h0], fun j hj => absurd hj (by omega)⟩
  · refine ⟨_, _, rfl, fun j hj => ⟨g, rfl, ?_⟩⟩
    have hk := pcs_get ks j hj
    rw [← ht, List.getElem?_take_of_lt (by omega), List.getElem?_take_of_lt (by omega), Array.getElem?_toList, Array.getElem?_toList] at hk
    exact ⟨by simpa [World.cell?, hh] using hk.1, by simpa [World.cell?, hh] using hk.2⟩
/-- The pixels with the value 0 of those that have come, and of the first k. -/
def zeL (W : Int) (zs : List Int) (l : List Nat) : List (Int × Int) := (l.filter (fun i => zs[i]?.getD 0 == 0)).map fun (k : Nat) => ((k : Int) % W, (k : Int) / W)
theorem zeL_snoc (W : Int) (zs : List Int) (l : List Nat) (k : Nat) : zeL W zs (l ++ [k]) = if zs[k]?.getD 0 = 0 then zeL W zs l ++ [((k : Int) % W, (k : Int) / W)] else zeL W zs l := by
  unfold zeL
  rw [List.filter_append, List.map_append]
  by_cases h : zs[k]?.getD 0 = 0
  · rw [if_pos h]; simp [List.filter_cons, h]
  · rw [if_neg h]; simp [List.filter_cons, h]
theorem zeL_length (W : Int) (zs : List Int) (l : List Nat) : (zeL W zs l).length ≤ l.length := by
  unfold zeL; rw [List.length_map]; exact List.length_filter_le _ _
def ixs {N : Nat} {R : Nat → Int → Prop} (pre : List (Pel N R)) : List Nat := pre.map fun x => x.1.1
theorem alloc2d (w : World) (c0 : Array Value) (t0 : TypeId) (c1 : Array Value) (t1 : TypeId) :
    ∃ W0, (w.alloc (.cells c0 t0)).alloc (.cells c1 t1) = W0 ∧ Blk W0 w.heap.size c0 t0 ∧ Blk W0 (w.heap.size + 1) c1 t1 ∧ Below w.heap.size w W0 ∧ W0.heap.size = w.heap.size + 1 + 1 :=
  ⟨_, rfl, Blk.alloc (Blk.new rfl), Blk.new (by simp), by (repeat' (first | (with_reducible exact Below.refl _ _) | (with_reducible assumption) | (with_reducible refine belowThru ?_ (by assumption)) | (with_reducible refine belowAlloc ?_) | (with_reducible refine Below.setCell ?_ (by first | omega | (simp; done) | (simp; omega)) _) | (with_reducible refine Below.drew ?_) | (with_reducible refine below_drewN ?_ _))), by simp⟩
theorem ownsRow_own {X Y : World} {base e size : Nat} {v : Value} {n : Nat} {xs : List Value} {row : Option Nat} (h : X.ownsRow base e size v n xs) (hg : X.grownBy Y row) (hr : ∀ r, row = some r → ∃ o : Obj, X.heap[r]? = some o ∧ o.isCells = false) : Y.ownsRow base e size v n xs := by
  refine h.kept hg ?_
  rcases h.2 with ⟨rfl, -⟩ | ⟨g, cap, cur, rfl, -, hh, -⟩
  · exact .inl rfl
  · right
    intro e2
    obtain ⟨o, ho, hc⟩ := hr g e2.symm
    rw [hh] at ho
    cases ho
    cases hc
theorem KeepsFrom.grown {B base e size : Nat} {X Y : World} {v : Value} {n : Nat} {xs : List Value} (hg : X.grownBy Y v.ownBlock) (h : X.ownsRow base e size v n xs) : KeepsFrom B X Y :=
  ⟨hg.size, fun k o _ hk hnc => (hg.block k (Array.getElem?_eq_some_iff.1 hk).1 (fun e2 => by
    rcases h.2 with ⟨rfl, -⟩ | ⟨g, cap, cur, rfl, -, hh, -⟩
    · cases e2
    · have e3 : k = g := Option.some.inj e2
      subst e3
      rw [hh] at hk
      cases hk
      cases hnc)).trans hk⟩
theorem PixG.grown {Bm b off len c : Nat} {Wd Hd : Int} {R : Nat → Int → Prop} {X Y : World} {row : Option Nat} (hg : X.grownBy Y row) (h1 : ∀ g, row = some g → Bm ≠ g) (h2 : ∀ g, row = some g → b ≠ g) (hlt : Bm < X.heap.size) (hlt2 : b < X.heap.size) (h : PixG Bm b off len c Wd Hd R X) : PixG Bm b off len c Wd Hd R Y := by
  obtain ⟨g0, g1, g2, g3⟩ := h
  have k1 : ∀ o, Y.cell? ⟨Bm, o, none⟩ = X.cell? ⟨Bm, o, none⟩ := fun o => World.cell?_of_block (hg.block Bm hlt (fun e => h1 Bm e.symm rfl))
  have k2 : ∀ o, Y.cell? ⟨b, o, none⟩ = X.cell? ⟨b, o, none⟩ := fun o => World.cell?_of_block (hg.block b hlt2 (fun e => h2 b e.symm rfl))
  exact ⟨(k1 _).trans g0, (k1 _).trans g1, (k1 _).trans g2, fun j hj => by obtain ⟨z, hz, cz⟩ := g3 j hj; exact ⟨z, hz, (k2 _).trans cz⟩⟩

set_option maxRecDepth 100000 in
set_option maxHeartbeats 8000000 in
theorem dist_in (n : Nat) (hn : 3 ≤ n) (W H : Int) (bb off m c : Nat) (zs : List Int) (hI : okI W H zs) (hm : zs.length = m)
    (w : World) (hbb : bb < w.heap.size) (hR : ∀ j, j < m → ∃ z, ValR zs j z ∧ w.cell? ⟨bb, off + j, none⟩ = some (.int .i64 z))
    (HK : Hid (∀ w1, Below w.heap.size w w1 → Calls Try.prog 51 #[.agg #[.int .i64 W, .int .i64 H, .slice (some ⟨bb, off, none⟩) m c]] w1 fun e w' => e = .returned (.int .i64 0) ∧ Below w1.heap.size w1 w')) :
    CallsIn Fence.wide n Try.prog 26 #[.agg #[.int .i64 W, .int .i64 H, .slice (some ⟨bb, off, none⟩) m c]] w fun e w' => ∃ g, e = .returned (.tuple #[.agg #[.int .i64 W, .int .i64 H, .slice (some ⟨g, 0, none⟩) m m], .int .i64 0]) ∧ w.heap.size ≤ g ∧ Blk w' g (ints ((List.range m).map fun (k : Nat) => inR (disN ((k : Int) % W) ((k : Int) / W) (W + H) (zeL W zs (List.range m)) (zeL W zs (List.range m)).length) (-2147483648) 2147483648)) 3 ∧ Below w.heap.size w w' := by
  have HI := Lib.hid hI
  obtain ⟨⟨⟨w0, w1⟩, h0, h1⟩, hL, -⟩ := hI
  have hmul := okS_mul ⟨w0, w1⟩ ⟨h0, h1⟩
  have m1 : 1 ≤ m := by omega
  have m2 : m ≤ 256 := by omega
  have HR := Lib.hid hR
  have HWH : Hid (W * H = (m : Int)) := by show _ = _; omega
  obtain ⟨inf, hf0, hf1, hf2, hf3⟩ := info_parts info_place
  clear hR hL hmul hm
  refine callsIn_of_wp_marks Try.func26 rfl trivial ?_ rfl
  simp only [Try.ntmps26, List.size_toArray, List.length_cons, List.length_nil, Nat.reduceAdd, Nat.reduceSub, Array.replicate_succ, Array.replicate_zero, List.push_toArray, List.append_toArray, List.nil_append, List.cons_append]
  have n1 : 1 ≤ n := by omega
  have n2 : 1 ≤ n - 1 - 1 := by omega
  have hmx : Try.prog.follows .mixedOrders = true := by kernel_rfl
  gi_wp2_with (first
    | ((try (refine ⟨trivial, ?_⟩)); gi_at_call 51; refine (callsIn_wide.2 (HK.out _ (by (repeat' (first | (with_reducible exact Below.refl _ _) | (with_reducible assumption) | (with_reducible refine belowThru ?_ (by assumption)) | (with_reducible refine belowAlloc ?_) | (with_reducible refine Below.setCell ?_ (by first | omega | (simp; done) | (simp; omega)) _) | (with_reducible refine Below.drew ?_) | (with_reducible refine below_drewN ?_ _)))))).mono ?_; rintro e wA ⟨rfl, hbA⟩; have km : Blk wA w.heap.size #[.int .i64 W, .int .i64 H, .slice (some ⟨bb, off, none⟩) m c] 24 := Blk.later hbA (Blk.alloc (Blk.new rfl)); have kZ : Blk wA (w.heap.size + 1) #[.int .i64 0, .int .i64 0, .slice none 0 0] 24 := Blk.later hbA (Blk.new (by simp)); obtain ⟨am, bm⟩ := km.read; obtain ⟨aZ, bZ⟩ := kZ.read; have zZ := kZ.lt; have zM := km.lt; have hBA : Below w.heap.size w wA := (by (repeat' (first | (with_reducible exact Below.refl _ _) | (with_reducible assumption) | (with_reducible refine belowThru ?_ (by assumption)) | (with_reducible refine belowAlloc ?_) | (with_reducible refine Below.setCell ?_ (by first | omega | (simp; done) | (simp; omega)) _) | (with_reducible refine Below.drew ?_) | (with_reducible refine below_drewN ?_ _)))))
    | ((try (refine ⟨trivial, ?_⟩)); gi_at_call 69; refine (callsIn_wide.2 (pixels_any _ _ _ _ _ _)).mono ?_; rintro e w' ⟨rfl, rfl⟩))
  clear am bm aZ bZ
  obtain ⟨W0, hW0, kN, kP, hB9, hsz⟩ := alloc2d wA #[.slice none 0 0] 101 #[.int .i64 W, .int .i64 H, .slice (some ⟨bb, off, none⟩) m c] 86
  rw [hW0]
  have km0 := Blk.later hB9 km
  have kZ0 := Blk.later hB9 kZ
  have hB0 : Below w.heap.size w W0 := hBA.trans (hB9.mono hBA.size)
  clear hW0
  have hG0 : PixG (wA.heap.size + 1) bb off m c W H (ValR zs) W0 :=
    ⟨kP.cells 0, kP.cells 1, kP.cells 2, fun j hj => by obtain ⟨z, hz, hc⟩ := HR.out j hj; exact ⟨z, hz, cell_later hB0 hc⟩⟩
  refine wpIn_rangeFunc_ownH rfl n1 (gf := 110) (lb := #[.pointer (some ⟨wA.heap.size + 1, 0, none⟩)]) rfl trivial (enters_of Try.func110 (by kernel_rfl) rfl)
    (pix_stops (n - 1) (wA.heap.size + 1) bb off m c W H (ValR zs) (by omega) w0 (by omega) W0 (by omega) (by omega) hG0)
    (fun hAB hBC hA => hBC (hAB hA))
    (fun W1 l o o' hl ho hc _ hG => PixG.putObj hG ho hc)
    (Below.refl _ _) (fun _ => rfl)
    (fun pre W1 => (∃ v, Blk W1 wA.heap.size #[v] 101 ∧ W1.ownsRow W0.heap.size 83 2 v (zeL W zs (ixs pre)).length (pcs (zeL W zs (ixs pre)))) ∧ (Blk W1 w.heap.size #[.int .i64 W, .int .i64 H, .slice (some ⟨bb, off, none⟩) m c] 24 ∧ Blk W1 (w.heap.size + 1) #[.int .i64 0, .int .i64 0, .slice none 0 0] 24 ∧ Blk W1 (wA.heap.size + 1) #[.int .i64 W, .int .i64 H, .slice (some ⟨bb, off, none⟩) m c] 86) ∧ Below w.heap.size w W1)
    (fun _ _ _ => False)
    (fun s X Y row hs hg hr => by
      obtain ⟨⟨v, kv, ho⟩, ⟨b0, bz, b2⟩, hb⟩ := hs
      have hr' := fun r e => (hr r e).2
      exact ⟨⟨v, kv.own hg hr', ownsRow_own ho hg hr'⟩, ⟨b0.own hg hr', bz.own hg hr', b2.own hg hr'⟩, ownFrom_below (β := Unit) (Nat.le_refl _) hB0.size () X Y row hb hg hr⟩)
    (fun _ _ _ _ _ hs _ _ => hs)
    ⟨⟨_, kN, World.ownsRow_nil _ _ _ _⟩, ⟨km0, kZ0, kP⟩, hB0⟩
    (fun x a' W1 => ∃ Bx, Blk W1 Bx #[.int .i64 ((x.1.1 : Int) % W), .int .i64 ((x.1.1 : Int) / W)] 83 ∧ wA.heap.size + 1 < Bx ∧ a' = { tmps := #[.agg #[.int .i64 W, .int .i64 H, .slice (some ⟨bb, off, none⟩) m c], .pointer (some ⟨w.heap.size, 0, none⟩), .pointer (some ⟨w.heap.size + 1, 0, none⟩), .int .i64 0, .int .i64 0, .pointer (some ⟨wA.heap.size, 0, none⟩), .pointer (some ⟨Bx, 0, none⟩), .int .i64 x.1.2, .agg #[.int .i64 W, .int .i64 H, .slice (some ⟨bb, off, none⟩) m c], .int .i64 0, .int .i64 0, .bool false, undef, undef, .agg #[.int .i64 W, .int .i64 H, .slice (some ⟨bb, off, none⟩) m c], .func (.func 110) #[] #[.pointer (some ⟨wA.heap.size + 1, 0, none⟩)], .agg #[.int .i64 ((x.1.1 : Int) % W), .int .i64 ((x.1.1 : Int) / W)], .int .i64 x.1.2, undef, undef, undef, undef, undef, undef, undef, undef, undef, undef, undef, undef], defers := [] })
    (fun x a' _ X Y row hs hg hr => by obtain ⟨Bx, h1, h2, h3⟩ := hs; exact ⟨Bx, h1.own hg (fun r e => (hr r e).2), h2, h3⟩)
    ?assign ?body ?done ?stop
  case assign =>
    rintro l pre x W1 K ⟨⟨v, kv, ho⟩, ⟨b0, bz, b2⟩, hb⟩ hK
    have hsz1 := b2.lt
    simp only [pxEnc]
    gi_wp2
    exact hK _ _ ((KeepsOthers.alloc _ _).from _) (fun hG => hG.alloc _) ⟨⟨v, kv.alloc, ho.alloc _⟩, ⟨b0.alloc, bz.alloc, b2.alloc⟩, hb.alloc hb.size _⟩ ⟨W1.heap.size, Blk.new rfl, by omega, rfl⟩
  case body =>
    rintro l pre x a' W1 hl _ ⟨⟨v, kv, ho⟩, ⟨k0, kz, k4⟩, hB⟩ ⟨Bx, k2, hx, rfl⟩ hlt
    obtain ⟨⟨k, z⟩, hk, ht⟩ := x
    dsimp only at hk k2 ⊢
    have HZ : Hid (zs[k]?.getD 0 = z) := by show _ = _; rw [ht.1]; rfl
    have hsn : zeL W zs (ixs (pre ++ [⟨(k, z), hk, ht⟩])) = zeL W zs (ixs pre ++ [k]) := by unfold ixs; rw [List.map_append]; rfl
    rw [zeL_snoc, HZ.out] at hsn
    have hlen := zeL_length W zs (ixs pre)
    have hil : (ixs pre).length = pre.length := by unfold ixs; simp
    obtain ⟨av, cv, hv⟩ : ∃ a c, v = .slice a (zeL W zs (ixs pre)).length c := by
      obtain ⟨a, c, e, -⟩ := ownsRow_prow ho
      exact ⟨a, c, e⟩
    obtain ⟨px, hpx⟩ : ∃ px, (k : Int) % W = px := ⟨_, rfl⟩
    obtain ⟨py, hpy⟩ : ∃ py, (k : Int) / W = py := ⟨_, rfl⟩
    rw [hpx, hpy] at hsn k2 ⊢
    obtain ⟨L, hL⟩ : ∃ L, zeL W zs (ixs pre) = L := ⟨_, rfl⟩
    rw [hL] at ho hsn hlen hv
    have HSN := Lib.hid hsn
    have hmB := hB.size
    have hsz1 := k4.lt
    have hkv := kv.lt
    have hk0 := k0.lt
    have hkz := kz.lt
    have hk2 := k2.lt
    have hbase : W0.heap.size ≤ W1.heap.size := by omega
    clear hsn hpx hpy hL hG0 kN kP km0 kZ0 km kZ hB9
    by_cases hz0 : z = 0
    · subst hz0
      have HS2 : Hid (zeL W zs (ixs (pre ++ [⟨(k, 0), hk, ht⟩])) = L ++ [(px, py)]) := HSN.out.trans (if_pos rfl)
      subst hv
      have hlv : ∀ g, (Value.slice av L.length cv).ownBlock = some g → W0.heap.size ≤ g := fun g e => (ho.lt g e).1
      have HO := Lib.hid ho
      have HT := Lib.hid ht
      obtain ⟨a2, b2⟩ := k2.read; obtain ⟨a3, b3⟩ := kv.read
      clear HSN
      gi_wp2_with (gi_at_builtin; refine wpListIn_append_own _ rfl _ _ 101 rfl W0.heap.size 83 inf (.agg #[.int .i64 0, .int .i64 0]) 2 16 Try.underlying101 hf0 hf1 hf2 hf3 rfl (by decide) _ _ _ rfl (HO.out.alloc _) ⟨W1.heap.size, 0, none⟩ 1 1 [.int .i64 px, .int .i64 py] rfl rfl (cell_two_pl W1 (.int .i64 px) (.int .i64 py) 83) (fun u hu => by simp at hu; rcases hu with rfl | rfl <;> rfl) (by unfold maxLen; omega) (by omega) (by simp; omega) ?_; intro v2 w3 hown hgrow hnil; clear hnil; obtain ⟨av2, cv2, rfl⟩ := ownsRow_form hown; have kv3 := Blk.but hgrow (fun g e => by have := hlv g e; omega) (kv.alloc (o := .cells #[.int .i64 px, .int .i64 py] 83)); obtain ⟨a5, b5⟩ := kv3.read; have HW3 := Lib.hid hown; have HG3 := Lib.hid hgrow; clear hown hgrow)
      have hW3 := HW3.out
      have hG3 := HG3.out
      have hOA := HO.out.alloc (.cells #[.int .i64 px, .int .i64 py] 83)
      rw [hsz] at hW3 hOA hlv
      have hK3 : KeepsFrom (wA.heap.size + 1 + 1) W1 w3 := ((KeepsOthers.alloc W1 _).from _).trans (KeepsFrom.grown hG3 hOA)
      have hB3 : Below w.heap.size w w3 := (hB.alloc hB.size _).grown hG3 (by simp; omega) (fun g e => by have := hlv g e; omega)
      have r0 := Blk.but hG3 (fun g e => by have := hlv g e; omega) (k0.alloc (o := .cells #[.int .i64 px, .int .i64 py] 83))
      have rz := Blk.but hG3 (fun g e => by have := hlv g e; omega) (kz.alloc (o := .cells #[.int .i64 px, .int .i64 py] 83))
      have r4 := Blk.but hG3 (fun g e => by have := hlv g e; omega) (k4.alloc (o := .cells #[.int .i64 px, .int .i64 py] 83))
      refine ⟨KeepsFrom.set hK3 _ _, fun hG => ((hG.alloc _).grown hG3 (fun g e => by have := hlv g e; omega) (fun g e => by have := hlv g e; omega) (by simp; omega) (by simp; omega)).set (by omega) (by omega), ⟨⟨_, Blk.set kv3, ?_⟩, ⟨Blk.other r0 (by simp; omega), Blk.other rz (by simp; omega), Blk.other r4 (by simp)⟩, Below.setCell hB3 (by simp; omega) _⟩⟩
      rw [HS2.out, List.length_append, pcs_snoc]
      exact hW3.kept (grownBy_set ⟨rfl, rfl, rfl, Nat.le_refl _, fun _ _ _ => rfl⟩ _ _) (.inr (fun e => by have := (hW3.lt _ e).1; omega))
    · have HS2 : Hid (zeL W zs (ixs (pre ++ [⟨(k, z), hk, ht⟩])) = L) := HSN.out.trans (if_neg hz0)
      have HO := Lib.hid ho
      clear HSN
      gi_wp2
      exact ⟨KeepsFrom.refl _ _, fun h => h, ⟨⟨v, kv, by rw [HS2.out]; exact HO.out⟩, ⟨k0, kz, k4⟩, hB⟩⟩
  case done =>
    rintro D xs W1 hD hall ⟨⟨v, kv, ho⟩, ⟨b0, bz, b2⟩, hb⟩ hK
    obtain ⟨az, cz, rfl, hpr⟩ := ownsRow_prow ho
    rw [show ixs xs = List.range m from hall] at hpr kv
    have hzl := zeL_length W zs (List.range m)
    rw [List.length_range] at hzl
    have HV2 : Hid (∀ k, k < m → ∀ W2, Below W1.heap.size W1 W2 → Calls Try.prog 70 (#[.agg #[.int .i64 ((k : Int) % W), .int .i64 ((k : Int) / W)]] ++ #[.pointer (some ⟨w.heap.size, 0, none⟩), .pointer (some ⟨wA.heap.size, 0, none⟩)]) W2 fun e W3 => e = .returned (.int .i64 (disN ((k : Int) % W) ((k : Int) / W) (W + H) (zeL W zs (List.range m)) (zeL W zs (List.range m)).length)) ∧ Below W2.heap.size W2 W3) := fun k hk W2 hW2 =>
      dist1_any W H _ _ (zeL W zs (List.range m)) (some ⟨bb, off, none⟩) az m c _ cz w.heap.size wA.heap.size ⟨w0, w1⟩ ⟨h0, h1⟩ (place_in (W := W) (H := H) ⟨w0, w1⟩ ⟨h0, h1⟩ HWH.out hk) (fun q hq => by
        unfold zeL at hq
        obtain ⟨i, hi, rfl⟩ := List.mem_map.1 hq
        exact place_in (W := W) (H := H) ⟨w0, w1⟩ ⟨h0, h1⟩ HWH.out (List.mem_range.1 (List.mem_filter.1 hi).1)) rfl (by omega) W2 (hpr.later hW2) (Blk.later hW2 b0) (Blk.later hW2 kv)
    have HBB := Lib.hid (build_any W H m 70 #[.pointer (some ⟨w.heap.size, 0, none⟩), .pointer (some ⟨wA.heap.size, 0, none⟩)] (fun k => disN ((k : Int) % W) ((k : Int) / W) (W + H) (zeL W zs (List.range m)) (zeL W zs (List.range m)).length) HWH.out w0 w1 h0 h1 m2 (enters_of Try.func70 (by kernel_rfl) rfl) W1 HV2)
    have hbz := bz.lt
    have hWs := hb.size
    obtain ⟨e0, f0⟩ := b0.read; obtain ⟨eZ, fZ⟩ := bz.read
    clear HV2 hpr ho
    gi_wp2_with ((try (refine ⟨trivial, ?_⟩)); gi_at_call 53; refine (callsIn_wide.2 HBB.out).mono ?_; rintro e wB ⟨g, rfl, hg, kG, hbB⟩; have qz := Blk.later hbB bz; obtain ⟨gZ, hZ⟩ := qz.read)
    have kr : Blk (((wB.setCell ⟨w.heap.size + 1, 0, none⟩ (.int .i64 W)).setCell ⟨w.heap.size + 1, 1, none⟩ (.int .i64 H)).setCell ⟨w.heap.size + 1, 2, none⟩ (.slice (some ⟨g, 0, none⟩) m m)) (w.heap.size + 1) #[.int .i64 W, .int .i64 H, .slice (some ⟨g, 0, none⟩) m m] 24 := Blk.set (Blk.set (Blk.set qz))
    have kz : Blk (((wB.setCell ⟨w.heap.size + 1, 0, none⟩ (.int .i64 W)).setCell ⟨w.heap.size + 1, 1, none⟩ (.int .i64 H)).setCell ⟨w.heap.size + 1, 2, none⟩ (.slice (some ⟨g, 0, none⟩) m m)) g (ints ((List.range m).map fun (k : Nat) => inR (disN ((k : Int) % W) ((k : Int) / W) (W + H) (zeL W zs (List.range m)) (zeL W zs (List.range m)).length) (-2147483648) 2147483648)) 3 := Blk.other (Blk.other (Blk.other kG (by simp; omega)) (by simp; omega)) (by simp; omega)
    have hKB : wB.heap[D]? = some (.deferred (some [])) := (hbB.block D (Array.getElem?_eq_some_iff.1 hK).1).trans hK
    have hKf : ((((wB.setCell ⟨w.heap.size + 1, 0, none⟩ (.int .i64 W)).setCell ⟨w.heap.size + 1, 1, none⟩ (.int .i64 H)).setCell ⟨w.heap.size + 1, 2, none⟩ (.slice (some ⟨g, 0, none⟩) m m))).heap[D]? = some (.deferred (some [])) := (Below.heap_setCell _ _ _ D (by simp; omega)).trans ((Below.heap_setCell _ _ _ D (by simp; omega)).trans ((Below.heap_setCell _ _ _ D (by simp; omega)).trans hKB))
    have qB : Below w.heap.size w (((wB.setCell ⟨w.heap.size + 1, 0, none⟩ (.int .i64 W)).setCell ⟨w.heap.size + 1, 1, none⟩ (.int .i64 H)).setCell ⟨w.heap.size + 1, 2, none⟩ (.slice (some ⟨g, 0, none⟩) m m)) := by
      have h1 := hb.trans (hbB.mono hb.size)
      (repeat' (first | (with_reducible exact Below.refl _ _) | (with_reducible assumption) | (with_reducible refine belowThru ?_ (by assumption)) | (with_reducible refine belowAlloc ?_) | (with_reducible refine Below.setCell ?_ (by first | omega | (simp; done) | (simp; omega)) _) | (with_reducible refine Below.drew ?_) | (with_reducible refine below_drewN ?_ _)))
    obtain ⟨Wf, hWf⟩ : ∃ Wf, (((wB.setCell ⟨w.heap.size + 1, 0, none⟩ (.int .i64 W)).setCell ⟨w.heap.size + 1, 1, none⟩ (.int .i64 H)).setCell ⟨w.heap.size + 1, 2, none⟩ (.slice (some ⟨g, 0, none⟩) m m)) = Wf := ⟨_, rfl⟩
    rw [hWf] at kr kz hKf qB ⊢
    clear hWf
    have kr2 := kr.own (grownBy_putObj' Wf D (.deferred none)) (fun r e => by cases e; exact ⟨_, hKf, rfl⟩)
    have kz2 := kz.own (grownBy_putObj' Wf D (.deferred none)) (fun r e => by cases e; exact ⟨_, hKf, rfl⟩)
    have er := kr2.read.1
    refine ⟨by simp, .inl ⟨_, _, rfl, run_takeDeferred hKf, ?_⟩⟩
    refine ⟨.tuple #[.agg #[.int .i64 W, .int .i64 H, .slice (some ⟨g, 0, none⟩) m m], .int .i64 0], ?_, _, rfl, by omega, kz2, qB.trans (belowK_b (w := w) (Nat.le_refl _) Wf D _ _ (by omega) hKf rfl rfl)⟩
    simp only [results, Try.results26]
    go_simp
  case stop =>
    rintro D cc pre W1 _ _ h _
    exact h.elim
end Go.Proofs.Ytghmjdmiaajbnaa
/-
  A region that draws its order, fenced but in no round, out of the same region's plain calculus.
-/
namespace Go.Proofs.Ytghmjdmiaajbnaa
open Go.RowKit
set_option linter.unusedVariables false
set_option linter.unusedSimpArgs false

variable {P : Program} {ops : Array Oper} {Q : Exit → Act → World → Prop} {md : Region.Mode}

theorem upon_w {n : Nat} {o : Oper} {a : Act} {K : Act → World → Prop} {r : Result Next} (h : o.upon P a K Q r) : o.uponIn Fence.wide n P a K Q r := by
  cases r with
  | ok x w' =>
    cases x <;> simp only [Oper.upon] at h <;> simp only [Oper.uponIn] <;> first
      | exact h
      | exact ⟨fun h => (by cases h), callsIn_wide.2 h⟩
      | exact ⟨fun h => (by cases h), fun c cs _ => let ⟨v, w', r, s⟩ := h c cs; ⟨v, w', r, stepsIn_wide.2 s⟩⟩
  | halt x w' => cases x <;> simp only [Oper.upon] at h <;> simp only [Oper.uponIn] <;> exact h
theorem wpOp_w {n : Nat} {i : Nat} {K : Act → World → Prop} {a : Act} {w : World} (hnd : noDefer ops = true) (hout : ¬ LetsOut Q) (h : wpOp P ops Q i K a w) : wpOpIn Fence.wide n P ops Q i K a w := by
  unfold wpOp at h
  unfold wpOpIn
  split
  · rename_i ho; simp only [ho] at h; exact h
  · rename_i o ho
    simp only [ho] at h
    split
    · rename_i hw
      simp only [hw, if_true] at h
      rcases h with h | h
      · refine ⟨fun _ _ => trivial, ?_⟩
        rw [Oper.semAt_eq _ _ _ (noDefer_spec hnd ho)]
        exact upon_w h
      · exact absurd h.2 hout
    · rename_i hw
      simp only [hw] at h
      exact ⟨fun _ _ => trivial, h⟩
theorem wpAny_w {n : Nat} (hnd : noDefer ops = true) (hout : ¬ LetsOut Q) : ∀ (fuel : Nat) (listed : Array Bool) (a : Act) (w : World), wpAny P md ops Q fuel listed a w → wpAnyIn Fence.wide n P md ops Q fuel listed a w
  | 0, _, _, _, h => h
  | fuel + 1, listed, a, w, h => ⟨h.1, fun i hi => wpOpIn_mono (fun a w h => wpAny_w hnd hout fuel _ a w h) (wpOp_w hnd hout (h.2 i hi))⟩
/-- The normal end alone. -/
def onlyN (Q : Exit → Act → World → Prop) : Exit → Act → World → Prop
  | .normal => Q .normal
  | _ => fun _ _ => False
theorem held_w {n id : Nat} {a : Act} {w : World} (S : World → Prop) (hm : P.follows .mixedOrders = true) (hnd : noDefer ops = true) (hS : S w.drew)
    (h : S w.drew → wpAnyH P .any ops (onlyN Q) S ops.size (Array.replicate ops.size false) a w.drew) : (Code.region id ops true).wpIn Fence.wide n P Q a w :=
  Code.wpIn_mono (Q := onlyN Q) (fun e a w h => by cases e <;> first | exact h | exact h.elim) (wpIn_region_any hm (wpAny_w hnd (by rintro ⟨_, _, h⟩; exact h) _ _ _ _ (wpAny_of_held _ _ _ _ (h hS))))
end Go.Proofs.Ytghmjdmiaajbnaa
/-
  Layer 2: a map from places to their numbers.
-/
namespace Go.Proofs.Ytghmjdmiaajbnaa
open Go.RowKit Go.Shelf
set_option linter.unusedVariables false
set_option linter.unusedSimpArgs false

def pv (p : Int × Int) : Value := .agg #[.int .i64 p.1, .int .i64 p.2]
theorem eq_place (p q : Int × Int) (w : World) : (Op.equal 83 (pv p) (pv q)).run Try.prog w = .ok (decide (p = q)) w := by
  unfold Op.equal pv
  rw [show Op.maxDepth = 9999 + 1 from rfl, run_equalIn_agg w 9999 83 _ _ (by kernel_rfl) (by kernel_rfl)]
  simp [go_sem]
  obtain ⟨a, b⟩ := p
  obtain ⟨c, d⟩ := q
  by_cases h1 : a = c
  · by_cases h2 : b = d
    · simp [h1, h2]
    · simp [h1, h2]
  · simp [h1]
theorem check_int (b : Bool) (z : Int) (w : World) : (Instr.checkKey b 9999 3 (.int .i64 z)).run Try.prog w = .ok () w := MapKept.run_checkKey Try.underlying3 (show MapKept.IsKey (.int .i64) (.int .i64 z) from rfl) b 9998
theorem check_place (p : Int × Int) (b : Bool) (w : World) : (Instr.checkKey b 10000 83 (pv p)).run Try.prog w = .ok () w := by
  show (Instr.checkKey b (9999 + 1) 83 (pv p)).run Try.prog w = .ok () w
  unfold Instr.checkKey pv
  simp only [Sem.run_bind, run_underlying Try.underlying83, Result.andThen_ok]
  simp [go_sem, check_int]
/-- The entries of a map that numbers places in the order in which they came. -/
def mpL : Nat → List (Int × Int) → List MapEntry
  | _, [] => []
  | i, p :: ps => ⟨pv p, .int .i64 ((i : Int) + 1), i⟩ :: mpL (i + 1) ps
theorem mpL_length (i : Nat) (ps : List (Int × Int)) : (mpL i ps).length = ps.length := by
  induction ps generalizing i with
  | nil => rfl
  | cons q ps ih => unfold mpL; simp [ih]
theorem ask_yes (p : Int × Int) (ps : List (Int × Int)) (k : Nat) (hk : ps[k]? = some p) (hf : ∀ k', k' < k → ps[k']? ≠ some p) (i j : Nat) (w : World) : (Instr.findAsking 83 (pv p) (mpL i ps) j).run Try.prog w = .ok (some (j + k, .int .i64 (((i + k : Nat) : Int) + 1))) w := by
  induction ps generalizing i j k with
  | nil => simp at hk
  | cons q ps ih =>
    unfold mpL Instr.findAsking
    cases k with
    | zero =>
      have e : q = p := by simpa using hk
      subst e
      simp [eq_place, Result.andThen]
    | succ k =>
      have hne : ¬ p = q := fun e => hf 0 (by omega) (by simp [e])
      have := ih k (by simpa using hk) (fun k' hk' => by have := hf (k' + 1) (by omega); simpa using this) (i + 1) (j + 1)
      rw [show i + 1 + k = i + (k + 1) by omega, show j + 1 + k = j + (k + 1) by omega] at this
      simp [eq_place, hne, this, Result.andThen]
theorem find_yes (p : Int × Int) (ps : List (Int × Int)) (k : Nat) (hk : ps[k]? = some p) (hf : ∀ k', k' < k → ps[k']? ≠ some p) (i : Nat) (w : World) : (Instr.findKey 83 (pv p) (mpL i ps)).run Try.prog w = .ok (some (k, .int .i64 (((i + k : Nat) : Int) + 1))) w := by
  have h2 := ask_yes p ps k hk hf i 0 w
  rw [Nat.zero_add] at h2
  unfold Instr.findKey
  cases ps with
  | nil => simp at hk
  | cons q ps =>
    unfold mpL at h2 ⊢
    simp [run_underlying Try.underlying83, Instr.findNow, Instr.sameNow, pv, Result.andThen] at h2 ⊢
    exact h2
theorem look_place (p : Int × Int) (ps : List (Int × Int)) (k : Nat) (hk : ps[k]? = some p) (hf : ∀ k', k' < k → ps[k']? ≠ some p) (w : World) (r : Nat) (hb : w.heap[r]? = some (.map (mpL 0 ps).toArray ps.length)) :
    (Instr.lookup 115 (.map (some r)) (pv p) false).run Try.prog w = .ok (.int .i64 ((k : Int) + 1)) w := by
  have e1 := find_yes p ps k hk hf 0 w
  simp [Instr.lookup, run_underlying Try.underlying115, MapKept.run_getObj_map hb, check_place, e1, Result.andThen]
end Go.Proofs.Ytghmjdmiaajbnaa
/-
  Layer 2: a map with places as keys, whatever is in it; one more place.
-/
namespace Go.Proofs.Ytghmjdmiaajbnaa
open Go.RowKit Go.Shelf
set_option linter.unusedVariables false
set_option linter.unusedSimpArgs false

/-- The entries of a map with places as keys. -/
def mpG (l : List ((Int × Int) × Int × Nat)) : List MapEntry := l.map fun x => ⟨pv x.1, .int .i64 x.2.1, x.2.2⟩
theorem mpG_length (l : List ((Int × Int) × Int × Nat)) : (mpG l).length = l.length := by simp [mpG]
/-- Places with their numbers, in the order in which they came. -/
def nums (i : Nat) : List (Int × Int) → List ((Int × Int) × Int × Nat)
  | [] => []
  | p :: ps => (p, (i : Int) + 1, i) :: nums (i + 1) ps
theorem mpG_nums (i : Nat) (ps : List (Int × Int)) : mpG (nums i ps) = mpL i ps := by
  induction ps generalizing i with
  | nil => rfl
  | cons p ps ih => unfold nums mpL; rw [← ih (i + 1)]; rfl
theorem nums_length (i : Nat) (ps : List (Int × Int)) : (nums i ps).length = ps.length := by
  rw [← mpG_length, mpG_nums, mpL_length]
theorem nums_keys (i : Nat) (ps : List (Int × Int)) : (nums i ps).map (·.1) = ps := by
  induction ps generalizing i with
  | nil => rfl
  | cons p ps ih => unfold nums; rw [List.map_cons, ih]
theorem nums_snoc (i : Nat) (ps : List (Int × Int)) (p : Int × Int) : nums i (ps ++ [p]) = nums i ps ++ [(p, ((i + ps.length : Nat) : Int) + 1, i + ps.length)] := by
  induction ps generalizing i with
  | nil => simp [nums]
  | cons q ps ih =>
    rw [List.cons_append]
    unfold nums
    rw [ih, List.cons_append, List.length_cons, show i + 1 + ps.length = i + (ps.length + 1) by omega]
theorem ask_g (p : Int × Int) (l : List ((Int × Int) × Int × Nat)) (j : Nat) (w : World) :
    (p ∉ l.map (·.1) ∧ (Instr.findAsking 83 (pv p) (mpG l) j).run Try.prog w = .ok none w) ∨ ∃ k x, l[k]? = some x ∧ x.1 = p ∧ (Instr.findAsking 83 (pv p) (mpG l) j).run Try.prog w = .ok (some (j + k, .int .i64 x.2.1)) w := by
  induction l generalizing j with
  | nil => left; simp [mpG, Instr.findAsking]
  | cons x l ih =>
    by_cases e : p = x.1
    · right
      refine ⟨0, x, rfl, e.symm, ?_⟩
      show (Instr.findAsking 83 (pv p) (⟨pv x.1, .int .i64 x.2.1, x.2.2⟩ :: mpG l) j).run Try.prog w = _
      unfold Instr.findAsking
      simp [eq_place, e, Result.andThen]
    · have hr : (Instr.findAsking 83 (pv p) (mpG (x :: l)) j).run Try.prog w = (Instr.findAsking 83 (pv p) (mpG l) (j + 1)).run Try.prog w := by
        show (Instr.findAsking 83 (pv p) (⟨pv x.1, .int .i64 x.2.1, x.2.2⟩ :: mpG l) j).run Try.prog w = _
        conv => lhs; unfold Instr.findAsking
        simp [eq_place, e, Result.andThen]
      rw [hr]
      rcases ih (j + 1) with ⟨h1, h2⟩ | ⟨k, y, h1, h2, h3⟩
      · exact .inl ⟨by simp only [List.map_cons, List.mem_cons, not_or]; exact ⟨e, h1⟩, h2⟩
      · exact .inr ⟨k + 1, y, by simpa using h1, h2, by rw [h3, show j + 1 + k = j + (k + 1) by omega]⟩
theorem find_g (p : Int × Int) (l : List ((Int × Int) × Int × Nat)) (w : World) :
    (p ∉ l.map (·.1) ∧ (Instr.findKey 83 (pv p) (mpG l)).run Try.prog w = .ok none w) ∨ ∃ k x, l[k]? = some x ∧ x.1 = p ∧ (Instr.findKey 83 (pv p) (mpG l)).run Try.prog w = .ok (some (k, .int .i64 x.2.1)) w := by
  have key : (Instr.findKey 83 (pv p) (mpG l)).run Try.prog w = (Instr.findAsking 83 (pv p) (mpG l) 0).run Try.prog w := by
    unfold Instr.findKey
    cases l with
    | nil => simp [run_underlying Try.underlying83, mpG, Instr.findNow, Instr.findAsking, Result.andThen]
    | cons x l => simp [run_underlying Try.underlying83, mpG, Instr.findNow, Instr.sameNow, pv, Result.andThen]
  rw [key]
  have := ask_g p l 0 w
  simpa using this
/-- One more place: behind the others, if it is new. -/
theorem insert_g (p : Int × Int) (v : Int) (l : List ((Int × Int) × Int × Nat)) (c : Nat) (w : World) (r : Nat) (hb : w.heap[r]? = some (.map (mpG l).toArray c)) :
    ∃ l' c', (Instr.mapUpdate 115 (.map (some r)) (pv p) (.int .i64 v)).run Try.prog w = .ok () (w.putObj r (.map (mpG l').toArray c')) ∧ (p ∉ l.map (·.1) → l' = l ++ [(p, v, c)] ∧ c' = c + 1) := by
  rcases find_g p l w with ⟨h1, h2⟩ | ⟨k, x, h1, h2, h3⟩
  · refine ⟨l ++ [(p, v, c)], c + 1, ?_, fun _ => ⟨rfl, rfl⟩⟩
    simp [Instr.mapUpdate, run_underlying Try.underlying115, MapKept.run_getObj_map hb, check_place, h2, MapKept.run_setObj_map _ hb, Result.andThen]
    simp [mpG, World.putObj]
  · refine ⟨l.modify k (fun y => (p, v, y.2.2)), c, ?_, fun h => absurd (List.mem_map.2 ⟨x, List.mem_of_getElem? h1, h2⟩) h⟩
    have hk : (Instr.keyThatStays (pv p) (pv p)).run Try.prog w = .ok (pv p) w := by
      unfold Instr.keyThatStays
      simp [Instr.sameBits, pv]
    have he : ((mpG l).toArray[k]?).map (·.key) = some (pv p) := by
      rw [List.getElem?_toArray]; unfold mpG; rw [List.getElem?_map, h1]; simp [h2]
    simp only [Instr.mapUpdate, Sem.run_bind, run_underlying Try.underlying115, MapKept.run_getObj_map hb, check_place, h3, Result.andThen_ok, he, Option.getD_some, hk, MapKept.run_setObj_map _ hb]
    have hm : (mpG l).toArray.modify k (fun e => { e with key := pv p, val := .int .i64 v }) = (mpG (l.modify k (fun y => (p, v, y.2.2)))).toArray := by
      apply Array.ext'
      simp only [Array.toList_modify, mpG]
      apply List.ext_getElem?
      intro i
      simp only [List.getElem?_modify, List.getElem?_map]
      by_cases e : k = i
      · subst e; simp [h1]
      · cases hh : l[i]? <;> simp [e]
    rw [hm]
    rfl
end Go.Proofs.Ytghmjdmiaajbnaa
