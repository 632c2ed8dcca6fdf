/-
  The document's own answers, layer 1: common divisors, and which fractions are valid.
-/
import Derived.Test.YtcafmmhjlecgpaaRef2
import Derived.Deep.RegionHeld3
namespace Go.Proofs.Ytcafmmhjlecgpaa
open Go.RowKit

/-- The number of two words that a block holds. -/
def wideOf (w : World) (b : Nat) : Int := match w.cell? ⟨b, 0, none⟩, w.cell? ⟨b, 1, none⟩ with
  | some (.int _ h), some (.int _ l) => h * 18446744073709551616 + l
  | _, _ => 0
theorem Blk.wide {w : World} {b : Nat} {z : Int} {t : TypeId} (k : Blk w b #[.int .u64 (whi z), .int .u64 (wlo z)] t) (h0 : 0 ≤ z) (h1 : z < 170141183460469231731687303715884105728) : wideOf w b = z := by
  unfold wideOf
  have e0 : w.cell? ⟨b, 0, none⟩ = some (.int .u64 (whi z)) := k.cells 0
  have e1 : w.cell? ⟨b, 1, none⟩ = some (.int .u64 (wlo z)) := k.cells 1
  rw [e0, e1]
  exact (pos_whi z h0 h1).symm

theorem gcdI_mag_left (a b : Int) : gcdI (mag a) b = gcdI a b := by
  unfold gcdI; rw [mag_natAbs]; show ((Nat.gcd ((a.natAbs : Int)).natAbs b.natAbs : Nat) : Int) = ((Nat.gcd a.natAbs b.natAbs : Nat) : Int); rw [Int.natAbs_natCast]

set_option maxRecDepth 100000 in
set_option maxHeartbeats 2000000 in
theorem common_any (a b : Int) (a0 : 0 ≤ a) (a1 : a < 170141183460469231731687303715884105728) (b0 : 0 ≤ b) (b1 : b < 170141183460469231731687303715884105728) (w : World) :
    Calls Try.prog 112 #[.agg #[.int .u64 (whi a), .int .u64 (wlo a)], .agg #[.int .u64 (whi b), .int .u64 (wlo b)]] w fun e w' => e = .returned (.agg #[.int .u64 (whi (gcdI a b)), .int .u64 (wlo (gcdI a b))]) ∧ Below w.heap.size w w' := by
  have HG := Lib.hid (⟨a0, a1, b0, b1⟩ : 0 ≤ a ∧ a < 170141183460469231731687303715884105728 ∧ 0 ≤ b ∧ b < 170141183460469231731687303715884105728)
  clear a0 a1 b0 b1
  obtain ⟨G, hG⟩ : ∃ G, gcdI a b = G := ⟨_, rfl⟩
  rw [hG]
  go_enter Try.func112, Try.ntmps112
  go_wp2
  go_loopw [] (fun wr => ∃ x y : Int, Hid (0 ≤ x ∧ x < 170141183460469231731687303715884105728 ∧ 0 ≤ y ∧ y < 170141183460469231731687303715884105728 ∧ gcdI x y = G) ∧ Blk wr w.heap.size #[.int .u64 (whi x), .int .u64 (wlo x)] 154 ∧ Blk wr (w.heap.size + 1) #[.int .u64 (whi y), .int .u64 (wlo y)] 154 ∧ Blk wr (w.heap.size + 1 + 1) #[.int .u64 0, .int .u64 0] 154 ∧ Below w.heap.size w wr) (fun wr => (wideOf wr (w.heap.size + 1)).toNat)
  case atStart =>
    exact ⟨a, b, Lib.hid ⟨HG.out.1, HG.out.2.1, HG.out.2.2.1, HG.out.2.2.2, hG⟩, by (repeat' (first | (with_reducible assumption) | ((with_reducible refine Blk.new ?_); first | rfl | (simp; done)) | (with_reducible refine Blk.later (by assumption) ?_) | (with_reducible refine Blk.alloc ?_) | (with_reducible refine Blk.drewN ?_) | (with_reducible refine Blk.drew ?_) | (with_reducible refine Blk.other ?_ (by first | omega | (simp; done) | (simp; omega))))), by (repeat' (first | (with_reducible assumption) | ((with_reducible refine Blk.new ?_); first | rfl | (simp; done)) | (with_reducible refine Blk.later (by assumption) ?_) | (with_reducible refine Blk.alloc ?_) | (with_reducible refine Blk.drewN ?_) | (with_reducible refine Blk.drew ?_) | (with_reducible refine Blk.other ?_ (by first | omega | (simp; done) | (simp; omega))))), by (repeat' (first | (with_reducible assumption) | ((with_reducible refine Blk.new ?_); first | rfl | (simp; done)) | (with_reducible refine Blk.later (by assumption) ?_) | (with_reducible refine Blk.alloc ?_) | (with_reducible refine Blk.drewN ?_) | (with_reducible refine Blk.drew ?_) | (with_reducible refine Blk.other ?_ (by first | omega | (simp; done) | (simp; omega))))), by (repeat' (first | (with_reducible exact Below.refl _ _) | (with_reducible assumption) | (with_reducible refine belowThru ?_ (by assumption)) | (with_reducible refine belowAlloc ?_) | (with_reducible refine Below.setCell ?_ (by first | omega | (simp; done) | (simp; omega)) _) | (with_reducible refine Below.drew ?_) | (with_reducible refine below_drewN ?_ _)))⟩
  case round =>
    clear hG
    obtain ⟨x, y, hxy, k0, k1, k2, hB⟩ := hrel
    obtain ⟨a0, b0⟩ := k0.read; obtain ⟨a1, b1⟩ := k1.read; obtain ⟨a2, b2⟩ := k2.read
    have z0 := k0.lt; have z2 := k2.lt
    by_cases hy : y = 0
    · subst hy
      have e := hxy.out.2.2.2.2
      rw [gcdI_zero x hxy.out.1] at e
      rw [whi_zero, wlo_zero] at k1 a1
      clear hxy HG
      subst e
      go_wp2
      exact bodyPost_ret (v := .agg #[.int .u64 (whi x), .int .u64 (wlo x)]) (by simp only [results, Try.results112]; go_simp) rfl ⟨rfl, by (repeat' (first | (with_reducible exact Below.refl _ _) | (with_reducible assumption) | (with_reducible refine belowThru ?_ (by assumption)) | (with_reducible refine belowAlloc ?_) | (with_reducible refine Below.setCell ?_ (by first | omega | (simp; done) | (simp; omega)) _) | (with_reducible refine Below.drew ?_) | (with_reducible refine below_drewN ?_ _)))⟩
    · have hne : ¬ (whi y = 0 ∧ wlo y = 0) := fun h => hy ((zero_of y (by have := hxy.out; omega) (by have := hxy.out; omega)).1 h)
      have HP := Lib.hid (fun w => parted_any x y hxy.out.1 (by have := hxy.out; omega) (by have := hxy.out; omega) (by have := hxy.out; omega) w)
      have hr0 := Int.emod_nonneg x hy
      have hr1 := Int.emod_lt_of_pos x (show 0 < y by have := hxy.out; omega)
      have hst : Hid ((0 ≤ y ∧ y < 170141183460469231731687303715884105728 ∧ 0 ≤ x % y ∧ x % y < 170141183460469231731687303715884105728 ∧ gcdI y (x % y) = G) ∧ x % y < y) :=
        Lib.hid ⟨⟨by have := hxy.out; omega, by have := hxy.out; omega, hr0, by have := hxy.out; omega, by rw [gcdI_step x y hxy.out.1 (by have := hxy.out; omega)]; exact hxy.out.2.2.2.2⟩, hr1⟩
      have hm := k1.wide hxy.out.2.2.1 hxy.out.2.2.2.1
      clear hr0 hr1 hy hxy HG
      obtain ⟨r, hr⟩ : ∃ r, x % y = r := ⟨_, rfl⟩
      rw [hr] at HP hst
      clear hr
      have hne2 : ¬ whi y = 0 ∨ (whi y = 0 ∧ ¬ wlo y = 0) := by
        by_cases h : whi y = 0
        · exact .inr ⟨h, fun k => hne ⟨h, k⟩⟩
        · exact .inl h
      clear hne
      obtain ⟨yh, hyh⟩ : ∃ yh, whi y = yh := ⟨_, rfl⟩
      rw [hyh] at HP hne2 k1 a1
      rcases hne2 with h | ⟨rfl, h⟩
      all_goals
        go_wp2_with (go_at_call 126; (with_reducible refine (HP.out _).mono ?_); rintro e w1 ⟨rfl, hb⟩; (try (have zk := k0.lt; (first | ((with_reducible refine Blk.keepG hb k0 (fun h => ?_) ?_); (focus ((repeat' (first | (with_reducible assumption) | ((with_reducible refine Blk.new ?_); first | rfl | (simp; done)) | (with_reducible refine Blk.later (by assumption) ?_) | (with_reducible refine Blk.alloc ?_) | (with_reducible refine Blk.drewN ?_) | (with_reducible refine Blk.drew ?_) | (with_reducible refine Blk.other ?_ (by first | omega | (simp; done) | (simp; omega))))); done)); clear k0; intro k0) | (with_reducible replace k0 := Blk.later hb (Blk.set (Blk.set k0))) | (with_reducible replace k0 := Blk.later hb (Blk.set k0))); clear a0 b0; obtain ⟨a0, b0⟩ := k0.read; have zl := k0.lt)); (try (have zk := k1.lt; (first | ((with_reducible refine Blk.keepG hb k1 (fun h => ?_) ?_); (focus ((repeat' (first | (with_reducible assumption) | ((with_reducible refine Blk.new ?_); first | rfl | (simp; done)) | (with_reducible refine Blk.later (by assumption) ?_) | (with_reducible refine Blk.alloc ?_) | (with_reducible refine Blk.drewN ?_) | (with_reducible refine Blk.drew ?_) | (with_reducible refine Blk.other ?_ (by first | omega | (simp; done) | (simp; omega))))); done)); clear k1; intro k1) | (with_reducible replace k1 := Blk.later hb (Blk.set (Blk.set k1))) | (with_reducible replace k1 := Blk.later hb (Blk.set k1))); clear a1 b1; obtain ⟨a1, b1⟩ := k1.read; have zl := k1.lt)); (try (have zk := k2.lt; (first | ((with_reducible refine Blk.keepG hb k2 (fun h => ?_) ?_); (focus ((repeat' (first | (with_reducible assumption) | ((with_reducible refine Blk.new ?_); first | rfl | (simp; done)) | (with_reducible refine Blk.later (by assumption) ?_) | (with_reducible refine Blk.alloc ?_) | (with_reducible refine Blk.drewN ?_) | (with_reducible refine Blk.drew ?_) | (with_reducible refine Blk.other ?_ (by first | omega | (simp; done) | (simp; omega))))); done)); clear k2; intro k2) | (with_reducible replace k2 := Blk.later hb (Blk.set (Blk.set k2))) | (with_reducible replace k2 := Blk.later hb (Blk.set k2))); clear a2 b2; obtain ⟨a2, b2⟩ := k2.read; have zl := k2.lt)); (first | (have zk := kn.lt; (first | ((with_reducible refine Blk.keepG hb kn (fun h => ?_) ?_); (focus ((repeat' (first | (with_reducible assumption) | ((with_reducible refine Blk.new ?_); first | rfl | (simp; done)) | (with_reducible refine Blk.later (by assumption) ?_) | (with_reducible refine Blk.alloc ?_) | (with_reducible refine Blk.drewN ?_) | (with_reducible refine Blk.drew ?_) | (with_reducible refine Blk.other ?_ (by first | omega | (simp; done) | (simp; omega))))); done)); clear kn; intro kn) | (with_reducible replace kn := Blk.later hb (Blk.set (Blk.set kn))) | (with_reducible replace kn := Blk.later hb (Blk.set kn))); clear an bn; obtain ⟨an, bn⟩ := kn.read; have zl := kn.lt) | ((first | (with_reducible have kn := Blk.later hb (Blk.new rfl)) | (with_reducible have kn := Blk.later hb (Blk.drew (Blk.new rfl))) | (with_reducible have kn := Blk.later hb (Blk.drewN (Blk.new rfl)))); (try simp only [World.size_alloc, World.size_drew, World.heap_drewN] at kn); obtain ⟨an, bn⟩ := kn.read; have zl := kn.lt) | skip))
        go_roundw
        case rel =>
          refine ⟨y, r, Lib.hid hst.out.1, ?_, ?_, ?_, by (repeat' (first | (with_reducible exact Below.refl _ _) | (with_reducible assumption) | (with_reducible refine belowThru ?_ (by assumption)) | (with_reducible refine belowAlloc ?_) | (with_reducible refine Below.setCell ?_ (by first | omega | (simp; done) | (simp; omega)) _) | (with_reducible refine Below.drew ?_) | (with_reducible refine below_drewN ?_ _)))⟩
          · rw [hyh]; exact Blk.alloc (Blk.alloc (Blk.other (Blk.other (Blk.set (Blk.set k0)) (by show w.heap.size ≠ w.heap.size + 1; omega)) (by show w.heap.size ≠ w.heap.size + 1; omega)))
          · exact Blk.alloc (Blk.alloc (Blk.set (Blk.set (Blk.other (Blk.other k1 (by show w.heap.size + 1 ≠ w.heap.size; omega)) (by show w.heap.size + 1 ≠ w.heap.size; omega)))))
          · (repeat' (first | (with_reducible assumption) | ((with_reducible refine Blk.new ?_); first | rfl | (simp; done)) | (with_reducible refine Blk.later (by assumption) ?_) | (with_reducible refine Blk.alloc ?_) | (with_reducible refine Blk.drewN ?_) | (with_reducible refine Blk.drew ?_) | (with_reducible refine Blk.other ?_ (by first | omega | (simp; done) | (simp; omega)))))
        case measure =>
          refine Nat.lt_of_le_of_lt (m := r.toNat) (Nat.le_of_eq (congrArg Int.toNat (Blk.wide (t := 154) ?_ hst.out.1.2.2.1 hst.out.1.2.2.2.1))) ?_
          · exact Blk.alloc (Blk.alloc (Blk.set (Blk.set (Blk.other (Blk.other k1 (by show w.heap.size + 1 ≠ w.heap.size; omega)) (by show w.heap.size + 1 ≠ w.heap.size; omega)))))
          · rw [hm]; have := hst.out; omega

set_option maxHeartbeats 1000000 in
theorem rvalid_true (q : Rat) (hq : fits q) (w : World) :
    Calls Try.prog 88 #[.agg #[.int .i64 (fn q), .int .i64 (fd q)]] w fun e w' => e = .returned (.bool true) ∧ Below w.heap.size w w' := by
  have HQ := Lib.hid hq
  have f1 := hq.1; have f2 := hq.2.1; have f3 := hq.2.2; have f4 := fd_pos q
  have m0 := mag_lo (fn q); have m1 := mag_le (fn q) (by omega) (by omega)
  have HC : Hid (∀ w, Calls Try.prog 112 #[.agg #[.int .u64 0, .int .u64 (mag (fn q))], .agg #[.int .u64 0, .int .u64 (fd q)]] w fun e w' => e = .returned (.agg #[.int .u64 0, .int .u64 1]) ∧ Below w.heap.size w w') := by
    intro w
    have h := common_any (mag (fn q)) (fd q) m0 (by omega) (by omega) (by omega) w
    rw [whi_of _ m0 (by omega), wlo_of _ m0 (by omega), whi_of (fd q) (by omega) (by omega), wlo_of (fd q) (by omega) (by omega), gcdI_mag_left, q_gcd] at h
    exact h
  have HS := Lib.hid (fun w => rsize_any (fn q) (by omega) (by omega) w)
  have HD : Hid (∀ w, Calls Try.prog 113 #[.int .i64 (fd q)] w fun e w' => e = .returned (.int .u64 (fd q)) ∧ w = w') := by
    intro w; have h := rsize_any (fd q) (by omega) (by omega) w; rw [mag_pos _ (by omega)] at h; exact h
  clear m0 m1 hq HQ
  go_enter Try.func88, Try.ntmps88
  go_upto_region 3 with fail
  go_region_held3 (fun w' => (Blk w' w.heap.size #[.int .i64 (fn q), .int .i64 (fd q)] 24 ∧ (∀ i : Nat, w'.cell? ⟨w.heap.size, i, none⟩ = (#[.int .i64 (fn q), .int .i64 (fd q)] : Array Value)[i]?)) ∧ Below w.heap.size w w')
    (((first | (apply hold1; (focus assumption); intro p0 pB) | skip); refine ⟨Blk.full ?_, ?_⟩; all_goals (first | ((repeat' (first | (with_reducible assumption) | ((with_reducible refine Blk.new ?_); first | rfl | (simp; done)) | (with_reducible refine Blk.later (by assumption) ?_) | (with_reducible refine Blk.alloc ?_) | (with_reducible refine Blk.drewN ?_) | (with_reducible refine Blk.drew ?_) | (with_reducible refine Blk.other ?_ (by first | omega | (simp; done) | (simp; omega))))); done) | ((repeat' (first | (with_reducible exact Below.refl _ _) | (with_reducible assumption) | (with_reducible refine belowThru ?_ (by assumption)) | (with_reducible refine belowAlloc ?_) | (with_reducible refine Below.setCell ?_ (by first | omega | (simp; done) | (simp; omega)) _) | (with_reducible refine Below.drew ?_) | (with_reducible refine below_drewN ?_ _))); done))))
    (first
    | (go_at_call 113; (with_reducible refine (HS.out _).mono ?_); rintro e w1 ⟨rfl, rfl⟩)
    | (go_at_call 113; (with_reducible refine (HD.out _).mono ?_); rintro e w1 ⟨rfl, rfl⟩)
    | (go_at_call 112; (with_reducible refine (HC.out _).mono ?_); rintro e w1 ⟨rfl, hb⟩; skip; (first | (have zk := kn.lt; (first | ((with_reducible refine Blk.keepG hb kn (fun h => ?_) ?_); (focus ((repeat' (first | (with_reducible assumption) | ((with_reducible refine Blk.new ?_); first | rfl | (simp; done)) | (with_reducible refine Blk.later (by assumption) ?_) | (with_reducible refine Blk.alloc ?_) | (with_reducible refine Blk.drewN ?_) | (with_reducible refine Blk.drew ?_) | (with_reducible refine Blk.other ?_ (by first | omega | (simp; done) | (simp; omega))))); done)); clear kn; intro kn) | (with_reducible replace kn := Blk.later hb (Blk.set (Blk.set kn))) | (with_reducible replace kn := Blk.later hb (Blk.set kn))); clear an bn; obtain ⟨an, bn⟩ := kn.read; have zl := kn.lt) | ((first | (with_reducible have kn := Blk.later hb (Blk.new rfl)) | (with_reducible have kn := Blk.later hb (Blk.drew (Blk.new rfl))) | (with_reducible have kn := Blk.later hb (Blk.drewN (Blk.new rfl)))); (try simp only [World.size_alloc, World.size_drew, World.heap_drewN] at kn); obtain ⟨an, bn⟩ := kn.read; have zl := kn.lt) | skip)))
  all_goals
    apply hold1; (focus assumption); intro p0 pB
    go_wp2_with fail
    go_ret
    exact ⟨rfl, by (repeat' (first | (with_reducible exact Below.refl _ _) | (with_reducible assumption) | (with_reducible refine belowThru ?_ (by assumption)) | (with_reducible refine belowAlloc ?_) | (with_reducible refine Below.setCell ?_ (by first | omega | (simp; done) | (simp; omega)) _) | (with_reducible refine Below.drew ?_) | (with_reducible refine below_drewN ?_ _)))⟩

set_option maxHeartbeats 1000000 in
theorem rvalid_false (a b : Int) (h : ¬ okF a b) (ha1 : -9223372036854775808 ≤ a) (ha2 : a ≤ 9223372036854775807) (w : World) :
    Calls Try.prog 88 #[.agg #[.int .i64 a, .int .i64 b]] w fun e w' => e = .returned (.bool false) ∧ Below w.heap.size w w' := by
  have hw : b < 1 ∨ (1 ≤ b ∧ 4611686018427387903 < b) ∨ (1 ≤ b ∧ b ≤ 4611686018427387903 ∧ a < -4611686018427387903) ∨ (1 ≤ b ∧ b ≤ 4611686018427387903 ∧ -4611686018427387903 ≤ a ∧ 4611686018427387903 < a) ∨ (1 ≤ b ∧ b ≤ 4611686018427387903 ∧ -4611686018427387903 ≤ a ∧ a ≤ 4611686018427387903 ∧ gcdI a b ≠ 1) := by
    by_cases h1 : b < 1
    · exact .inl h1
    by_cases h2 : 4611686018427387903 < b
    · exact .inr (.inl ⟨by omega, h2⟩)
    by_cases h3 : a < -4611686018427387903
    · exact .inr (.inr (.inl ⟨by omega, by omega, h3⟩))
    by_cases h4 : 4611686018427387903 < a
    · exact .inr (.inr (.inr (.inl ⟨by omega, by omega, by omega, h4⟩)))
    exact .inr (.inr (.inr (.inr ⟨by omega, by omega, by omega, by omega, fun hg => h ⟨by omega, by omega, by omega, by omega, hg⟩⟩)))
  clear h
  rcases hw with c1 | ⟨c1, c2⟩ | ⟨c1, c2, c3⟩ | ⟨c1, c2, c3, c4⟩ | ⟨c1, c2, c3, c4, c5⟩
  · go_enter Try.func88, Try.ntmps88
    go_wp2
    go_ret
    exact ⟨rfl, by (repeat' (first | (with_reducible exact Below.refl _ _) | (with_reducible assumption) | (with_reducible refine belowThru ?_ (by assumption)) | (with_reducible refine belowAlloc ?_) | (with_reducible refine Below.setCell ?_ (by first | omega | (simp; done) | (simp; omega)) _) | (with_reducible refine Below.drew ?_) | (with_reducible refine below_drewN ?_ _)))⟩
  · go_enter Try.func88, Try.ntmps88
    go_wp2
    go_ret
    exact ⟨rfl, by (repeat' (first | (with_reducible exact Below.refl _ _) | (with_reducible assumption) | (with_reducible refine belowThru ?_ (by assumption)) | (with_reducible refine belowAlloc ?_) | (with_reducible refine Below.setCell ?_ (by first | omega | (simp; done) | (simp; omega)) _) | (with_reducible refine Below.drew ?_) | (with_reducible refine below_drewN ?_ _)))⟩
  · go_enter Try.func88, Try.ntmps88
    go_wp2
    go_ret
    exact ⟨rfl, by (repeat' (first | (with_reducible exact Below.refl _ _) | (with_reducible assumption) | (with_reducible refine belowThru ?_ (by assumption)) | (with_reducible refine belowAlloc ?_) | (with_reducible refine Below.setCell ?_ (by first | omega | (simp; done) | (simp; omega)) _) | (with_reducible refine Below.drew ?_) | (with_reducible refine below_drewN ?_ _)))⟩
  · go_enter Try.func88, Try.ntmps88
    go_wp2
    go_ret
    exact ⟨rfl, by (repeat' (first | (with_reducible exact Below.refl _ _) | (with_reducible assumption) | (with_reducible refine belowThru ?_ (by assumption)) | (with_reducible refine belowAlloc ?_) | (with_reducible refine Below.setCell ?_ (by first | omega | (simp; done) | (simp; omega)) _) | (with_reducible refine Below.drew ?_) | (with_reducible refine below_drewN ?_ _)))⟩
  · have m0 := mag_lo a; have m1 := mag_le a (by omega) (by omega)
    have g0 := gcdI_lo a b
    have g1 := gcdI_le_right a b (by omega)
    have HC : Hid (∀ w, Calls Try.prog 112 #[.agg #[.int .u64 0, .int .u64 (mag a)], .agg #[.int .u64 0, .int .u64 b]] w fun e w' => e = .returned (.agg #[.int .u64 0, .int .u64 (gcdI a b)]) ∧ Below w.heap.size w w') := by
      intro w
      have h := common_any (mag a) b m0 (by omega) (by omega) (by omega) w
      rw [whi_of _ m0 (by omega), wlo_of _ m0 (by omega), whi_of b (by omega) (by omega), wlo_of b (by omega) (by omega), gcdI_mag_left, whi_of (gcdI a b) g0 (by omega), wlo_of (gcdI a b) g0 (by omega)] at h
      exact h
    have HS := Lib.hid (fun w => rsize_any a (by omega) (by omega) w)
    have HD : Hid (∀ w, Calls Try.prog 113 #[.int .i64 b] w fun e w' => e = .returned (.int .u64 b) ∧ w = w') := by
      intro w; have h := rsize_any b (by omega) (by omega) w; rw [mag_pos _ (by omega)] at h; exact h
    obtain ⟨g, hg⟩ : ∃ g, gcdI a b = g := ⟨_, rfl⟩
    rw [hg] at HC c5
    clear m0 m1 g0 g1 hg
    go_enter Try.func88, Try.ntmps88
    go_upto_region 3 with fail
    go_region_held3 (fun w' => (Blk w' w.heap.size #[.int .i64 a, .int .i64 b] 24 ∧ (∀ i : Nat, w'.cell? ⟨w.heap.size, i, none⟩ = (#[.int .i64 a, .int .i64 b] : Array Value)[i]?)) ∧ Below w.heap.size w w')
      (((first | (apply hold1; (focus assumption); intro p0 pB) | skip); refine ⟨Blk.full ?_, ?_⟩; all_goals (first | ((repeat' (first | (with_reducible assumption) | ((with_reducible refine Blk.new ?_); first | rfl | (simp; done)) | (with_reducible refine Blk.later (by assumption) ?_) | (with_reducible refine Blk.alloc ?_) | (with_reducible refine Blk.drewN ?_) | (with_reducible refine Blk.drew ?_) | (with_reducible refine Blk.other ?_ (by first | omega | (simp; done) | (simp; omega))))); done) | ((repeat' (first | (with_reducible exact Below.refl _ _) | (with_reducible assumption) | (with_reducible refine belowThru ?_ (by assumption)) | (with_reducible refine belowAlloc ?_) | (with_reducible refine Below.setCell ?_ (by first | omega | (simp; done) | (simp; omega)) _) | (with_reducible refine Below.drew ?_) | (with_reducible refine below_drewN ?_ _))); done))))
      (first
      | (go_at_call 113; (with_reducible refine (HS.out _).mono ?_); rintro e w1 ⟨rfl, rfl⟩)
      | (go_at_call 113; (with_reducible refine (HD.out _).mono ?_); rintro e w1 ⟨rfl, rfl⟩)
      | (go_at_call 112; (with_reducible refine (HC.out _).mono ?_); rintro e w1 ⟨rfl, hb⟩; skip; (first | (have zk := kn.lt; (first | ((with_reducible refine Blk.keepG hb kn (fun h => ?_) ?_); (focus ((repeat' (first | (with_reducible assumption) | ((with_reducible refine Blk.new ?_); first | rfl | (simp; done)) | (with_reducible refine Blk.later (by assumption) ?_) | (with_reducible refine Blk.alloc ?_) | (with_reducible refine Blk.drewN ?_) | (with_reducible refine Blk.drew ?_) | (with_reducible refine Blk.other ?_ (by first | omega | (simp; done) | (simp; omega))))); done)); clear kn; intro kn) | (with_reducible replace kn := Blk.later hb (Blk.set (Blk.set kn))) | (with_reducible replace kn := Blk.later hb (Blk.set kn))); clear an bn; obtain ⟨an, bn⟩ := kn.read; have zl := kn.lt) | ((first | (with_reducible have kn := Blk.later hb (Blk.new rfl)) | (with_reducible have kn := Blk.later hb (Blk.drew (Blk.new rfl))) | (with_reducible have kn := Blk.later hb (Blk.drewN (Blk.new rfl)))); (try simp only [World.size_alloc, World.size_drew, World.heap_drewN] at kn); obtain ⟨an, bn⟩ := kn.read; have zl := kn.lt) | skip)))
    all_goals
      apply hold1; (focus assumption); intro p0 pB
      go_wp2_with fail
      go_ret
      exact ⟨by simp, by (repeat' (first | (with_reducible exact Below.refl _ _) | (with_reducible assumption) | (with_reducible refine belowThru ?_ (by assumption)) | (with_reducible refine belowAlloc ?_) | (with_reducible refine Below.setCell ?_ (by first | omega | (simp; done) | (simp; omega)) _) | (with_reducible refine Below.drew ?_) | (with_reducible refine below_drewN ?_ _)))⟩
end Go.Proofs.Ytcafmmhjlecgpaa
