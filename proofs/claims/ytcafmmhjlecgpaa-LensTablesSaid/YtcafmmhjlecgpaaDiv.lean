/-
  math/bits.Div64.
-/
import Derived.Test.YtcafmmhjlecgpaaProg
import Derived.Test.YtcafmmhjlecgpaaWMath
import Derived.Test.YtcafmmhjlecgpaaDMath
import Derived.Test.YtcafmmhjlecgpaaShelf
import Derived.WalkKit
import Derived.Lib.ItoaNum
import Derived.WalkSpells
import Derived.WalkLawsBesides
import Derived.Lib.Hide
import Derived.BigQuiet
import Derived.Deep.QuietTactic
import Derived.LoopTactic
import Derived.Deep.CutBlock
import Derived.Deep.DeepCutAuto
import Derived.Deep.LoopGhost
import Derived.Laws.Bits64b
import Derived.WalkSmall
namespace Go.Proofs.Ytcafmmhjlecgpaa
open Go.RowKit

set_option maxHeartbeats 400000 in
theorem div64_low (lo y : Int) (h1 : 0 ≤ lo) (h2 : 1 ≤ y) (w : World) (h2' : lo ≤ 18446744073709551615) (h3 : y ≤ 18446744073709551615) :
    Calls Try.prog 135 #[.int .u64 0, .int .u64 lo, .int .u64 y] w fun e w' => e = .returned (.tuple #[.int .u64 (lo / y), .int .u64 (lo % y)]) ∧ ∃ n, w' = w.drewN n := by
  go_enter Try.func135, Try.ntmps135
  go_wp2
  go_quiet (fail)
  go_wp2
  go_ret2
  exact ⟨rfl, _, rfl⟩

set_option maxHeartbeats 2000000 in
theorem div64_walk (hi lo y s Y Y1 Y0 U V V1 V0 : Int) (w : World) (_h1 : 0 ≤ lo) (h2 : 1 ≤ hi) (_h2' : lo ≤ 18446744073709551615) (_h3 : y ≤ 18446744073709551615) (h4 : hi < y)
    (hs0 : 0 ≤ s) (hs1 : s ≤ 63)
    (HL : Hid (∀ w, Calls Try.prog 137 #[.int .u64 y] w fun e w' => e = .returned (.int .i64 s) ∧ w' = w))
    (eY : IntKind.u64.wrap (y * 2 ^ s.toNat) = Y) (eY1 : Y / 4294967296 = Y1) (eY0 : bits BinOp.and IntKind.u64 Y 4294967295 = Y0)
    (eU : bits BinOp.or IntKind.u64 (IntKind.u64.wrap (hi * 2 ^ s.toNat)) (lo / 2 ^ (64 - s).toNat) = U)
    (eV : IntKind.u64.wrap (lo * 2 ^ s.toNat) = V) (eV1 : V / 4294967296 = V1) (eV0 : bits BinOp.and IntKind.u64 V 4294967295 = V0)
    (d1 : Digit U Y Y1 Y0 V1) (Q : Int) (hQ : Hid ((U * 4294967296 + V1) / Y = Q)) (qq0 : 0 ≤ Q) (qq1 : Q ≤ 4294967295)
    (W : Int) (eW : IntKind.u64.wrap (IntKind.u64.wrap (IntKind.u64.wrap (U * 4294967296) + V1) - IntKind.u64.wrap (Q * Y)) = W)
    (d2 : Digit W Y Y1 Y0 V0) (Z : Int) (hZ : Hid ((W * 4294967296 + V0) / Y = Z)) (zz0 : 0 ≤ Z) (zz1 : Z ≤ 4294967295)
    (X : Int) (eX : IntKind.u64.wrap (IntKind.u64.wrap (IntKind.u64.wrap (W * 4294967296) + V0) - IntKind.u64.wrap (Z * Y)) = X) (_x0 : 0 ≤ X) :
    Calls Try.prog 135 #[.int .u64 hi, .int .u64 lo, .int .u64 y] w fun e w' => e = .returned (.tuple #[.int .u64 (Q * 4294967296 + Z), .int .u64 (X / 2 ^ s.toNat)]) ∧ w' = w := by
  have y1 := d1.ky1; have y1' := d1.ky1'; have y0 := d1.ky0; have y0' := d1.ky0'; have u0U := d1.ku; have u1U := d1.ku'; have v1 := d1.kx; have v1' := d1.kx'
  have u0W := d2.ku; have u1W := d2.ku'; have v0 := d2.kx; have v0' := d2.kx'
  have HDU := Lib.hid d1; clear d1
  have HDW := Lib.hid d2; clear d2
  have gU := HDU.out.first
  have ghU := gU.high
  have g1U : 0 ≤ U / Y1 * Y1 := Int.mul_nonneg (Int.ediv_nonneg u0U (by omega)) (by omega)
  have gmU : Hid (U - U / Y1 * Y1 = U % Y1) := by have := gU.sum; show _ = _; omega
  have g2U : U / Y1 * Y1 ≤ U := by have := gmU.out; have := gU.r0; omega
  have grU : U % Y1 ≤ 4294967295 := by have := Int.emod_lt_of_pos U (show 0 < Y1 by omega); omega
  have gqU : 0 ≤ U / Y1 := Int.ediv_nonneg u0U (by omega)
  have HGU := Lib.hid gU; clear gU
  have gW := HDW.out.first
  have ghW := gW.high
  have g1W : 0 ≤ W / Y1 * Y1 := Int.mul_nonneg (Int.ediv_nonneg u0W (by omega)) (by omega)
  have gmW : Hid (W - W / Y1 * Y1 = W % Y1) := by have := gW.sum; show _ = _; omega
  have g2W : W / Y1 * Y1 ≤ W := by have := gmW.out; have := gW.r0; omega
  have grW : W % Y1 ≤ 4294967295 := by have := Int.emod_lt_of_pos W (show 0 < Y1 by omega); omega
  have gqW : 0 ≤ W / Y1 := Int.ediv_nonneg u0W (by omega)
  have HGW := Lib.hid gW; clear gW
  go_enter Try.func135, Try.ntmps135
  go_upto_block 0 with (go_at_call 137; refine (HL.out _).mono ?_; rintro e w1 ⟨rfl, hw⟩; rw [hw])
  go_cut [15, 16] (fun q r wx => q = .int .u64 Q ∧ wx = w)
  case first =>
    go_wp2_with fail
    go_loop [15, 16] (fun q r => ∃ qi ri : Int, q = .int .u64 qi ∧ r = .int .u64 ri ∧ Hid (Guess U Y Y1 V1 qi ri) ∧ 0 ≤ ri ∧ ri ≤ 4294967295 ∧ 0 ≤ qi ∧ qi ≤ 4294967297) (fun _ r => (4294967296 - intOf r).toNat)
    case atStart => exact ⟨_, _, rfl, rfl, by rw [gmU.out]; exact HGU.out, by have := HGU.out.r0; rw [gmU.out]; exact this, by rw [gmU.out]; exact grU, gqU, ghU⟩
    case round =>
      obtain ⟨q, r, rfl, rfl, hg, r0, r1, q0, q1⟩ := hrel
      have step : 4294967296 ≤ q ∨ 4294967296 * r + V1 < q * Y0 → Hid (Q ≤ q - 1) := fun h => by
        rw [← hQ.out]; rcases h with h | h
        · exact Guess.great HDU.out h
        · exact Guess.over HDU.out hg.out h
      by_cases hq : 4294967296 ≤ q
      · have S := step (.inl hq)
        clear step
        by_cases hr : 4294967296 ≤ r + Y1
        · have e : q - 1 = Q := by rw [← hQ.out]; exact (hg.out.next (by rw [hQ.out]; exact S.out) (by omega)).stop HDU.out (by omega) hr
          go_wp2_with fail
          go_meet
          exact ⟨rfl, rfl⟩
        · go_wp2_with fail
          go_round
          case rel => exact ⟨_, _, rfl, rfl, hg.out.next (by rw [hQ.out]; exact S.out) (by omega), by omega, by omega, by omega, by omega⟩
          case measure => simp [intOf]; omega
      · have p0 : 0 ≤ q * Y0 := Int.mul_nonneg q0 y0
        have p1 : q * Y0 ≤ 18446744073709551615 := by
          have := Int.mul_le_mul (show q ≤ 4294967295 by omega) y0' y0 (by omega); omega
        by_cases hk : 4294967296 * r + V1 < q * Y0
        · have S := step (.inr hk)
          clear step
          have qp : 0 < q := by
            rcases (show q = 0 ∨ 0 < q by omega) with h | h
            · exfalso; rw [h, Int.zero_mul] at hk; omega
            · exact h
          by_cases hr : 4294967296 ≤ r + Y1
          · have e : q - 1 = Q := by rw [← hQ.out]; exact (hg.out.next (by rw [hQ.out]; exact S.out) (by omega)).stop HDU.out (by omega) hr
            go_wp2_with fail
            go_meet
            exact ⟨rfl, rfl⟩
          · go_wp2_with fail
            go_round
            case rel => exact ⟨_, _, rfl, rfl, hg.out.next (by rw [hQ.out]; exact S.out) (by omega), by omega, by omega, by omega, by omega⟩
            case measure => simp [intOf]; omega
        · have e : q = Q := by rw [← hQ.out]; exact hg.out.done HDU.out (by omega)
          clear step
          have E := Lib.hid e; clear e
          go_wp2_with fail
          go_meet
          exact ⟨by rw [E.out], rfl⟩
  case rest =>
    obtain ⟨rfl, rfl⟩ := hcut
    go_upto_block 2 with fail
    go_cut [18, 16] (fun q r wx => q = .int .u64 Z ∧ wx = wc)
    case first =>
      go_wp2_with fail
      go_loop [18, 16] (fun q r => ∃ qi ri : Int, q = .int .u64 qi ∧ r = .int .u64 ri ∧ Hid (Guess W Y Y1 V0 qi ri) ∧ 0 ≤ ri ∧ ri ≤ 4294967295 ∧ 0 ≤ qi ∧ qi ≤ 4294967297) (fun _ r => (4294967296 - intOf r).toNat)
      case atStart => exact ⟨_, _, rfl, rfl, by rw [gmW.out]; exact HGW.out, by have := HGW.out.r0; rw [gmW.out]; exact this, by rw [gmW.out]; exact grW, gqW, ghW⟩
      case round =>
        obtain ⟨q, r, rfl, rfl, hg, r0, r1, q0, q1⟩ := hrel
        have step : 4294967296 ≤ q ∨ 4294967296 * r + V0 < q * Y0 → Hid (Z ≤ q - 1) := fun h => by
          rw [← hZ.out]; rcases h with h | h
          · exact Guess.great HDW.out h
          · exact Guess.over HDW.out hg.out h
        by_cases hq : 4294967296 ≤ q
        · have S := step (.inl hq)
          clear step
          by_cases hr : 4294967296 ≤ r + Y1
          · have e : q - 1 = Z := by rw [← hZ.out]; exact (hg.out.next (by rw [hZ.out]; exact S.out) (by omega)).stop HDW.out (by omega) hr
            go_wp2_with fail
            go_meet
            exact ⟨rfl, rfl⟩
          · go_wp2_with fail
            go_round
            case rel => exact ⟨_, _, rfl, rfl, hg.out.next (by rw [hZ.out]; exact S.out) (by omega), by omega, by omega, by omega, by omega⟩
            case measure => simp [intOf]; omega
        · have p0 : 0 ≤ q * Y0 := Int.mul_nonneg q0 y0
          have p1 : q * Y0 ≤ 18446744073709551615 := by
            have := Int.mul_le_mul (show q ≤ 4294967295 by omega) y0' y0 (by omega); omega
          by_cases hk : 4294967296 * r + V0 < q * Y0
          · have S := step (.inr hk)
            clear step
            have qp : 0 < q := by
              rcases (show q = 0 ∨ 0 < q by omega) with h | h
              · exfalso; rw [h, Int.zero_mul] at hk; omega
              · exact h
            by_cases hr : 4294967296 ≤ r + Y1
            · have e : q - 1 = Z := by rw [← hZ.out]; exact (hg.out.next (by rw [hZ.out]; exact S.out) (by omega)).stop HDW.out (by omega) hr
              go_wp2_with fail
              go_meet
              exact ⟨rfl, rfl⟩
            · go_wp2_with fail
              go_round
              case rel => exact ⟨_, _, rfl, rfl, hg.out.next (by rw [hZ.out]; exact S.out) (by omega), by omega, by omega, by omega, by omega⟩
              case measure => simp [intOf]; omega
          · have e : q = Z := by rw [← hZ.out]; exact hg.out.done HDW.out (by omega)
            clear step
            have E := Lib.hid e; clear e
            go_wp2_with fail
            go_meet
            exact ⟨by rw [E.out], rfl⟩
  
    case rest =>
      obtain ⟨rfl, rfl⟩ := hcut
      go_wp2_with fail
      go_ret2
      exact ⟨rfl, rfl⟩

/-- What a shift by t does to two words. -/
theorem shift_parts (hi lo y t : Nat) (ht : t ≤ 63) (hlo : lo < 18446744073709551616) (hh : hi < y) (hy : y * 2 ^ t < 18446744073709551616) :
    (hi * 2 ^ t ||| lo / 2 ^ (64 - t)) * 18446744073709551616 + lo * 2 ^ t % 18446744073709551616 = (hi * 18446744073709551616 + lo) * 2 ^ t ∧ (hi * 2 ^ t ||| lo / 2 ^ (64 - t)) < y * 2 ^ t ∧ hi * 2 ^ t < 18446744073709551616 ∧ lo / 2 ^ (64 - t) < 18446744073709551616 := by
  have e64 : 2 ^ (64 - t) * 2 ^ t = 18446744073709551616 := by rw [← Nat.pow_add, show 64 - t + t = 64 by omega]
  have P : 0 < 2 ^ t := Nat.two_pow_pos t
  have P' : 0 < 2 ^ (64 - t) := Nat.two_pow_pos _
  have b : lo / 2 ^ (64 - t) < 2 ^ t := by
    rw [Nat.div_lt_iff_lt_mul P', Nat.mul_comm, e64]; exact hlo
  have o : hi * 2 ^ t ||| lo / 2 ^ (64 - t) = hi * 2 ^ t + lo / 2 ^ (64 - t) := by
    rw [Nat.mul_comm hi, ← Nat.two_pow_add_eq_or_of_lt b hi]
  have m : lo * 2 ^ t = lo / 2 ^ (64 - t) * 18446744073709551616 + lo * 2 ^ t % 18446744073709551616 := by
    have h := Nat.div_add_mod (lo * 2 ^ t) 18446744073709551616
    have q : lo * 2 ^ t / 18446744073709551616 = lo / 2 ^ (64 - t) := by rw [← e64, Nat.mul_div_mul_right _ _ P]
    rw [q] at h; omega
  have k : (hi + 1) * 2 ^ t ≤ y * 2 ^ t := Nat.mul_le_mul_right _ hh
  rw [Nat.add_mul, Nat.one_mul] at k
  rw [o]
  refine ⟨?_, by omega, by omega, Nat.lt_of_le_of_lt (Nat.div_le_self _ _) hlo⟩
  rw [Nat.add_mul, Nat.add_mul, m]
  have : hi * 18446744073709551616 * 2 ^ t = hi * 2 ^ t * 18446744073709551616 := by rw [Nat.mul_right_comm]
  omega

theorem div64_nums (hi lo y t : Nat) (h2' : lo < 18446744073709551616) (h4 : hi < y) (ht : t ≤ 63) (y1 : y * 2 ^ t < 18446744073709551616) (y2 : 9223372036854775808 ≤ y * 2 ^ t) :
    ∃ Y Y1 Y0 U V V1 V0 Q W Z X : Int,
      IntKind.u64.wrap ((y : Int) * 2 ^ (t : Int).toNat) = Y ∧ Y / 4294967296 = Y1 ∧ bits BinOp.and IntKind.u64 Y 4294967295 = Y0 ∧
      bits BinOp.or IntKind.u64 (IntKind.u64.wrap ((hi : Int) * 2 ^ (t : Int).toNat)) ((lo : Int) / 2 ^ ((64 : Int) - (t : Int)).toNat) = U ∧
      IntKind.u64.wrap ((lo : Int) * 2 ^ (t : Int).toNat) = V ∧ V / 4294967296 = V1 ∧ bits BinOp.and IntKind.u64 V 4294967295 = V0 ∧
      Digit U Y Y1 Y0 V1 ∧ (U * 4294967296 + V1) / Y = Q ∧ 0 ≤ Q ∧ Q ≤ 4294967295 ∧
      IntKind.u64.wrap (IntKind.u64.wrap (IntKind.u64.wrap (U * 4294967296) + V1) - IntKind.u64.wrap (Q * Y)) = W ∧
      Digit W Y Y1 Y0 V0 ∧ (W * 4294967296 + V0) / Y = Z ∧ 0 ≤ Z ∧ Z ≤ 4294967295 ∧
      IntKind.u64.wrap (IntKind.u64.wrap (IntKind.u64.wrap (W * 4294967296) + V0) - IntKind.u64.wrap (Z * Y)) = X ∧ 0 ≤ X ∧
      Q * 4294967296 + Z = ((hi : Int) * 18446744073709551616 + (lo : Int)) / (y : Int) ∧ X / 2 ^ (t : Int).toNat = ((hi : Int) * 18446744073709551616 + (lo : Int)) % (y : Int) := by
  have P : 0 < 2 ^ t := Nat.two_pow_pos t
  obtain ⟨s1, s2, s3, s4⟩ := shift_parts hi lo y t ht h2' h4 y1
  have hU := bits_or_u64_nat (hi * 2 ^ t) (lo / 2 ^ (64 - t)) s3 s4
  have hA := Mul64.maskN (y * 2 ^ t) y1
  have hB := Mul64.maskN (lo * 2 ^ t % 18446744073709551616) (Nat.mod_lt _ (by omega))
  have e1 : (y : Int) * 2 ^ (t : Int).toNat = ((y * 2 ^ t : Nat) : Int) := by rw [Int.toNat_natCast, Int.natCast_mul, Int.natCast_pow]; rfl
  have e2 : (hi : Int) * 2 ^ (t : Int).toNat = ((hi * 2 ^ t : Nat) : Int) := by rw [Int.toNat_natCast, Int.natCast_mul, Int.natCast_pow]; rfl
  have e3 : (lo : Int) * 2 ^ (t : Int).toNat = ((lo * 2 ^ t : Nat) : Int) := by rw [Int.toNat_natCast, Int.natCast_mul, Int.natCast_pow]; rfl
  have e4 : (lo : Int) / (2 : Int) ^ ((64 : Int) - (t : Int)).toNat = ((lo / 2 ^ (64 - t) : Nat) : Int) := by
    rw [Int.natCast_ediv, Int.natCast_pow, show ((64 : Int) - (t : Int)).toNat = 64 - t by omega]; rfl
  have s1' : ((hi * 2 ^ t ||| lo / 2 ^ (64 - t) : Nat) : Int) * 18446744073709551616 + ((lo * 2 ^ t % 18446744073709551616 : Nat) : Int) = ((hi : Int) * 18446744073709551616 + (lo : Int)) * (2 : Int) ^ t := by
    have h := congrArg (fun n : Nat => (n : Int)) s1
    have k : ((18446744073709551616 : Nat) : Int) = 18446744073709551616 := rfl
    have k2 : ((2 ^ t : Nat) : Int) = (2 : Int) ^ t := by rw [Int.natCast_pow]; rfl
    simp only [Int.natCast_add, Int.natCast_mul] at h
    rw [k, k2] at h
    exact h
  have eY : ((y * 2 ^ t : Nat) : Int) = (y : Int) * (2 : Int) ^ t := by rw [Int.natCast_mul, Int.natCast_pow]; rfl
  have w1 : IntKind.u64.wrap ((y * 2 ^ t : Nat) : Int) = ((y * 2 ^ t : Nat) : Int) := by rw [IntKind.wrap_u64]; omega
  have w2 : IntKind.u64.wrap ((hi * 2 ^ t : Nat) : Int) = ((hi * 2 ^ t : Nat) : Int) := by rw [IntKind.wrap_u64]; omega
  have w3 : IntKind.u64.wrap ((lo * 2 ^ t : Nat) : Int) = ((lo * 2 ^ t % 18446744073709551616 : Nat) : Int) := by rw [IntKind.wrap_u64]; omega
  have vlt : lo * 2 ^ t % 18446744073709551616 < 18446744073709551616 := Nat.mod_lt _ (by omega)
  rw [e1, e2, e3, e4, w1, w2, w3, hU]
  generalize (hi * 2 ^ t ||| lo / 2 ^ (64 - t)) = U at *
  generalize lo * 2 ^ t % 18446744073709551616 = V at *
  generalize y * 2 ^ t = Y at *
  have d1 : Digit (U : Int) (Y : Int) ((Y : Int) / 4294967296) ((Y % 4294967296 : Nat) : Int) ((V : Int) / 4294967296) :=
    ⟨by omega, by omega, by omega, by omega, by omega, by omega, by omega, by omega, by omega⟩
  have hW0 := Int.emod_nonneg ((U : Int) * 4294967296 + (V : Int) / 4294967296) (show (Y : Int) ≠ 0 by omega)
  have hW1 := Int.emod_lt_of_pos ((U : Int) * 4294967296 + (V : Int) / 4294967296) (show (0 : Int) < Y by omega)
  have d2 : Digit (((U : Int) * 4294967296 + (V : Int) / 4294967296) % Y) (Y : Int) ((Y : Int) / 4294967296) ((Y % 4294967296 : Nat) : Int) ((V % 4294967296 : Nat) : Int) :=
    ⟨by omega, by omega, by omega, by omega, by omega, hW0, hW1, by omega, by omega⟩
  have both := Digit.both (U := (U : Int)) (Y := (Y : Int)) (V1 := (V : Int) / 4294967296) (V0 := ((V % 4294967296 : Nat) : Int)) (by omega)
  have r1 := d1.rest (by omega)
  have r2 := d2.rest (by omega)
  have q1 := d1.lt; have q1' := d1.ge; have q2 := d2.lt; have q2' := d2.ge
  have wx0 := Int.emod_nonneg ((((U : Int) * 4294967296 + (V : Int) / 4294967296) % Y) * 4294967296 + ((V % 4294967296 : Nat) : Int)) (show (Y : Int) ≠ 0 by omega)
  have vv : ((V : Int) / 4294967296) * 4294967296 + ((V % 4294967296 : Nat) : Int) = (V : Int) := by omega
  rw [vv] at both
  have P0 : (0 : Int) < (2 : Int) ^ t := Int.pow_pos (by omega)
  have f1 : ((U : Int) * 18446744073709551616 + (V : Int)) / (Y : Int) = ((hi : Int) * 18446744073709551616 + (lo : Int)) / (y : Int) := by
    rw [s1', eY, Int.mul_ediv_mul_of_pos_left _ _ P0]
  have f2 : ((U : Int) * 18446744073709551616 + (V : Int)) % (Y : Int) / (2 : Int) ^ t = ((hi : Int) * 18446744073709551616 + (lo : Int)) % (y : Int) := by
    rw [s1', eY, Int.mul_comm _ ((2 : Int) ^ t), Int.mul_comm (y : Int), Int.mul_emod_mul_of_pos _ _ P0, Int.mul_ediv_cancel_left _ (Int.ne_of_gt P0)]
  refine ⟨_, _, _, _, _, _, _, _, _, _, _, rfl, rfl, hA, rfl, rfl, rfl, hB, d1, rfl, q1', by omega, ?_, d2, rfl, q2', by omega, ?_, wx0, ?_, ?_⟩
  · exact (wrapU3 _ _ _).trans r1
  · exact (wrapU3 _ _ _).trans r2
  · rw [both.1, f1]
  · rw [both.2, Int.toNat_natCast, f2]

theorem div64_high (hi lo y : Nat) (w : World) (h2 : 1 ≤ hi) (h2' : lo < 18446744073709551616) (h3 : y < 18446744073709551616) (h4 : hi < y) :
    Calls Try.prog 135 #[.int .u64 (hi : Int), .int .u64 (lo : Int), .int .u64 (y : Int)] w fun e w' => e = .returned (.tuple #[.int .u64 (((hi : Int) * 18446744073709551616 + (lo : Int)) / (y : Int)), .int .u64 (((hi : Int) * 18446744073709551616 + (lo : Int)) % (y : Int))]) ∧ w' = w := by
  obtain ⟨t, ht, y1, y2, es⟩ : ∃ t : Nat, t ≤ 63 ∧ y * 2 ^ t < 18446744073709551616 ∧ 9223372036854775808 ≤ y * 2 ^ t ∧ (64 : Int) - (Lib.bitLen (y : Int).toNat : Int) = (t : Int) := by
    obtain ⟨b1, b2, b3⟩ := Lib.bitLenAux_bounds 64 y (by omega) (by omega)
    have b4 : Lib.bitLenAux 64 y ≤ 64 := Lib.bitLen_le y 64 (by omega) (by omega)
    rw [show Lib.bitLen ((y : Int).toNat) = Lib.bitLenAux 64 y from rfl]
    generalize Lib.bitLenAux 64 y = b at *
    obtain ⟨t, rfl⟩ : ∃ t, b = 64 - t := ⟨64 - b, by omega⟩
    refine ⟨t % 64, by omega, ?_, ?_, by omega⟩
    · have := Nat.mul_lt_mul_of_pos_right b3 (Nat.two_pow_pos (t % 64))
      rw [← Nat.pow_add, show 64 - t + t % 64 = 64 by omega] at this
      omega
    · have := Nat.mul_le_mul_right (2 ^ (t % 64)) b2
      rw [← Nat.pow_add, show 64 - t - 1 + t % 64 = 63 by omega] at this
      omega
  have HL : Hid (∀ w, Calls Try.prog 137 #[.int .u64 (y : Int)] w fun e w' => e = .returned (.int .i64 (t : Int)) ∧ w' = w) := by
    intro w; rw [← es]; exact Try.bits_LeadingZeros64 (y : Int) w (by omega) (by omega)
  obtain ⟨Y, Y1, Y0, U, V, V1, V0, Q, W, Z, X, k1, k2, k3, k4, k5, k6, k7, d1, k8, k9, k10, k11, d2, k12, k13, k14, k15, k16, k17, k18⟩ := div64_nums hi lo y t h2' h4 ht y1 y2
  rw [← k17, ← k18]
  exact div64_walk (hi : Int) (lo : Int) (y : Int) (t : Int) Y Y1 Y0 U V V1 V0 w (by omega) (by omega) (by omega) (by omega) (by omega) (by omega) (by omega) HL k1 k2 k3 k4 k5 k6 k7 d1 Q k8 k9 k10 W k11 d2 Z k12 k13 k14 X k15 k16

theorem div64_any (hi lo y : Int) (h0 : 0 ≤ hi) (h4 : hi < y) (h1 : 0 ≤ lo) (h2 : lo ≤ 18446744073709551615) (h3 : y ≤ 18446744073709551615) (w : World) :
    Calls Try.prog 135 #[.int .u64 hi, .int .u64 lo, .int .u64 y] w fun e w' => e = .returned (.tuple #[.int .u64 ((hi * 18446744073709551616 + lo) / y), .int .u64 ((hi * 18446744073709551616 + lo) % y)]) ∧ Below w.heap.size w w' := by
  rcases (show hi = 0 ∨ 1 ≤ hi by omega) with h | h
  · subst h
    refine (div64_low lo y h1 (by omega) w h2 h3).mono fun e w' ⟨he, n, hw⟩ => ⟨?_, ?_⟩
    · rw [he, Int.zero_mul, Int.zero_add]
    · rw [hw]; exact below_drewN (Below.refl _ _) n
  · obtain ⟨hi, rfl⟩ := Int.eq_ofNat_of_zero_le h0
    obtain ⟨lo, rfl⟩ := Int.eq_ofNat_of_zero_le h1
    obtain ⟨y, rfl⟩ := Int.eq_ofNat_of_zero_le (show 0 ≤ y by omega)
    refine (div64_high hi lo y w (by omega) (by omega) (by omega) (by omega)).mono fun e w' ⟨he, hw⟩ => ⟨he, ?_⟩
    rw [hw]; exact Below.refl _ _
end Go.Proofs.Ytcafmmhjlecgpaa
