/-
  Layer 2: operations of two values, by the code.
-/
import Derived.Test.YtefphhhmibnjiaaIPoint
import Derived.Laws.EntriesVeiled
namespace Go.Proofs.Ytefphhhmibnjiaa
open Go.RowKit
set_option linter.unusedVariables false
set_option linter.unusedSimpArgs false

/-- The result of an operation, before it is brought into the range. -/
def zipRaw (how a b : Int) : Int := if how = 1 then a + b else if how = 2 then a - b else if how = 3 then min a b else if how = 4 then max a b else if how = 5 then a * b else max (a - b) (b - a)
theorem mul_vv {a b : Int} (ha : okV a) (hb : okV b) : -4611686018427387904 ≤ a * b ∧ a * b ≤ 4611686018427387904 := by
  have h := Int.natAbs_mul a b
  have h1 : a.natAbs ≤ 2147483648 := by unfold okV at ha; omega
  have h2 : b.natAbs ≤ 2147483648 := by unfold okV at hb; omega
  have h3 := Nat.mul_le_mul h1 h2
  omega
set_option maxHeartbeats 1000000 in
theorem oper1_any (a b : Int) (ha : okV a) (hb : okV b) (w : World) : Calls Try.prog 123 #[.int .i64 a, .int .i64 b] w fun e w' => e = .returned (.int .i64 (zipRaw 1 a b)) ∧ w = w' := by
  obtain ⟨a1, a2⟩ := ha
  obtain ⟨b1, b2⟩ := hb
  go_enter Try.func123, Try.ntmps123
  go_wp2
  go_ret
  exact ⟨rfl, rfl⟩
set_option maxHeartbeats 1000000 in
theorem oper2_any (a b : Int) (ha : okV a) (hb : okV b) (w : World) : Calls Try.prog 124 #[.int .i64 a, .int .i64 b] w fun e w' => e = .returned (.int .i64 (zipRaw 2 a b)) ∧ w = w' := by
  obtain ⟨a1, a2⟩ := ha
  obtain ⟨b1, b2⟩ := hb
  go_enter Try.func124, Try.ntmps124
  go_wp2
  go_ret
  exact ⟨rfl, rfl⟩
set_option maxHeartbeats 1000000 in
theorem oper3_any (a b : Int) (w : World) : Calls Try.prog 125 #[.int .i64 a, .int .i64 b] w fun e w' => e = .returned (.int .i64 (zipRaw 3 a b)) ∧ w = w' := by
  go_enter Try.func125, Try.ntmps125
  go_wp2
  all_goals
    go_ret
    exact ⟨ret_int (show _ = min a b by omega), rfl⟩
set_option maxHeartbeats 1000000 in
theorem oper4_any (a b : Int) (w : World) : Calls Try.prog 126 #[.int .i64 a, .int .i64 b] w fun e w' => e = .returned (.int .i64 (zipRaw 4 a b)) ∧ w = w' := by
  go_enter Try.func126, Try.ntmps126
  go_wp2
  all_goals
    go_ret
    exact ⟨ret_int (show _ = max a b by omega), rfl⟩
set_option maxHeartbeats 1000000 in
theorem oper5_any (a b : Int) (ha : okV a) (hb : okV b) (w : World) : Calls Try.prog 127 #[.int .i64 a, .int .i64 b] w fun e w' => e = .returned (.int .i64 (zipRaw 5 a b)) ∧ w = w' := by
  have hm := mul_vv ha hb
  have hw : IntKind.i64.wrap (a * b) = a * b := IntWalk.i64_in _ (by omega)
  go_enter Try.func127, Try.ntmps127
  go_wp2
  go_ret
  exact ⟨rfl, rfl⟩
set_option maxHeartbeats 1000000 in
theorem oper6_any (a b : Int) (ha : okV a) (hb : okV b) (w : World) : Calls Try.prog 128 #[.int .i64 a, .int .i64 b] w fun e w' => e = .returned (.int .i64 (zipRaw 6 a b)) ∧ w = w' := by
  obtain ⟨a1, a2⟩ := ha
  obtain ⟨b1, b2⟩ := hb
  go_enter Try.func128, Try.ntmps128
  go_wp2
  all_goals
    go_ret
    exact ⟨ret_int (show _ = max (a - b) (b - a) by omega), rfl⟩

/-- The operations, by their numbers. -/
abbrev opers : Value := .agg #[.nilFunc, .func (.func 123) #[] #[], .func (.func 124) #[] #[], .func (.func 125) #[] #[], .func (.func 126) #[] #[], .func (.func 127) #[] #[], .func (.func 128) #[] #[]]
set_option maxHeartbeats 1000000 in
theorem operations_any (w : World) :
    Calls Try.prog 70 #[] w fun e w' => e = .returned opers ∧ Below w.heap.size w w' := by
  go_enter Try.func70, Try.ntmps70
  go_wp2
  exact bodyPost_ret (v := opers) (by simp only [results, Try.results70]; go_simp) rfl ⟨rfl, by (repeat' (first | (with_reducible exact Below.refl _ _) | (with_reducible assumption) | (with_reducible refine belowThru ?_ (by assumption)) | (with_reducible refine belowAlloc ?_) | (with_reducible refine Below.setCell ?_ (by first | omega | (simp; done) | (simp; omega)) _) | (with_reducible refine Below.drew ?_) | (with_reducible refine below_drewN ?_ _)))⟩

theorem hold4 {w : World} {b0 b1 b2 b3 : Nat} {c0 c1 c2 c3 : Array Value} {t0 t1 t2 t3 : TypeId} {B D F J E G : Prop} (h : (Blk w b0 c0 t0 ∧ B) ∧ (Blk w b1 c1 t1 ∧ D) ∧ (Blk w b2 c2 t2 ∧ F) ∧ (Blk w b3 c3 t3 ∧ J) ∧ E) (g : Blk w b0 c0 t0 → Blk w b1 c1 t1 → Blk w b2 c2 t2 → Blk w b3 c3 t3 → E → G) : G := g h.1.1 h.2.1.1 h.2.2.1.1 h.2.2.2.1.1 h.2.2.2.2
set_option maxRecDepth 100000 in
set_option maxHeartbeats 4000000 in
theorem zip1_any (W H x y r : Int) (F : FuncId) (a a' : Option Addr) (n n' c c' : Nat) (za zb : List Int) (hI : okI W H za) (hJ : okI W H zb) (hp : inP W H x y) (bo ba bb : Nat) (w : World)
    (hR : Row w a n (iv za)) (hS : Row w a' n' (iv zb)) (ko : Blk w bo #[.func (.func F) #[] #[]] 96) (ka : Blk w ba #[.int .i64 W, .int .i64 H, .slice a n c] 24) (kb : Blk w bb #[.int .i64 W, .int .i64 H, .slice a' n' c'] 24)
    (ef : ∀ args w, (callFunc F args).run Try.prog w = .ok (.enter F args) w)
    (HF : Hid (∀ w, Calls Try.prog F #[.int .i64 (pixAt W za x y), .int .i64 (pixAt W zb x y)] w fun e w' => e = .returned (.int .i64 r) ∧ w = w')) :
    Calls Try.prog 71 #[.agg #[.int .i64 x, .int .i64 y], .pointer (some ⟨bo, 0, none⟩), .pointer (some ⟨ba, 0, none⟩), .pointer (some ⟨bb, 0, none⟩)] w fun e w' => e = .returned (.int .i64 r) ∧ Below w.heap.size w w' := by
  have HA := Lib.hid (fun w hR => at_z W H x y a n c za hI hp w hR)
  have HB := Lib.hid (fun w hR => at_z W H x y a' n' c' zb hJ hp w hR)
  have HR := Lib.hid hR
  have HS := Lib.hid hS
  have z1 := ko.lt; have z2 := ka.lt; have z3 := kb.lt
  clear hR hS hI hJ hp
  go_enter Try.func71, Try.ntmps71
  go_wp2
  have k0 : Blk (w.alloc (.cells #[.int .i64 x, .int .i64 y] 94)) w.heap.size #[.int .i64 x, .int .i64 y] 94 := Blk.new rfl
  have k1 := ko.alloc (o := .cells #[.int .i64 x, .int .i64 y] 94)
  have k2 := ka.alloc (o := .cells #[.int .i64 x, .int .i64 y] 94)
  have k3 := kb.alloc (o := .cells #[.int .i64 x, .int .i64 y] 94)
  have hB : Below w.heap.size w (w.alloc (.cells #[.int .i64 x, .int .i64 y] 94)) := by (repeat' (first | (with_reducible exact Below.refl _ _) | (with_reducible assumption) | (with_reducible refine belowThru ?_ (by assumption)) | (with_reducible refine belowAlloc ?_) | (with_reducible refine Below.setCell ?_ (by first | omega | (simp; done) | (simp; omega)) _) | (with_reducible refine Below.drew ?_) | (with_reducible refine below_drewN ?_ _)))
  obtain ⟨W0, hW0⟩ : ∃ W0, w.alloc (.cells #[.int .i64 x, .int .i64 y] 94) = W0 := ⟨_, rfl⟩
  rw [hW0] at k0 k1 k2 k3 hB ⊢
  clear hW0 ko ka kb
  go_region_held3 (fun w' => (Blk w' w.heap.size #[.int .i64 x, .int .i64 y] 94 ∧ (∀ i : Nat, w'.cell? ⟨w.heap.size, i, none⟩ = (#[.int .i64 x, .int .i64 y] : Array Value)[i]?)) ∧ (Blk w' bo #[.func (.func F) #[] #[]] 96 ∧ (∀ i : Nat, w'.cell? ⟨bo, i, none⟩ = (#[.func (.func F) #[] #[]] : Array Value)[i]?)) ∧ (Blk w' ba #[.int .i64 W, .int .i64 H, .slice a n c] 24 ∧ (∀ i : Nat, w'.cell? ⟨ba, i, none⟩ = (#[.int .i64 W, .int .i64 H, .slice a n c] : Array Value)[i]?)) ∧ (Blk w' bb #[.int .i64 W, .int .i64 H, .slice a' n' c'] 24 ∧ (∀ i : Nat, w'.cell? ⟨bb, i, none⟩ = (#[.int .i64 W, .int .i64 H, .slice a' n' c'] : Array Value)[i]?)) ∧ Below w.heap.size w w')
    (((first | (apply hold4; (focus assumption); intro p0 p1 p2 p3 pB) | skip); refine ⟨Blk.full ?_, Blk.full ?_, Blk.full ?_, Blk.full ?_, ?_⟩; all_goals (first | ((repeat' (first | (with_reducible assumption) | ((with_reducible refine Blk.new ?_); first | rfl | (simp; done)) | (with_reducible refine Blk.later (by assumption) ?_) | (with_reducible refine Blk.alloc ?_) | (with_reducible refine Blk.drewN ?_) | (with_reducible refine Blk.drew ?_) | (with_reducible refine Blk.other ?_ (by first | omega | (simp; done) | (simp; omega))))); done) | ((repeat' (first | (with_reducible exact Below.refl _ _) | (with_reducible assumption) | (with_reducible refine belowThru ?_ (by assumption)) | (with_reducible refine belowAlloc ?_) | (with_reducible refine Below.setCell ?_ (by first | omega | (simp; done) | (simp; omega)) _) | (with_reducible refine Below.drew ?_) | (with_reducible refine below_drewN ?_ _))); done))))
    (first
    | (go_at_call 69; (with_reducible refine (HA.out _ (HR.out.later (by (first | (apply hold4; (focus assumption); intro p0 p1 p2 p3 pB) | skip); (repeat' (first | (with_reducible exact Below.refl _ _) | (with_reducible assumption) | (with_reducible refine belowThru ?_ (by assumption)) | (with_reducible refine belowAlloc ?_) | (with_reducible refine Below.setCell ?_ (by first | omega | (simp; done) | (simp; omega)) _) | (with_reducible refine Below.drew ?_) | (with_reducible refine below_drewN ?_ _)))))).mono ?_); rintro e w1 ⟨rfl, hb⟩)
    | (go_at_call 69; (with_reducible refine (HB.out _ (HS.out.later (by (first | (apply hold4; (focus assumption); intro p0 p1 p2 p3 pB) | skip); (repeat' (first | (with_reducible exact Below.refl _ _) | (with_reducible assumption) | (with_reducible refine belowThru ?_ (by assumption)) | (with_reducible refine belowAlloc ?_) | (with_reducible refine Below.setCell ?_ (by first | omega | (simp; done) | (simp; omega)) _) | (with_reducible refine Below.drew ?_) | (with_reducible refine below_drewN ?_ _)))))).mono ?_); rintro e w1 ⟨rfl, hb⟩)
    | (go_at_fn F; (with_reducible refine (HF.out _).mono ?_); rintro e w1 ⟨rfl, rfl⟩))
  all_goals
    apply hold4; (focus assumption); intro p0 p1 p2 p3 pB
    go_wp2_with fail
    go_ret
    exact ⟨rfl, pB⟩
end Go.Proofs.Ytefphhhmibnjiaa
