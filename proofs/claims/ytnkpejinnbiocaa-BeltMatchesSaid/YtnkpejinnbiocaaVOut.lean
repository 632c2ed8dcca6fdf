/-
  Layer 9: what is left, what leaves.
-/
import Derived.Test.YtnkpejinnbiocaaVHit
namespace Go.Proofs.Ytnkpejinnbiocaa
open Go.RowKit Go.Shelf
set_option linter.unusedVariables false
set_option linter.unusedSimpArgs false

section
variable {α : Type} {P : Program} {t ts : TypeId} {k : Nat} {en : α → List Value}
/-- What append makes of a slice of one's own and one element that was just laid. -/
theorem run_append_1 (E : Elem P t ts k en) (ty : TypeId) {B : Nat} {w : World} {u : Value} {ys : List α} (x : α) (hO : OwnK t k en B w u ys) (hl : ys.length ≤ 1000000) (hB : B ≤ w.heap.size) :
    ∃ r w', (Builtin.append_ #[ts, ts] ty #[u, .slice (some ⟨w.heap.size, 0, none⟩) 1 1]).run P (w.alloc (.cells (en x).toArray t)) = .ok r w' ∧ (OwnK t k en B w' r (ys ++ [x]) ∧ (w.alloc (.cells (en x).toArray t)).grownBy w' u.ownBlock ∧ Below B w w' ∧ (r.ownBlock = u.ownBlock ∨ r.ownBlock = some (w.heap.size + 1))) := by
  obtain ⟨v', w', h1, h2, h3, h4, h5⟩ := run_append_k E ty (OwnK.alloc (o := .cells (en x).toArray t) hO) (rowK_one E (w := w.alloc (.cells (en x).toArray t)) (x := x) (Blk.new rfl)) (by omega) (by simp; omega)
  exact ⟨v', w', h1, h2, h3, Below.trans ((Below.refl _ _).alloc hB _) h4, by simpa using h5⟩
end
set_option maxRecDepth 100000 in
set_option maxHeartbeats 16000000 in
theorem without_any (a : Option Addr) (n c : Nat) (xs : List Sn) (f : FuncId) (lb : Array Value) (pr : Sn → Bool) (ef : ∀ args w, (callFunc f args).run Try.prog w = .ok (.enter f args) w) (hn : n ≤ 1000000) (w : World) (hR : RowK 4 sn1 w a n xs)
    (HV : Hid (∀ (q1 q2 q3 : Int) (q4 : Bool) (W1 : World), (q1, q2, q3, q4) ∈ xs → Below w.heap.size w W1 → Calls Try.prog f (#[.agg #[.int .i64 q1, .int .i64 q2, .int .u8 q3, .bool q4]] ++ lb) W1 fun e W2 => e = .returned (.bool (pr (q1, q2, q3, q4))) ∧ Below W1.heap.size W1 W2)) :
    Calls Try.prog 46 #[.slice a n c, .func (.func f) #[] lb] w fun e w' => (∃ v, e = .returned v ∧ OwnK 43 4 sn1 w.heap.size w' v (xs.filter fun x => !pr x)) ∧ Below w.heap.size w w' := by
  have hlen : xs.length = n := hR.1
  have HL := Lib.hid hlen
  have HR := Lib.hid hR
  clear hlen hR
  go_enter Try.func46, Try.ntmps46
  go_wp2_with fail
  go_loopw [5, 10] (fun u i wr => ∃ k : Nat, k ≤ n ∧ i = .int .i64 k ∧ Hid (OwnK 43 4 sn1 w.heap.size wr u ((xs.take k).filter fun x => !pr x)) ∧ Below w.heap.size w wr) (fun _ i _ => n - (intOf i).toNat)
  case atStart => exact ⟨0, Nat.zero_le _, rfl, OwnK.nil _ _, Below.refl _ _⟩
  case round =>
    obtain ⟨k, hk, rfl, ht, hB⟩ := hrel
    by_cases hlt : k < n
    · obtain ⟨bb, oo, q1, q2, q3, q4, rfl, hbb, hxk, d0, d1, d2, d3⟩ := HR.out.seen hlt
      have d0 := cell_later hB d0
      have d1 := cell_later hB d1
      have d2 := cell_later hB d2
      have d3 := cell_later hB d3
      have p0 : (0 : Int) ≤ (k : Int) := by omega
      have p1 : (k : Int) < (n : Int) := by omega
      have HV1 := Lib.hid (fun W1 => HV.out q1 q2 q3 q4 W1 (List.mem_of_getElem? hxk))
      have hfl : (xs.take (k + 1)).filter (fun x => !pr x) = (xs.take k).filter (fun x => !pr x) ++ (if pr (q1, q2, q3, q4) then [] else [(q1, q2, q3, q4)]) := by
        rw [List.take_add_one, hxk, List.filter_append]
        congr 1
        cases h : pr (q1, q2, q3, q4) <;> simp [h]
      have hln : ((xs.take k).filter fun x => !pr x).length ≤ 1000000 := by
        have := List.length_filter_le (fun x => !pr x) (xs.take k)
        rw [List.length_take] at this
        omega
      obtain ⟨ys, hys⟩ : ∃ ys, (xs.take k).filter (fun x => !pr x) = ys := ⟨_, rfl⟩
      rw [hys] at ht hfl hln
      have HFL := Lib.hid hfl
      have HLN := Lib.hid hln
      clear hxk hfl hys hln
      cases hp : pr (q1, q2, q3, q4) with
      | true =>
        rw [hp] at HV1
        have ht' : Hid (∀ W, Below wr.heap.size wr W → OwnK 43 4 sn1 w.heap.size W u5 ((xs.take (k + 1)).filter fun x => !pr x)) := fun W hW => by
          rw [HFL.out, hp]; simpa using OwnK.later hW ht.out
        clear hp ht
        go_wp2_with (go_at_fn f; (with_reducible refine (HV1.out _ (by (repeat' (first | (with_reducible exact Below.refl _ _) | (with_reducible assumption) | (with_reducible refine belowThru ?_ (by assumption)) | (with_reducible refine belowAlloc ?_) | (with_reducible refine Below.setCell ?_ (by first | omega | (simp; done) | (simp; omega)) _) | (with_reducible refine Below.drew ?_) | (with_reducible refine below_drewN ?_ _))))).mono ?_); rintro e wA ⟨rfl, hA⟩; have hBr : Below wr.heap.size wr wA := (belowThru (belowAlloc (Below.refl _ _)) hA); have hBA : Below w.heap.size w wA := (belowThru hB hBr))
        go_roundw
        case rel => exact ⟨k + 1, hlt, by go_num, ht'.out _ hBr, hBA⟩
        case measure => simp [intOf]; omega
      | false =>
        rw [hp] at HV1
        have HA : Hid (∀ (wA : World), Below wr.heap.size wr wA → ∀ ty, ∃ r w', (Builtin.append_ #[24, 24] ty #[u5, .slice (some ⟨wA.heap.size, 0, none⟩) 1 1]).run Try.prog (wA.alloc (.cells #[.int .i64 q1, .int .i64 q2, .int .u8 q3, .bool q4] 43)) = .ok r w' ∧ (Hid (OwnK 43 4 sn1 w.heap.size w' r ((xs.take (k + 1)).filter fun x => !pr x)) ∧ Below w.heap.size wA w')) := fun wA hW ty => by
          obtain ⟨r, w', h1, h2, h3, h4, h5⟩ := run_append_1 elem_sn ty (q1, q2, q3, q4) (OwnK.later hW ht.out) HLN.out (Nat.le_trans hB.size hW.size)
          refine ⟨r, w', h1, ?_, h4⟩
          rw [HFL.out, hp]
          exact h2
        clear hp ht
        go_wp2_with (first
          | (go_at_fn f; (with_reducible refine (HV1.out _ (by (repeat' (first | (with_reducible exact Below.refl _ _) | (with_reducible assumption) | (with_reducible refine belowThru ?_ (by assumption)) | (with_reducible refine belowAlloc ?_) | (with_reducible refine Below.setCell ?_ (by first | omega | (simp; done) | (simp; omega)) _) | (with_reducible refine Below.drew ?_) | (with_reducible refine below_drewN ?_ _))))).mono ?_); rintro e wA ⟨rfl, hA⟩; have hBr : Below wr.heap.size wr wA := (belowThru (belowAlloc (Below.refl _ _)) hA); have hBA : Below w.heap.size w wA := (belowThru hB hBr); have kP : Blk wA wr.heap.size #[.int .i64 q1, .int .i64 q2, .int .u8 q3, .bool q4] 43 := Blk.later hA (Blk.new rfl); obtain ⟨a1, b1⟩ := kP.read; have y1 := kP.lt)
          | (at_builtin; (refine wpList_append_row rfl _ _ _ _ rfl _ _ rfl rfl (HA.out _ hBr _) ?_); (rintro r w1 ⟨hO, hb⟩)))
        go_roundw
        case rel => exact ⟨k + 1, hlt, by go_num, hO, hBA.trans hb⟩
        case measure => simp [intOf]; omega
    · have e : xs.take k = xs := List.take_of_length_le (by rw [HL.out]; omega)
      rw [e] at ht
      clear e
      go_wp2
      go_ret
      exact ⟨⟨_, rfl, ht.out⟩, hB⟩
theorem field_w (x y : Int) (w : World) : Sem.run Try.prog (Instr.field 81 (.agg #[.int .i64 x, .int .i64 y]) 1) w = .ok (.int .i64 y) w := by
  kernel_rfl
set_option maxRecDepth 100000 in
set_option maxHeartbeats 16000000 in
theorem leaves_any (q1 q2 q3 : Int) (q4 : Bool) (F L s p g l c nx : Int) (v : Value) (Bg Bt : Nat) (hF : 1 ≤ F ∧ F ≤ 2000001) (hL : 1 ≤ L ∧ L ≤ 2000001) (hq : 0 ≤ q2 ∧ q2 ≤ 1099511627776) (w : World) (k1 : Blk w Bg #[.int .i64 F, .int .i64 L] 81) (k2 : Blk w Bt #[.int .i64 s, .int .i64 p, .int .i64 g, .int .i64 l, .int .i64 c, .int .i64 nx, v] 26) :
    Calls Try.prog 45 #[.agg #[.int .i64 q1, .int .i64 q2, .int .u8 q3, .bool q4], .pointer (some ⟨Bg, 0, none⟩), .pointer (some ⟨Bt, 0, none⟩)] w fun e w' => e = .returned (.bool (goB L c (q1, q2, q3, q4))) ∧ Below w.heap.size w w' := by
  have HF := Lib.hid (after_any F L q2 ⟨by omega, hF.2⟩ ⟨by omega, hL.2⟩ hq)
  have e : goB L c (q1, q2, q3, q4) = (q2 + L == c) := rfl
  rw [e]
  have hfd := fun w => field_w (q2 + F) (q2 + L) w
  clear hF hL hq e
  go_enter Try.func45, Try.ntmps45
  go_wp2_with fail
  obtain ⟨Wp, hWp⟩ : ∃ Wp, w.alloc (.cells #[.int .i64 q1, .int .i64 q2, .int .u8 q3, .bool q4] 43) = Wp := ⟨_, rfl⟩
  have nk0 : Blk Wp (w.heap.size) #[.int .i64 q1, .int .i64 q2, .int .u8 q3, .bool q4] 43 := by rw [← hWp]; (repeat' (first | (with_reducible assumption) | ((with_reducible refine Blk.new ?_); first | rfl | (simp; done)) | (with_reducible refine Blk.later (by assumption) ?_) | (with_reducible refine Blk.alloc ?_) | (with_reducible refine Blk.drewN ?_) | (with_reducible refine Blk.drew ?_) | (with_reducible refine Blk.other ?_ (by first | omega | (simp; done) | (simp; omega)))))
  have nk1 : Blk Wp (Bg) #[.int .i64 F, .int .i64 L] 81 := by rw [← hWp]; (repeat' (first | (with_reducible assumption) | ((with_reducible refine Blk.new ?_); first | rfl | (simp; done)) | (with_reducible refine Blk.later (by assumption) ?_) | (with_reducible refine Blk.alloc ?_) | (with_reducible refine Blk.drewN ?_) | (with_reducible refine Blk.drew ?_) | (with_reducible refine Blk.other ?_ (by first | omega | (simp; done) | (simp; omega)))))
  have nk2 : Blk Wp (Bt) #[.int .i64 s, .int .i64 p, .int .i64 g, .int .i64 l, .int .i64 c, .int .i64 nx, v] 26 := by rw [← hWp]; (repeat' (first | (with_reducible assumption) | ((with_reducible refine Blk.new ?_); first | rfl | (simp; done)) | (with_reducible refine Blk.later (by assumption) ?_) | (with_reducible refine Blk.alloc ?_) | (with_reducible refine Blk.drewN ?_) | (with_reducible refine Blk.drew ?_) | (with_reducible refine Blk.other ?_ (by first | omega | (simp; done) | (simp; omega)))))
  have nhB : Below w.heap.size w Wp := by rw [← hWp]; (repeat' (first | (with_reducible exact Below.refl _ _) | (with_reducible assumption) | (with_reducible refine belowThru ?_ (by assumption)) | (with_reducible refine belowAlloc ?_) | (with_reducible refine Below.setCell ?_ (by first | omega | (simp; done) | (simp; omega)) _) | (with_reducible refine Below.drew ?_) | (with_reducible refine below_drewN ?_ _)))
  rw [hWp]; clear hWp
  clear k1 k2
  have y0 := nk0.lt; have y1 := nk1.lt; have y2 := nk2.lt
  go_region_held3 (fun w' => (Blk w' (w.heap.size) #[.int .i64 q1, .int .i64 q2, .int .u8 q3, .bool q4] 43 ∧ (∀ i : Nat, w'.cell? ⟨w.heap.size, i, none⟩ = (#[.int .i64 q1, .int .i64 q2, .int .u8 q3, .bool q4] : Array Value)[i]?)) ∧ (Blk w' (Bg) #[.int .i64 F, .int .i64 L] 81 ∧ (∀ i : Nat, w'.cell? ⟨Bg, i, none⟩ = (#[.int .i64 F, .int .i64 L] : Array Value)[i]?)) ∧ (Blk w' (Bt) #[.int .i64 s, .int .i64 p, .int .i64 g, .int .i64 l, .int .i64 c, .int .i64 nx, v] 26 ∧ (∀ i : Nat, w'.cell? ⟨Bt, i, none⟩ = (#[.int .i64 s, .int .i64 p, .int .i64 g, .int .i64 l, .int .i64 c, .int .i64 nx, v] : Array Value)[i]?)) ∧ Below Wp.heap.size Wp w')
    (((first | (apply hold3; (focus assumption); intro p0 p1 p2 pB) | skip); refine ⟨Blk.full ?_, Blk.full ?_, Blk.full ?_, ?_⟩; all_goals (first | ((repeat' (first | (with_reducible assumption) | ((with_reducible refine Blk.new ?_); first | rfl | (simp; done)) | (with_reducible refine Blk.later (by assumption) ?_) | (with_reducible refine Blk.alloc ?_) | (with_reducible refine Blk.drewN ?_) | (with_reducible refine Blk.drew ?_) | (with_reducible refine Blk.other ?_ (by first | omega | (simp; done) | (simp; omega))))); done) | ((repeat' (first | (with_reducible exact Below.refl _ _) | (with_reducible assumption) | (with_reducible refine belowThru ?_ (by assumption)) | (with_reducible refine belowAlloc ?_) | (with_reducible refine Below.setCell ?_ (by first | omega | (simp; done) | (simp; omega)) _) | (with_reducible refine Below.drew ?_) | (with_reducible refine below_drewN ?_ _))); done) | exact Below.refl _ _)))
    (first
    | (go_at_call 35; (with_reducible refine (HF.out _).mono ?_); rintro e w1 ⟨rfl, hb⟩))
  all_goals
    apply hold3; (focus assumption); intro p0 p1 p2 pB
    go_wp2_with fail
    go_ret
    exact ⟨rfl, belowThru nhB pB⟩
end Go.Proofs.Ytnkpejinnbiocaa
