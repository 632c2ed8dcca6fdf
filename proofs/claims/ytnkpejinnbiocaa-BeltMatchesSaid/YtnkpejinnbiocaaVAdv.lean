/-
  Layer 9: Advance, by the code.
-/
import Derived.WalkMore
import Derived.Deep.LoopGhost
import Derived.Test.YtnkpejinnbiocaaVOut
namespace Go.Proofs.Ytnkpejinnbiocaa
open Go.RowKit Go.Shelf
set_option linter.unusedVariables false
set_option linter.unusedSimpArgs false

theorem Blk.set7 {w : World} {b : Nat} {x0 x1 x2 x3 x4 x5 x6 : Value} {t : TypeId} (h : Blk w b #[x0, x1, x2, x3, x4, x5, x6] t) (y0 y1 y2 y3 y4 y5 y6 : Value) :
    Blk (((((((w.setCell ⟨b, 0, none⟩ y0).setCell ⟨b, 1, none⟩ y1).setCell ⟨b, 2, none⟩ y2).setCell ⟨b, 3, none⟩ y3).setCell ⟨b, 4, none⟩ y4).setCell ⟨b, 5, none⟩ y5).setCell ⟨b, 6, none⟩ y6) b #[y0, y1, y2, y3, y4, y5, y6] t := by
  have h0 : Blk _ b #[y0, x1, x2, x3, x4, x5, x6] t := Blk.set (i := 0) (v := y0) h
  have h1 : Blk _ b #[y0, y1, x2, x3, x4, x5, x6] t := Blk.set (i := 1) (v := y1) h0
  have h2 : Blk _ b #[y0, y1, y2, x3, x4, x5, x6] t := Blk.set (i := 2) (v := y2) h1
  have h3 : Blk _ b #[y0, y1, y2, y3, x4, x5, x6] t := Blk.set (i := 3) (v := y3) h2
  have h4 : Blk _ b #[y0, y1, y2, y3, y4, x5, x6] t := Blk.set (i := 4) (v := y4) h3
  have h5 : Blk _ b #[y0, y1, y2, y3, y4, y5, x6] t := Blk.set (i := 5) (v := y5) h4
  exact (Blk.set (i := 6) (v := y6) h5 : Blk _ b #[y0, y1, y2, y3, y4, y5, y6] t)
set_option maxRecDepth 100000 in
set_option maxHeartbeats 16000000 in
theorem adv_bad (s p g l c nx m : Int) (a : Option Addr) (n cap : Nat) (xs : List Sn) (E : Int) (hE : (E != 0) = true) (w : World) (hR : RowK 4 sn1 w a n xs) (HC : Hid (∀ w, RowK 4 sn1 w a n xs → Calls Try.prog 14 #[.agg #[.int .i64 s, .int .i64 p, .int .i64 g, .int .i64 l, .int .i64 c, .int .i64 nx, .slice a n cap]] w fun e w' => e = .returned (.int .i64 E) ∧ Below w.heap.size w w')) :
    Calls Try.prog 19 #[.agg #[.int .i64 s, .int .i64 p, .int .i64 g, .int .i64 l, .int .i64 c, .int .i64 nx, .slice a n cap], .int .i64 m] w fun e w' => e = .returned (.tuple #[.agg #[.int .i64 0, .int .i64 0, .int .i64 0, .int .i64 0, .int .i64 0, .int .i64 0, .slice none 0 0], .slice none 0 0, .int .i64 E]) ∧ Below w.heap.size w w' := by
  have HR := Lib.hid hR
  clear hR
  go_enter Try.func19, Try.ntmps19
  go_wp2_with fail
  go_step3
  go_wp2_with fail
  refine (HC.out _ (HR.out.later (by (repeat' (first | (with_reducible exact Below.refl _ _) | (with_reducible assumption) | (with_reducible refine belowThru ?_ (by assumption)) | (with_reducible refine belowAlloc ?_) | (with_reducible refine Below.setCell ?_ (by first | omega | (simp; done) | (simp; omega)) _) | (with_reducible refine Below.drew ?_) | (with_reducible refine below_drewN ?_ _)))))).mono ?_
  rintro e w1 ⟨rfl, hb⟩
  have kT : Blk w1 w.heap.size #[.int .i64 s, .int .i64 p, .int .i64 g, .int .i64 l, .int .i64 c, .int .i64 nx, .slice a n cap] 26 := Blk.later hb (Blk.alloc (Blk.new rfl))
  have kR : Blk w1 (w.heap.size + 1) #[.int .i64 0, .int .i64 0, .int .i64 0, .int .i64 0, .int .i64 0, .int .i64 0, .slice none 0 0] 26 := Blk.later hb (Blk.new (by simp))
  have hB : Below w.heap.size w w1 := belowThru (belowAlloc (belowAlloc (Below.refl _ _))) hb
  clear hb
  obtain ⟨aT, bT⟩ := kT.read; obtain ⟨aR, bR⟩ := kR.read; have yT := kT.lt; have yR := kR.lt
  go_wp2_with fail
  have q2 := (kR.set7 (.int .i64 0) (.int .i64 0) (.int .i64 0) (.int .i64 0) (.int .i64 0) (.int .i64 0) (.slice none 0 0)).cells
  rw [Exit.noGoto_ret]
  exact bodyPost_ret (v := .tuple #[.agg #[.int .i64 0, .int .i64 0, .int .i64 0, .int .i64 0, .int .i64 0, .int .i64 0, .slice none 0 0], .slice none 0 0, .int .i64 E]) (by simp only [results, Try.results19]; go_simp) rfl ⟨rfl, by (repeat' (first | (with_reducible exact Below.refl _ _) | (with_reducible assumption) | (with_reducible refine belowThru ?_ (by assumption)) | (with_reducible refine belowAlloc ?_) | (with_reducible refine Below.setCell ?_ (by first | omega | (simp; done) | (simp; omega)) _) | (with_reducible refine Below.drew ?_) | (with_reducible refine below_drewN ?_ _)))⟩
set_option maxRecDepth 100000 in
set_option maxHeartbeats 16000000 in
theorem adv_arg (s p g l c nx m : Int) (a : Option Addr) (n cap : Nat) (xs : List Sn) (w : World) (hR : RowK 4 sn1 w a n xs) (HC : Hid (∀ w, RowK 4 sn1 w a n xs → Calls Try.prog 14 #[.agg #[.int .i64 s, .int .i64 p, .int .i64 g, .int .i64 l, .int .i64 c, .int .i64 nx, .slice a n cap]] w fun e w' => e = .returned (.int .i64 0) ∧ Below w.heap.size w w')) (H1 : Hid (∀ w, Calls Try.prog 39 #[.int .i64 m, .int .i64 1, .int .i64 1000] w fun e w' => e = .returned (.bool false) ∧ w = w')) :
    Calls Try.prog 19 #[.agg #[.int .i64 s, .int .i64 p, .int .i64 g, .int .i64 l, .int .i64 c, .int .i64 nx, .slice a n cap], .int .i64 m] w fun e w' => e = .returned (.tuple #[.agg #[.int .i64 0, .int .i64 0, .int .i64 0, .int .i64 0, .int .i64 0, .int .i64 0, .slice none 0 0], .slice none 0 0, .int .i64 2]) ∧ Below w.heap.size w w' := by
  have HR := Lib.hid hR
  clear hR
  go_enter Try.func19, Try.ntmps19
  go_wp2_with fail
  go_step3
  go_wp2_with fail
  refine (HC.out _ (HR.out.later (by (repeat' (first | (with_reducible exact Below.refl _ _) | (with_reducible assumption) | (with_reducible refine belowThru ?_ (by assumption)) | (with_reducible refine belowAlloc ?_) | (with_reducible refine Below.setCell ?_ (by first | omega | (simp; done) | (simp; omega)) _) | (with_reducible refine Below.drew ?_) | (with_reducible refine below_drewN ?_ _)))))).mono ?_
  rintro e w1 ⟨rfl, hb⟩
  have kT : Blk w1 w.heap.size #[.int .i64 s, .int .i64 p, .int .i64 g, .int .i64 l, .int .i64 c, .int .i64 nx, .slice a n cap] 26 := Blk.later hb (Blk.alloc (Blk.new rfl))
  have kR : Blk w1 (w.heap.size + 1) #[.int .i64 0, .int .i64 0, .int .i64 0, .int .i64 0, .int .i64 0, .int .i64 0, .slice none 0 0] 26 := Blk.later hb (Blk.new (by simp))
  have hB : Below w.heap.size w w1 := belowThru (belowAlloc (belowAlloc (Below.refl _ _))) hb
  clear hb
  obtain ⟨aT, bT⟩ := kT.read; obtain ⟨aR, bR⟩ := kR.read; have yT := kT.lt; have yR := kR.lt
  go_wp2_with (go_at_call 39; ((with_reducible refine (H1.out _).mono ?_); rintro e w2 ⟨rfl, rfl⟩))
  have q2 := (kR.set7 (.int .i64 0) (.int .i64 0) (.int .i64 0) (.int .i64 0) (.int .i64 0) (.int .i64 0) (.slice none 0 0)).cells
  rw [Exit.noGoto_ret]
  exact bodyPost_ret (v := .tuple #[.agg #[.int .i64 0, .int .i64 0, .int .i64 0, .int .i64 0, .int .i64 0, .int .i64 0, .slice none 0 0], .slice none 0 0, .int .i64 2]) (by simp only [results, Try.results19]; go_simp) rfl ⟨rfl, by (repeat' (first | (with_reducible exact Below.refl _ _) | (with_reducible assumption) | (with_reducible refine belowThru ?_ (by assumption)) | (with_reducible refine belowAlloc ?_) | (with_reducible refine Below.setCell ?_ (by first | omega | (simp; done) | (simp; omega)) _) | (with_reducible refine Below.drew ?_) | (with_reducible refine below_drewN ?_ _)))⟩
set_option maxRecDepth 100000 in
set_option maxHeartbeats 16000000 in
theorem adv_full (s p g l c nx m : Int) (a : Option Addr) (n cap : Nat) (xs : List Sn) (hc : 0 ≤ c ∧ c ≤ 1099511627776) (hm : 1 ≤ m ∧ m ≤ 1000) (hf : 1099511627776 < c + m) (w : World) (hR : RowK 4 sn1 w a n xs) (HC : Hid (∀ w, RowK 4 sn1 w a n xs → Calls Try.prog 14 #[.agg #[.int .i64 s, .int .i64 p, .int .i64 g, .int .i64 l, .int .i64 c, .int .i64 nx, .slice a n cap]] w fun e w' => e = .returned (.int .i64 0) ∧ Below w.heap.size w w')) (H1 : Hid (∀ w, Calls Try.prog 39 #[.int .i64 m, .int .i64 1, .int .i64 1000] w fun e w' => e = .returned (.bool true) ∧ w = w')) :
    Calls Try.prog 19 #[.agg #[.int .i64 s, .int .i64 p, .int .i64 g, .int .i64 l, .int .i64 c, .int .i64 nx, .slice a n cap], .int .i64 m] w fun e w' => e = .returned (.tuple #[.agg #[.int .i64 0, .int .i64 0, .int .i64 0, .int .i64 0, .int .i64 0, .int .i64 0, .slice none 0 0], .slice none 0 0, .int .i64 9]) ∧ Below w.heap.size w w' := by
  obtain ⟨c1, c2⟩ := hc; obtain ⟨m1, m2⟩ := hm
  have v1 : IntKind.i64.wrap (c + m) = c + m := IntWalk.i64_in _ (by omega)
  have HR := Lib.hid hR
  clear hR
  go_enter Try.func19, Try.ntmps19
  go_wp2_with fail
  go_step3
  go_wp2_with fail
  refine (HC.out _ (HR.out.later (by (repeat' (first | (with_reducible exact Below.refl _ _) | (with_reducible assumption) | (with_reducible refine belowThru ?_ (by assumption)) | (with_reducible refine belowAlloc ?_) | (with_reducible refine Below.setCell ?_ (by first | omega | (simp; done) | (simp; omega)) _) | (with_reducible refine Below.drew ?_) | (with_reducible refine below_drewN ?_ _)))))).mono ?_
  rintro e w1 ⟨rfl, hb⟩
  have kT : Blk w1 w.heap.size #[.int .i64 s, .int .i64 p, .int .i64 g, .int .i64 l, .int .i64 c, .int .i64 nx, .slice a n cap] 26 := Blk.later hb (Blk.alloc (Blk.new rfl))
  have kR : Blk w1 (w.heap.size + 1) #[.int .i64 0, .int .i64 0, .int .i64 0, .int .i64 0, .int .i64 0, .int .i64 0, .slice none 0 0] 26 := Blk.later hb (Blk.new (by simp))
  have hB : Below w.heap.size w w1 := belowThru (belowAlloc (belowAlloc (Below.refl _ _))) hb
  clear hb
  obtain ⟨aT, bT⟩ := kT.read; obtain ⟨aR, bR⟩ := kR.read; have yT := kT.lt; have yR := kR.lt
  go_wp2_with (go_at_call 39; ((with_reducible refine (H1.out _).mono ?_); rintro e w2 ⟨rfl, rfl⟩))
  have q2 := (kR.set7 (.int .i64 0) (.int .i64 0) (.int .i64 0) (.int .i64 0) (.int .i64 0) (.int .i64 0) (.slice none 0 0)).cells
  rw [Exit.noGoto_ret]
  exact bodyPost_ret (v := .tuple #[.agg #[.int .i64 0, .int .i64 0, .int .i64 0, .int .i64 0, .int .i64 0, .int .i64 0, .slice none 0 0], .slice none 0 0, .int .i64 9]) (by simp only [results, Try.results19]; go_simp) rfl ⟨rfl, by (repeat' (first | (with_reducible exact Below.refl _ _) | (with_reducible assumption) | (with_reducible refine belowThru ?_ (by assumption)) | (with_reducible refine belowAlloc ?_) | (with_reducible refine Below.setCell ?_ (by first | omega | (simp; done) | (simp; omega)) _) | (with_reducible refine Below.drew ?_) | (with_reducible refine below_drewN ?_ _)))⟩
theorem Blk.but {w w' : World} {b : Nat} {c : Array Value} {t : TypeId} {row : Option Nat} (h : Blk w b c t) (hg : w.grownBy w' row) (hne : some b ≠ row) : Blk w' b c t := (hg.block b h.lt hne).trans h
theorem OwnK.other7 {α : Type} {t : TypeId} {k : Nat} {en : α → List Value} {B b : Nat} {w : World} {v : Value} {xs : List α} (h : OwnK t k en B w v xs) (y0 y1 y2 y3 y4 y5 y6 : Value) (hn : v.ownBlock ≠ some b) :
    OwnK t k en B (((((((w.setCell ⟨b, 0, none⟩ y0).setCell ⟨b, 1, none⟩ y1).setCell ⟨b, 2, none⟩ y2).setCell ⟨b, 3, none⟩ y3).setCell ⟨b, 4, none⟩ y4).setCell ⟨b, 5, none⟩ y5).setCell ⟨b, 6, none⟩ y6) v xs :=
  ((((((h.other hn).other hn).other hn).other hn).other hn).other hn).other hn
theorem OwnK.apart {α β : Type} {t t' : TypeId} {k k' : Nat} {en : α → List Value} {en' : β → List Value} {B B' : Nat} {w : World} {v u : Value} {xs : List α} {ys : List β} (h : OwnK t k en B w v xs) (h' : OwnK t' k' en' B' w u ys) (ht : t' ≠ t) : v.ownBlock = none ∨ v.ownBlock ≠ u.ownBlock := by
  rcases h'.2 with ⟨rfl, -⟩ | ⟨g, cap, cur, rfl, hb1, hh, hr⟩
  · rcases h.2 with ⟨rfl, -⟩ | ⟨g, cap, cur, rfl, hb1, hh, hr⟩
    · exact .inl rfl
    · exact .inr (by simp [Value.ownBlock])
  · exact .inr (h.ne (b := g) (c := cur) (t' := t') hh ht)
theorem adB_at {f z : Int} {p : Int → Prop} (n : Nat) {c : Int} {xs : List Sn} (h : ∀ x ∈ xs, p x.2.1) : ∀ x ∈ (adB f z n c xs).1, p x.2.1 := by
  induction n generalizing c xs with
  | zero => exact h
  | succ n ih =>
    refine ih (c := c + 1) (xs := leftB f z (c + 1) xs) (fun x hx => ?_)
    unfold leftB hitB at hx
    obtain ⟨y, hy, rfl⟩ := List.mem_map.1 (List.mem_filter.1 hx).1
    rw [(hitI_fst _ _ _ _ y).2.1]
    exact h y hy
theorem hitB_at {f z c : Int} {p : Int → Prop} {xs : List Sn} (h : ∀ x ∈ xs, p x.2.1) : ∀ x ∈ hitB f z c xs, p x.2.1 := fun x hx => by
  unfold hitB at hx
  obtain ⟨y, hy, rfl⟩ := List.mem_map.1 hx
  rw [(hitI_fst _ _ _ _ y).2.1]
  exact h y hy
set_option maxRecDepth 100000 in
set_option maxHeartbeats 16000000 in
theorem hit_any (g n cap : Nat) (xs : List Sn) (F L c : Int) (B : Nat) (hF : 1 ≤ F ∧ F ≤ 2000001) (hL : 1 ≤ L ∧ L ≤ 2000001) (hx : ∀ x ∈ xs, 0 ≤ x.2.1 ∧ x.2.1 ≤ 1099511627776) (hnm : n ≤ maxLen) (hcap : n ≤ cap) (w : World) (hg : g < w.heap.size) (hO : OwnK 43 4 sn1 B w (.slice (some ⟨g, 0, none⟩) n cap) xs) (hlen : xs.length = n) :
    Calls Try.prog 44 #[.slice (some ⟨g, 0, none⟩) n cap, .agg #[.int .i64 F, .int .i64 L], .int .i64 c] w fun e w' => e = .returned (.tuple #[]) ∧ OwnK 43 4 sn1 B w' (.slice (some ⟨g, 0, none⟩) n cap) (hitB F L c xs) ∧ w.grownBy w' (some g) := by
  have hR : RowK 4 sn1 w (some ⟨g, 0, none⟩) n xs := by
    obtain ⟨a, c, e, hr, -⟩ := hO.row elem_sn
    rw [hlen] at e hr
    cases e
    exact hr
  have HI := fun (w : World) (h : RowK 4 sn1 w (some ⟨g, 0, none⟩) n xs) => isOpen_any (some ⟨g, 0, none⟩) n cap xs F L c hF hL hx hnm w h
  cases h : opB F L c xs with
  | true =>
    rw [hitB_yes h]
    exact hit_yes g n cap xs F L c B hF hL hx hnm hcap w hg hO hlen (fun w hr => by have := HI w hr; rwa [h] at this)
  | false =>
    rw [hitB_no h]
    exact (hit_no (some ⟨g, 0, none⟩) n cap xs F L c w hR (fun w hr => by have := HI w hr; rwa [h] at this)).mono fun e w' ⟨h1, h2⟩ => ⟨h1, OwnK.later h2 hO, ⟨h2.os, h2.tape, h2.output, h2.size, fun k hk _ => h2.block k hk⟩⟩
set_option maxRecDepth 100000 in
set_option maxHeartbeats 16000000 in
theorem adv_yes (s p g l c nx F L : Int) (M : Nat) (a : Option Addr) (n cap : Nat) (xs : List Sn) (hF : 1 ≤ F ∧ F ≤ 2000001) (hL : 1 ≤ L ∧ L ≤ 2000001) (hx : ∀ x ∈ xs, 0 ≤ x.2.1 ∧ x.2.1 ≤ 1099511627776) (hn : n ≤ 32) (hc : 0 ≤ c ∧ c ≤ 1099511627776) (hM : 1 ≤ M ∧ M ≤ 1000) (hf : c + (M : Int) ≤ 1099511627776) (w : World) (hR : RowK 4 sn1 w a n xs)
    (HC : Hid (∀ w, RowK 4 sn1 w a n xs → Calls Try.prog 14 #[.agg #[.int .i64 s, .int .i64 p, .int .i64 g, .int .i64 l, .int .i64 c, .int .i64 nx, .slice a n cap]] w fun e w' => e = .returned (.int .i64 0) ∧ Below w.heap.size w w'))
    (HW : Hid (∀ w, Calls Try.prog 34 #[.agg #[.int .i64 s, .int .i64 p, .int .i64 g, .int .i64 l], .int .i64 g] w fun e w' => e = .returned (.agg #[.int .i64 F, .int .i64 L]) ∧ Below w.heap.size w w')) :
    Calls Try.prog 19 #[.agg #[.int .i64 s, .int .i64 p, .int .i64 g, .int .i64 l, .int .i64 c, .int .i64 nx, .slice a n cap], .int .i64 (M : Int)] w fun e w' => (∃ v uf, e = .returned (.tuple #[.agg #[.int .i64 s, .int .i64 p, .int .i64 g, .int .i64 l, .int .i64 (c + (M : Int)), .int .i64 nx, v], uf, .int .i64 0]) ∧ OwnK 43 4 sn1 w.heap.size w' v (adB F L M c xs).1 ∧ OwnK 74 3 ft1 w.heap.size w' uf (adB F L M c xs).2) ∧ Below w.heap.size w w' := by
  have H1 : Hid (∀ w, Calls Try.prog 39 #[.int .i64 (M : Int), .int .i64 1, .int .i64 1000] w fun e w' => e = .returned (.bool true) ∧ w = w') := vwithin_yes _ 1 1000 (by omega) (by omega)
  have hlen : xs.length = n := hR.1
  have HLn := Lib.hid hlen
  have HR := Lib.hid hR
  have HX := Lib.hid hx
  obtain ⟨c1, c2⟩ := hc
  obtain ⟨m1, m2⟩ := hM
  obtain ⟨E, hE⟩ : ∃ E, c + (M : Int) = E := ⟨_, rfl⟩
  have HE := Lib.hid hE
  have v1 : IntKind.i64.wrap (c + (M : Int)) = E := by rw [← hE]; exact IntWalk.i64_in _ (by omega)
  have e1 : E ≤ 1099511627776 := by omega
  rw [hE]
  clear hR hlen hx hE hf
  go_enter Try.func19, Try.ntmps19
  go_wp2_with fail
  go_step3
  go_wp2_with fail
  refine (HC.out _ (HR.out.later (by (repeat' (first | (with_reducible exact Below.refl _ _) | (with_reducible assumption) | (with_reducible refine belowThru ?_ (by assumption)) | (with_reducible refine belowAlloc ?_) | (with_reducible refine Below.setCell ?_ (by first | omega | (simp; done) | (simp; omega)) _) | (with_reducible refine Below.drew ?_) | (with_reducible refine below_drewN ?_ _)))))).mono ?_
  rintro e w1 ⟨rfl, hb⟩
  have kT : Blk w1 w.heap.size #[.int .i64 s, .int .i64 p, .int .i64 g, .int .i64 l, .int .i64 c, .int .i64 nx, .slice a n cap] 26 := Blk.later hb (Blk.alloc (Blk.new rfl))
  have kR : Blk w1 (w.heap.size + 1) #[.int .i64 0, .int .i64 0, .int .i64 0, .int .i64 0, .int .i64 0, .int .i64 0, .slice none 0 0] 26 := Blk.later hb (Blk.new (by simp))
  have hB : Below w.heap.size w w1 := belowThru (belowAlloc (belowAlloc (Below.refl _ _))) hb
  clear hb
  obtain ⟨aT, bT⟩ := kT.read; obtain ⟨aR, bR⟩ := kR.read; have yT := kT.lt; have yR := kR.lt
  go_wp2_with (go_at_call 39; ((with_reducible refine (H1.out _).mono ?_); rintro e w2 ⟨rfl, rfl⟩))
  refine (HW.out _).mono ?_
  rintro e w2 ⟨rfl, hb⟩
  clear aT bT aR bR yT yR
  replace kT := Blk.later hb kT
  replace kR := Blk.later hb kR
  replace hB := belowThru hB hb
  clear hb
  obtain ⟨aT, bT⟩ := kT.read; have yT := kT.lt; have yR := kR.lt
  go_wp2_with fail
  clear aT bT
  obtain ⟨Wp, hWp⟩ : ∃ W, w2.alloc (.cells #[.int .i64 F, .int .i64 L] 81) = W := ⟨_, rfl⟩
  have kG : Blk Wp w2.heap.size #[.int .i64 F, .int .i64 L] 81 := by rw [← hWp]; exact Blk.new rfl
  replace kT : Blk Wp w.heap.size #[.int .i64 s, .int .i64 p, .int .i64 g, .int .i64 l, .int .i64 c, .int .i64 nx, .slice a n cap] 26 := by rw [← hWp]; exact Blk.alloc kT
  replace kR : Blk Wp (w.heap.size + 1) #[.int .i64 0, .int .i64 0, .int .i64 0, .int .i64 0, .int .i64 0, .int .i64 0, .slice none 0 0] 26 := by rw [← hWp]; exact Blk.alloc kR
  replace hB : Below w.heap.size w Wp := by rw [← hWp]; exact belowAlloc hB
  rw [hWp]
  obtain ⟨bG, hbG⟩ : ∃ bG, w2.heap.size = bG := ⟨_, rfl⟩
  rw [hbG] at kG ⊢
  have zTG : w.heap.size ≠ bG := by omega
  have zRG : w.heap.size + 1 ≠ bG := by omega
  clear hWp hbG yT yR
  refine (cloneS_any a n cap xs (by omega) _ (HR.out.later hB)).mono ?_
  rintro e w3 ⟨⟨v0, rfl, hV⟩, hb⟩
  replace kT := Blk.later hb kT
  replace kR := Blk.later hb kR
  replace kG := Blk.later hb kG
  replace hV := OwnK.mono hB.size hV
  replace hB := belowThru hB hb
  clear hb
  obtain ⟨a1, n1, c1', rfl, hn1⟩ : ∃ a1 n1 c1, v0 = .slice a1 n1 c1 ∧ xs.length = n1 := by
    obtain ⟨a, c, e, -⟩ := hV.row elem_sn
    exact ⟨a, _, c, e, rfl⟩
  obtain ⟨aT, bT⟩ := kT.read; have yT := kT.lt
  have HN1 := Lib.hid hn1
  clear hn1
  go_wp2_with fail
  go_step3
  go_wp2_with fail
  clear aT bT
  have hU : OwnK 74 3 ft1 w.heap.size w3 (.slice none 0 0) [] := OwnK.nil _ _
  have jT : Blk (w3.setCell ⟨w.heap.size, 6, none⟩ (.slice a1 n1 c1')) w.heap.size #[.int .i64 s, .int .i64 p, .int .i64 g, .int .i64 l, .int .i64 c, .int .i64 nx, .slice a1 n1 c1'] 26 := Blk.set (i := 6) (v := .slice a1 n1 c1') kT
  have jR : Blk (w3.setCell ⟨w.heap.size, 6, none⟩ (.slice a1 n1 c1')) (w.heap.size + 1) #[.int .i64 0, .int .i64 0, .int .i64 0, .int .i64 0, .int .i64 0, .int .i64 0, .slice none 0 0] 26 := Blk.other kR (by simp)
  have jG : Blk (w3.setCell ⟨w.heap.size, 6, none⟩ (.slice a1 n1 c1')) bG #[.int .i64 F, .int .i64 L] 81 := Blk.other kG (fun e => zTG e.symm)
  have jV : OwnK 43 4 sn1 w.heap.size (w3.setCell ⟨w.heap.size, 6, none⟩ (.slice a1 n1 c1')) (.slice a1 n1 c1') xs := hV.other (hV.ne kT (by decide))
  have jU : OwnK 74 3 ft1 w.heap.size (w3.setCell ⟨w.heap.size, 6, none⟩ (.slice a1 n1 c1')) (.slice none 0 0) [] := OwnK.nil _ _
  have jB : Below w.heap.size w (w3.setCell ⟨w.heap.size, 6, none⟩ (.slice a1 n1 c1')) := hB.setCell (Nat.le_refl _) _
  clear kT kR kG hV hU hB yT
  go_loopg [10] M (fun gg uf wr => ∃ (j : Nat) (cj : Int) (av : Option Addr) (nv cv : Nat), j + gg = M ∧ Hid (cj = c + (j : Int)) ∧ Hid ((adB F L j c xs).1.length = nv) ∧ Hid (OwnK 43 4 sn1 w.heap.size wr (.slice av nv cv) (adB F L j c xs).1) ∧ Hid (OwnK 74 3 ft1 w.heap.size wr uf (adB F L j c xs).2) ∧ Blk wr w.heap.size #[.int .i64 s, .int .i64 p, .int .i64 g, .int .i64 l, .int .i64 cj, .int .i64 nx, .slice av nv cv] 26 ∧ Blk wr (w.heap.size + 1) #[.int .i64 0, .int .i64 0, .int .i64 0, .int .i64 0, .int .i64 0, .int .i64 0, .slice none 0 0] 26 ∧ Blk wr bG #[.int .i64 F, .int .i64 L] 81 ∧ Below w.heap.size w wr)
  case atStart => exact ⟨0, c, a1, n1, c1', by omega, (by show c = c + ((0 : Nat) : Int); omega), HN1.out, jV, jU, jT, jR, jG, jB⟩
  case round =>
    clear jT jR jG jV jU jB HN1
    obtain ⟨j, cj, av, nv, cv, hj, HCJ, HNV, hV, hU, kT, kR, kG, hB⟩ := hrel
    obtain ⟨aT, bT⟩ := kT.read; have yT := kT.lt
    obtain ⟨aR, bR⟩ := kR.read; have yR := kR.lt
    have hlv := adB_length F L j c xs
    have hav := adB_at (f := F) (z := L) (p := fun t => 0 ≤ t ∧ t ≤ 1099511627776) j (c := c) HX.out
    have hnv : nv ≤ 32 := by rw [← HNV.out]; have := HLn.out; omega
    have hcj : 0 ≤ cj ∧ cj ≤ E := by rw [HCJ.out, ← HE.out]; omega
    obtain ⟨hcj1, hcj2⟩ := hcj
    have HAV := Lib.hid hav
    clear hlv hav
    by_cases hz : nv = 0
    · subst hz
      have hfin : adB F L M c xs = ([], (adB F L j c xs).2) := by
        have e0 : (adB F L j c xs).1 = [] := List.eq_nil_of_length_eq_zero HNV.out
        rw [show M = j + (M - j) by omega, adB_add, e0, adB_nil]
        simp
      have HFIN := Lib.hid hfin
      clear hfin
      have hnV := hV.out.ne kT (by decide)
      have hnV2 := hV.out.ne kR (by decide)
      have hnU := hU.out.ne kT (by decide)
      have hnU2 := hU.out.ne kR (by decide)
      have k4 : Blk (wr.setCell ⟨w.heap.size, 4, none⟩ (.int .i64 E)) w.heap.size #[.int .i64 s, .int .i64 p, .int .i64 g, .int .i64 l, .int .i64 E, .int .i64 nx, .slice av 0 cv] 26 := Blk.set (i := 4) (v := .int .i64 E) kT
      have k5 : Blk (wr.setCell ⟨w.heap.size, 4, none⟩ (.int .i64 E)) (w.heap.size + 1) #[.int .i64 0, .int .i64 0, .int .i64 0, .int .i64 0, .int .i64 0, .int .i64 0, .slice none 0 0] 26 := Blk.other kR (by simp)
      have q2 := (k5.set7 (.int .i64 s) (.int .i64 p) (.int .i64 g) (.int .i64 l) (.int .i64 E) (.int .i64 nx) (.slice av 0 cv)).cells
      have q3 := k4.cells
      have hV2 := hV.out.other (p := ⟨w.heap.size, 4, none⟩) (u := .int .i64 E) hnV
      have hU2 := hU.out.other (p := ⟨w.heap.size, 4, none⟩) (u := .int .i64 E) hnU
      have hV3 := Lib.hid (hV2.other7 (b := w.heap.size + 1) (.int .i64 s) (.int .i64 p) (.int .i64 g) (.int .i64 l) (.int .i64 E) (.int .i64 nx) (.slice av 0 cv) hnV2)
      have hU3 := Lib.hid (hU2.other7 (b := w.heap.size + 1) (.int .i64 s) (.int .i64 p) (.int .i64 g) (.int .i64 l) (.int .i64 E) (.int .i64 nx) (.slice av 0 cv) hnU2)
      clear hV2 hU2 hnV hnV2 hnU hnU2 k4 k5
      go_wp2_with fail
      rw [Exit.noGoto_ret]
      refine bodyPost_ret (v := .tuple #[.agg #[.int .i64 s, .int .i64 p, .int .i64 g, .int .i64 l, .int .i64 E, .int .i64 nx, .slice av 0 cv], u10, .int .i64 0]) (by simp only [results, Try.results19]; go_simp) rfl ⟨⟨_, _, rfl, ?_, ?_⟩, by (repeat' (first | (with_reducible exact Below.refl _ _) | (with_reducible assumption) | (with_reducible refine belowThru ?_ (by assumption)) | (with_reducible refine belowAlloc ?_) | (with_reducible refine Below.setCell ?_ (by first | omega | (simp; done) | (simp; omega)) _) | (with_reducible refine Below.drew ?_) | (with_reducible refine below_drewN ?_ _)))⟩
      · rw [HFIN.out]
        have e0 : (adB F L j c xs).1 = [] := List.eq_nil_of_length_eq_zero HNV.out
        have h := hV3.out
        rw [e0] at h
        exact h
      · rw [HFIN.out]; exact hU3.out
    · by_cases he : cj = E
      · have hfin : j = M := by have h1 := HCJ.out; have h2 := HE.out; omega
        subst hfin
        subst he
        have hd : ((nv : Int) == 0) = false := by simp; omega
        have hnV2 := hV.out.ne kR (by decide)
        have hnU2 := hU.out.ne kR (by decide)
        have q2 := (kR.set7 (.int .i64 s) (.int .i64 p) (.int .i64 g) (.int .i64 l) (.int .i64 cj) (.int .i64 nx) (.slice av nv cv)).cells
        have hV3 := Lib.hid (hV.out.other7 (b := w.heap.size + 1) (.int .i64 s) (.int .i64 p) (.int .i64 g) (.int .i64 l) (.int .i64 cj) (.int .i64 nx) (.slice av nv cv) hnV2)
        have hU3 := Lib.hid (hU.out.other7 (b := w.heap.size + 1) (.int .i64 s) (.int .i64 p) (.int .i64 g) (.int .i64 l) (.int .i64 cj) (.int .i64 nx) (.slice av nv cv) hnU2)
        clear hnV2 hnU2
        go_wp2_with fail
        rw [Exit.noGoto_ret]
        exact bodyPost_ret (v := .tuple #[.agg #[.int .i64 s, .int .i64 p, .int .i64 g, .int .i64 l, .int .i64 cj, .int .i64 nx, .slice av nv cv], u10, .int .i64 0]) (by simp only [results, Try.results19]; go_simp) rfl ⟨⟨_, _, rfl, hV3.out, hU3.out⟩, by (repeat' (first | (with_reducible exact Below.refl _ _) | (with_reducible assumption) | (with_reducible refine belowThru ?_ (by assumption)) | (with_reducible refine belowAlloc ?_) | (with_reducible refine Below.setCell ?_ (by first | omega | (simp; done) | (simp; omega)) _) | (with_reducible refine Below.drew ?_) | (with_reducible refine below_drewN ?_ _)))⟩
      · have hd : ((nv : Int) == 0) = false := by simp; omega
        have hd2 : (cj == E) = false := by simpa using he
        have hjM : j < M := by have h1 := HCJ.out; have h2 := HE.out; omega
        clear he
        obtain ⟨gV, capV, hform, hgB, hgc, hgm, hgl, -⟩ := hV.out.at0 elem_sn (by rw [HNV.out]; omega)
        rw [HNV.out] at hform hgc
        have hf2 : av = some ⟨gV, 0, none⟩ ∧ cv = capV := by simpa using hform
        obtain ⟨rfl, rfl⟩ := hf2
        clear hform hgm
        obtain ⟨ys, hys⟩ : ∃ ys, (adB F L j c xs).1 = ys := ⟨_, rfl⟩
        obtain ⟨fs, hfs⟩ : ∃ fs, (adB F L j c xs).2 = fs := ⟨_, rfl⟩
        rw [hys] at hV HNV HAV
        rw [hfs] at hU
        have HYS := Lib.hid hys; have HFS := Lib.hid hfs
        clear hys hfs
        obtain ⟨ck, hck⟩ : ∃ ck, cj + 1 = ck := ⟨_, rfl⟩
        have HCK := Lib.hid hck
        have v2 : IntKind.i64.wrap (cj + 1) = ck := by rw [← hck]; exact IntWalk.i64_in _ (by omega)
        clear hck
        obtain ⟨aG, bG2⟩ := kG.read; have yG := kG.lt
        go_wp2_with fail
        obtain ⟨W1, hW1⟩ : ∃ W, wr.setCell ⟨w.heap.size, 4, none⟩ (.int .i64 ck) = W := ⟨_, rfl⟩
        have kT1 : Blk W1 w.heap.size #[.int .i64 s, .int .i64 p, .int .i64 g, .int .i64 l, .int .i64 ck, .int .i64 nx, .slice (some ⟨gV, 0, none⟩) nv cv] 26 := by rw [← hW1]; exact Blk.set (i := 4) (v := .int .i64 ck) kT
        have kR1 : Blk W1 (w.heap.size + 1) #[.int .i64 0, .int .i64 0, .int .i64 0, .int .i64 0, .int .i64 0, .int .i64 0, .slice none 0 0] 26 := by rw [← hW1]; exact Blk.other kR (by simp)
        have kG1 : Blk W1 bG #[.int .i64 F, .int .i64 L] 81 := by rw [← hW1]; exact Blk.other kG (fun e => zTG e.symm)
        have hV1 : OwnK 43 4 sn1 w.heap.size W1 (.slice (some ⟨gV, 0, none⟩) nv cv) ys := by rw [← hW1]; exact hV.out.other (hV.out.ne kT (by decide))
        have hU1 : OwnK 74 3 ft1 w.heap.size W1 u10 fs := by rw [← hW1]; exact hU.out.other (hU.out.ne kT (by decide))
        have hB1 : Below w.heap.size w W1 := by rw [← hW1]; exact hB.setCell (Nat.le_refl _) _
        have hgl1 : gV < W1.heap.size := by rw [← hW1]; simpa [World.setCell] using hgl
        rw [hW1]
        clear hW1 kT kR kG aT bT aR bR aG bG2 hV hU hB yT yR yG hgl
        refine (hit_any gV nv cv ys F L ck w.heap.size hF hL HAV.out (by unfold maxLen; omega) hgc W1 hgl1 hV1 HNV.out).mono ?_
        rintro e W2 ⟨rfl, hV2, hG2⟩
        have kT2 := kT1.but hG2 (fun e => hV1.ne kT1 (by decide) e.symm)
        have kR2 := kR1.but hG2 (fun e => hV1.ne kR1 (by decide) e.symm)
        have kG2 := kG1.but hG2 (fun e => hV1.ne kG1 (by decide) e.symm)
        have hU2 : OwnK 74 3 ft1 w.heap.size W2 u10 fs := hU1.but hG2 (hU1.apart hV1 (by decide))
        have hB2 : Below w.heap.size w W2 := hB1.grown hG2 hB1.size (fun q hq => by cases hq; exact hgB)
        obtain ⟨zs, hzs⟩ : ∃ zs, hitB F L ck ys = zs := ⟨_, rfl⟩
        rw [hzs] at hV2
        have hza : ∀ x ∈ zs, 0 ≤ x.2.1 ∧ x.2.1 ≤ 1099511627776 := by rw [← hzs]; exact hitB_at (p := fun t => 0 ≤ t ∧ t ≤ 1099511627776) HAV.out
        have hzl : zs.length = nv := by rw [← hzs, ← HNV.out]; unfold hitB; exact List.length_map ..
        have HZA := Lib.hid hza; have HZL := Lib.hid hzl; have HZS := Lib.hid hzs
        clear kT1 kR1 kG1 hV1 hU1 hB1 hG2 hgl1 hza hzl hzs
        obtain ⟨aT, bT⟩ := kT2.read; have yT := kT2.lt
        go_wp2_with fail
        clear aT bT yT
        go_loopw [10, 67] (fun uf i w5 => ∃ k : Nat, k ≤ nv ∧ i = .int .i64 k ∧ Hid (OwnK 74 3 ft1 w.heap.size w5 uf (fs ++ ((zs.take k).filter (goB L ck)).map fateB)) ∧ Hid (OwnK 43 4 sn1 w.heap.size w5 (.slice (some ⟨gV, 0, none⟩) nv cv) zs) ∧ Blk w5 w.heap.size #[.int .i64 s, .int .i64 p, .int .i64 g, .int .i64 l, .int .i64 ck, .int .i64 nx, .slice (some ⟨gV, 0, none⟩) nv cv] 26 ∧ Blk w5 (w.heap.size + 1) #[.int .i64 0, .int .i64 0, .int .i64 0, .int .i64 0, .int .i64 0, .int .i64 0, .slice none 0 0] 26 ∧ Blk w5 bG #[.int .i64 F, .int .i64 L] 81 ∧ Below w.heap.size w w5) (fun _ i _ => nv - (intOf i).toNat)
        case atStart => exact ⟨0, Nat.zero_le _, rfl, (by show OwnK _ _ _ _ _ _ _; simpa using hU2), hV2, kT2, kR2, kG2, hB2⟩
        case round =>
          clear kT2 kR2 kG2 hV2 hU2 hB2
          obtain ⟨k, hk, rfl, hU, hV, kT, kR, kG, hB⟩ := hrel
          obtain ⟨aT, bT⟩ := kT.read; have yT := kT.lt
          by_cases hlt : k < nv
          · obtain ⟨⟨q1, q2, q3, q4⟩, hzk⟩ : ∃ x, zs[k]? = some x := ⟨zs[k]'(by rw [HZL.out]; exact hlt), List.getElem?_eq_getElem _⟩
            have hq := HZA.out _ (List.mem_of_getElem? hzk)
            have d0 := hV.out.cellsAt elem_sn hzk (i := 0) rfl
            have d1 := hV.out.cellsAt elem_sn hzk (i := 1) rfl
            have d2 := hV.out.cellsAt elem_sn hzk (i := 2) rfl
            have d3 := hV.out.cellsAt elem_sn hzk (i := 3) rfl
            rw [Nat.add_zero] at d0
            have p0 : (0 : Int) ≤ (k : Int) := by omega
            have p1 : (k : Int) < (nv : Int) := by omega
            have HLv := Lib.hid (leaves_any q1 q2 q3 q4 F L s p g l ck nx (.slice (some ⟨gV, 0, none⟩) nv cv) bG w.heap.size hF hL hq)
            have hfl : ((zs.take (k + 1)).filter (goB L ck)).map fateB = ((zs.take k).filter (goB L ck)).map fateB ++ (if goB L ck (q1, q2, q3, q4) then [(q1, q3, q4)] else []) := by
              rw [List.take_add_one, hzk, List.filter_append, List.map_append]
              congr 1
              cases h : goB L ck (q1, q2, q3, q4) <;> simp [h, fateB]
            have HFL := Lib.hid hfl
            have hfn : (fs ++ ((zs.take k).filter (goB L ck)).map fateB).length ≤ 1000000 := by
              have q := List.length_filter_le (goB L ck) (zs.take k)
              rw [List.length_take] at q
              have q2 := adB_length F L j c xs
              rw [HFS.out, HYS.out] at q2
              have := HLn.out
              rw [List.length_append, List.length_map]
              omega
            have HFN := Lib.hid hfn
            clear hzk hfl hq hfn
            go_wp2_with fail
            clear aT bT d0 d1 d2 d3
            obtain ⟨W6, hW6⟩ : ∃ W, wr.alloc (.cells #[.int .i64 q1, .int .i64 q2, .int .u8 q3, .bool q4] 43) = W := ⟨_, rfl⟩
            have kT6 : Blk W6 w.heap.size #[.int .i64 s, .int .i64 p, .int .i64 g, .int .i64 l, .int .i64 ck, .int .i64 nx, .slice (some ⟨gV, 0, none⟩) nv cv] 26 := by rw [← hW6]; exact kT.alloc
            have kR6 : Blk W6 (w.heap.size + 1) #[.int .i64 0, .int .i64 0, .int .i64 0, .int .i64 0, .int .i64 0, .int .i64 0, .slice none 0 0] 26 := by rw [← hW6]; exact kR.alloc
            have kG6 : Blk W6 bG #[.int .i64 F, .int .i64 L] 81 := by rw [← hW6]; exact kG.alloc
            have kP6 : Blk W6 wr.heap.size #[.int .i64 q1, .int .i64 q2, .int .u8 q3, .bool q4] 43 := by rw [← hW6]; exact Blk.new rfl
            have hV6 : OwnK 43 4 sn1 w.heap.size W6 (.slice (some ⟨gV, 0, none⟩) nv cv) zs := by rw [← hW6]; exact hV.out.alloc
            have hU6 : OwnK 74 3 ft1 w.heap.size W6 u10 (fs ++ ((zs.take k).filter (goB L ck)).map fateB) := by rw [← hW6]; exact hU.out.alloc
            have hB6 : Below w.heap.size w W6 := by rw [← hW6]; exact belowAlloc hB
            rw [hW6]
            clear hW6 kT kR kG hV hU hB yT
            refine (HLv.out W6 kG6 kT6).mono ?_
            rintro e W7 ⟨rfl, hb⟩
            replace kT6 := Blk.later hb kT6
            replace kR6 := Blk.later hb kR6
            replace kG6 := Blk.later hb kG6
            replace kP6 := Blk.later hb kP6
            replace hV6 := OwnK.later hb hV6
            replace hU6 := OwnK.later hb hU6
            replace hB6 := belowThru hB6 hb
            clear hb
            cases hgo : goB L ck (q1, q2, q3, q4) with
            | false =>
              have hrel : Hid (OwnK 74 3 ft1 w.heap.size W7 u10 (fs ++ ((zs.take (k + 1)).filter (goB L ck)).map fateB)) := by
                rw [HFL.out, hgo, if_neg (by decide), List.append_nil]; exact hU6
              have HV7 := Lib.hid hV6
              clear hgo hU6 hV6
              go_wp2_with fail
              go_roundw
              case rel => exact ⟨k + 1, hlt, by go_num, hrel, HV7, kT6, kR6, kG6, hB6⟩
              case measure => simp [intOf]; omega
            | true =>
              have HA : Hid (∀ ty, ∃ r w', (Builtin.append_ #[49, 49] ty #[u10, .slice (some ⟨W7.heap.size, 0, none⟩) 1 1]).run Try.prog (W7.alloc (.cells #[.int .i64 q1, .int .u8 q3, .bool q4] 74)) = .ok r w' ∧ (Hid (OwnK 74 3 ft1 w.heap.size w' r (fs ++ ((zs.take (k + 1)).filter (goB L ck)).map fateB) ∧ OwnK 43 4 sn1 w.heap.size w' (.slice (some ⟨gV, 0, none⟩) nv cv) zs) ∧ Blk w' w.heap.size #[.int .i64 s, .int .i64 p, .int .i64 g, .int .i64 l, .int .i64 ck, .int .i64 nx, .slice (some ⟨gV, 0, none⟩) nv cv] 26 ∧ Blk w' (w.heap.size + 1) #[.int .i64 0, .int .i64 0, .int .i64 0, .int .i64 0, .int .i64 0, .int .i64 0, .slice none 0 0] 26 ∧ Blk w' bG #[.int .i64 F, .int .i64 L] 81 ∧ Below w.heap.size w w')) := fun ty => by
                obtain ⟨r, w', h1, h2, h3, h4, h5⟩ := run_append_1 elem_ft ty (q1, q3, q4) hU6 HFN.out hB6.size
                refine ⟨r, w', h1, ⟨?_, hV6.alloc.but h3 (hV6.apart hU6 (by decide))⟩, kT6.alloc.but h3 (fun e => hU6.ne kT6 (by decide) e.symm), kR6.alloc.but h3 (fun e => hU6.ne kR6 (by decide) e.symm), kG6.alloc.but h3 (fun e => hU6.ne kG6 (by decide) e.symm), hB6.trans h4⟩
                rw [HFL.out, hgo, ← List.append_assoc]
                exact h2
              obtain ⟨aP, bP⟩ := kP6.read; have yP := kP6.lt
              clear hgo hU6 hV6
              go_wp2_with (at_builtin; (refine wpList_append_row rfl _ _ _ _ rfl _ _ rfl rfl (HA.out _) ?_); (rintro r W8 ⟨hO8, kT8, kR8, kG8, hB8⟩))
              go_roundw
              case rel => exact ⟨k + 1, hlt, by go_num, hO8.out.1, hO8.out.2, kT8, kR8, kG8, hB8⟩
              case measure => simp [intOf]; omega
          · have hkn : k = nv := by omega
            subst hkn
            have htk : zs.take k = zs := List.take_of_length_le (by rw [HZL.out]; omega)
            rw [htk] at hU
            have hrow : RowK 4 sn1 wr (some ⟨gV, 0, none⟩) k zs := by
              obtain ⟨a, c, e, hr, -⟩ := hV.out.row elem_sn
              rw [HZL.out] at e hr
              cases e
              exact hr
            have HV := fun (q1 q2 q3 : Int) (q4 : Bool) (W1 : World) (hm : (q1, q2, q3, q4) ∈ zs) (hb : Below wr.heap.size wr W1) => leaves_any q1 q2 q3 q4 F L s p g l ck nx (.slice (some ⟨gV, 0, none⟩) k cv) bG w.heap.size hF hL (HZA.out _ hm) W1 (Blk.later hb kG) (Blk.later hb kT)
            have HWo := Lib.hid (without_any (some ⟨gV, 0, none⟩) k cv zs 45 #[.pointer (some ⟨bG, 0, none⟩), .pointer (some ⟨w.heap.size, 0, none⟩)] (goB L ck) (enters_of Try.func45 (by kernel_rfl) rfl) (by omega) wr hrow HV)
            clear htk hrow HV
            go_wp2_with fail
            clear aT bT yT
            refine HWo.out.mono ?_
            rintro e W9 ⟨⟨v9, rfl, hV9⟩, hb⟩
            have kT9 := Blk.later hb kT
            have kR9 := Blk.later hb kR
            have kG9 := Blk.later hb kG
            have hU9 := OwnK.later hb hU.out
            replace hV9 := OwnK.mono hB.size hV9
            have hB9 := belowThru hB hb
            clear hb kT kR kG hU hB hV HWo
            obtain ⟨a9, n9, c9, rfl, hn9⟩ : ∃ a9 n9 c9, v9 = .slice a9 n9 c9 ∧ (zs.filter fun x => !goB L ck x).length = n9 := by
              obtain ⟨a, c, e, -⟩ := hV9.row elem_sn
              exact ⟨a, _, c, e, rfl⟩
            have HN9 := Lib.hid hn9
            clear hn9
            obtain ⟨aT, bT⟩ := kT9.read; have yT := kT9.lt
            go_wp2_with fail
            go_roundg (gk - 1)
            case measure => omega
            case rel =>
              have hstep := adB_succ F L j c xs
              have e2 : c + (j : Int) + 1 = ck := by have h1 := HCJ.out; have h2 := HCK.out; omega
              rw [e2, HYS.out, HFS.out] at hstep
              have e3 : leftB F L ck ys = zs.filter fun x => !goB L ck x := by unfold leftB; rw [HZS.out]
              have e4 : fatesB F L ck ys = (zs.filter (goB L ck)).map fateB := by unfold fatesB; rw [HZS.out]
              rw [e3, e4] at hstep
              refine ⟨j + 1, ck, a9, n9, c9, by omega, ?_, ?_, ?_, ?_, ?_, ?_, ?_, ?_⟩
              · show ck = c + ((j + 1 : Nat) : Int); omega
              · show (adB F L (j + 1) c xs).1.length = n9; rw [hstep]; exact HN9.out
              · show OwnK _ _ _ _ _ _ _; rw [hstep]; exact hV9.other (hV9.ne kT9 (by decide))
              · show OwnK _ _ _ _ _ _ _; rw [hstep]; exact hU9.other (hU9.ne kT9 (by decide))
              · exact Blk.set (i := 6) (v := .slice a9 n9 c9) kT9
              · exact Blk.other kR9 (by simp)
              · exact Blk.other kG9 (fun e => zTG e.symm)
              · exact hB9.setCell (Nat.le_refl _) _
end Go.Proofs.Ytnkpejinnbiocaa
