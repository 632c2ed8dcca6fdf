/-
  Sums of numbers: over rows, columns, rectangles; plain numbers.
-/
namespace Go.Proofs.Ytgalmepljonhpaa

/-- The sum of the first n numbers. -/
def sumN (f : Nat → Int) : Nat → Int
  | 0 => 0
  | n + 1 => sumN f n + f n
theorem sumN_congr {f g : Nat → Int} {n : Nat} (h : ∀ i, i < n → f i = g i) : sumN f n = sumN g n := by
  induction n with
  | zero => rfl
  | succ n ih => rw [sumN, sumN, ih (fun i hi => h i (by omega)), h n (by omega)]
theorem sumN_zero {f : Nat → Int} {n : Nat} (h : ∀ i, i < n → f i = 0) : sumN f n = 0 := by
  induction n with
  | zero => rfl
  | succ n ih => rw [sumN, ih (fun i hi => h i (by omega)), h n (by omega)]; rfl
theorem sumN_add (f : Nat → Int) (a b : Nat) : sumN f (a + b) = sumN f a + sumN (fun i => f (a + i)) b := by
  induction b with
  | zero => simp [sumN]
  | succ b ih => rw [← Nat.add_assoc, sumN, sumN, ih, Int.add_assoc]
theorem sumN_bd {f : Nat → Int} {n : Nat} {B : Int} (h : ∀ i, i < n → -B ≤ f i ∧ f i ≤ B) : -(n * B) ≤ sumN f n ∧ sumN f n ≤ n * B := by
  induction n with
  | zero => simp [sumN]
  | succ n ih =>
    have h1 := ih (fun i hi => h i (by omega))
    have h2 := h n (by omega)
    rw [sumN, Int.natCast_add, Int.natCast_one, Int.add_mul, Int.one_mul]
    omega
/-- The sum of the numbers from a on, below b. -/
def sumR (f : Nat → Int) (a b : Nat) : Int := sumN (fun i => f (a + i)) (b - a)
theorem sumR_self (f : Nat → Int) (a : Nat) : sumR f a a = 0 := by unfold sumR; rw [Nat.sub_self]; rfl
theorem sumR_succ (f : Nat → Int) {a b : Nat} (h : a ≤ b) : sumR f a (b + 1) = sumR f a b + f b := by
  unfold sumR
  rw [show b + 1 - a = (b - a) + 1 by omega, sumN, show a + (b - a) = b by omega]
theorem sumR_zero (f : Nat → Int) (b : Nat) : sumR f 0 b = sumN f b := by
  unfold sumR; rw [Nat.sub_zero]; exact sumN_congr fun i _ => by rw [Nat.zero_add]
theorem sumR_one (f : Nat → Int) (a : Nat) : sumR f a (a + 1) = f a := by rw [sumR_succ f (Nat.le_refl a), sumR_self, Int.zero_add]
theorem sumR_congr {f g : Nat → Int} {a b : Nat} (h : ∀ i, a ≤ i → i < b → f i = g i) : sumR f a b = sumR g a b := sumN_congr fun i hi => h (a + i) (by omega) (by omega)
theorem sumR_bd {f : Nat → Int} {a b : Nat} {B : Int} (hB : 0 ≤ B) (h : ∀ i, a ≤ i → i < b → -B ≤ f i ∧ f i ≤ B) : -((b : Int) * B) ≤ sumR f a b ∧ sumR f a b ≤ (b : Int) * B := by
  have h1 := sumN_bd (f := fun i => f (a + i)) (n := b - a) (B := B) (fun i hi => h (a + i) (by omega) (by omega))
  have h2 := Int.mul_le_mul_of_nonneg_right (show ((b - a : Nat) : Int) ≤ (b : Int) by omega) hB
  unfold sumR
  omega
/-- Of all numbers only those from a on, below b, are added up. -/
theorem sumN_pick (f : Nat → Int) (a b n : Nat) (h : b ≤ n) : sumN (fun i => if a ≤ i ∧ i < b then f i else 0) n = sumR f a b := by
  by_cases hab : a ≤ b
  · rw [show n = a + ((b - a) + (n - b)) by omega, sumN_add, sumN_add, sumN_zero (fun i hi => if_neg (by omega)), Int.zero_add]
    rw [show sumN (fun i => if a ≤ a + (b - a + i) ∧ a + (b - a + i) < b then f (a + (b - a + i)) else 0) (n - b) = 0 from sumN_zero (fun i hi => if_neg (by omega)), Int.add_zero]
    exact sumN_congr fun i hi => if_pos (by omega)
  · rw [sumN_zero (fun i hi => if_neg (by omega))]
    unfold sumR; rw [show b - a = 0 by omega]; rfl
theorem sumN_one (f : Nat → Int) (a n : Nat) (h : a < n) : sumN (fun i => if i = a then f i else 0) n = f a := by
  rw [← sumR_one f a, ← sumN_pick f a (a + 1) n (by omega)]
  exact sumN_congr fun i _ => by
    by_cases h : i = a
    · rw [if_pos h, if_pos (by omega)]
    · rw [if_neg h, if_neg (by omega)]
/-- Row by row. -/
theorem sumN_rows (g : Nat → Int) (W H : Nat) : sumN g (W * H) = sumN (fun y => sumN (fun x => g (y * W + x)) W) H := by
  induction H with
  | zero => rfl
  | succ H ih => rw [Nat.mul_succ, sumN_add, ih, sumN]; congr 1; exact sumN_congr fun i _ => by rw [Nat.mul_comm]
theorem sumN_swap (f : Nat → Nat → Int) (W H : Nat) : sumN (fun y => sumN (fun x => f x y) W) H = sumN (fun x => sumN (fun y => f x y) H) W := by
  induction H with
  | zero => exact (sumN_zero fun _ _ => rfl).symm
  | succ H ih =>
    rw [sumN, ih]
    have : ∀ n, sumN (fun x => sumN (fun y => f x y) H) n + sumN (fun x => f x H) n = sumN (fun x => sumN (fun y => f x y) (H + 1)) n := by
      intro n
      induction n with
      | zero => rfl
      | succ n ihn => rw [sumN, sumN, sumN, ← ihn, sumN]; omega
    exact this W
/-- The pixel of a place. -/
def pxN (W : Nat) (zs : List Int) (x y : Nat) : Int := zs[y * W + x]?.getD 0
/-- The sum of a rectangle. -/
def boxN (W : Nat) (zs : List Int) (x0 y0 x1 y1 : Nat) : Int := sumR (fun y => sumR (fun x => pxN W zs x y) x0 x1) y0 y1
theorem divmod_place {W x y : Nat} (h : x < W) : (y * W + x) % W = x ∧ (y * W + x) / W = y := by
  constructor
  · rw [Nat.mul_comm, Nat.mul_add_mod, Nat.mod_eq_of_lt h]
  · rw [Nat.mul_comm, Nat.mul_add_div (by omega), Nat.div_eq_of_lt h, Nat.add_zero]
/-- All values whose place lies in a rectangle. -/
theorem box_all (W H : Nat) (zs : List Int) (x0 y0 x1 y1 : Nat) (hx : x1 ≤ W) (hy : y1 ≤ H) :
    sumN (fun i => if (x0 ≤ i % W ∧ i % W < x1) ∧ y0 ≤ i / W ∧ i / W < y1 then zs[i]?.getD 0 else 0) (W * H) = boxN W zs x0 y0 x1 y1 := by
  rw [sumN_rows]
  unfold boxN
  rw [← sumN_pick _ y0 y1 H hy]
  refine sumN_congr fun y hyH => ?_
  by_cases h : y0 ≤ y ∧ y < y1
  · rw [if_pos h, ← sumN_pick _ x0 x1 W hx]
    refine sumN_congr fun x hxW => ?_
    obtain ⟨e1, e2⟩ := divmod_place (y := y) hxW
    rw [e1, e2]
    by_cases k : x0 ≤ x ∧ x < x1
    · rw [if_pos ⟨k, h⟩, if_pos k]; rfl
    · rw [if_neg (fun q => k q.1), if_neg k]
  · rw [if_neg h]
    refine sumN_zero fun x hxW => ?_
    obtain ⟨e1, e2⟩ := divmod_place (y := y) hxW
    rw [e1, e2, if_neg (fun q => h q.2)]
theorem row_all (W H : Nat) (zs : List Int) (j : Nat) (hj : j < H) : sumN (fun i => if i / W = j then zs[i]?.getD 0 else 0) (W * H) = boxN W zs 0 j W (j + 1) := by
  rw [← box_all W H zs 0 j W (j + 1) (Nat.le_refl _) hj]
  rcases Nat.eq_zero_or_pos W with rfl | hW
  · rw [Nat.zero_mul]; rfl
  refine sumN_congr fun i _ => ?_
  have := Nat.mod_lt i hW
  by_cases h : i / W = j
  · rw [if_pos h, if_pos ⟨⟨Nat.zero_le _, this⟩, by omega, by omega⟩]
  · rw [if_neg h, if_neg (by rintro ⟨-, h1, h2⟩; omega)]
theorem col_all (W H : Nat) (zs : List Int) (j : Nat) (hj : j < W) : sumN (fun i => if i % W = j then zs[i]?.getD 0 else 0) (W * H) = boxN W zs j 0 (j + 1) H := by
  rw [← box_all W H zs j 0 (j + 1) H hj (Nat.le_refl _)]
  refine sumN_congr fun i hi => ?_
  have : i / W < H := Nat.div_lt_of_lt_mul hi
  by_cases h : i % W = j
  · rw [if_pos h, if_pos ⟨⟨by omega, by omega⟩, Nat.zero_le _, this⟩]
  · rw [if_neg h, if_neg (by rintro ⟨⟨h1, h2⟩, -⟩; omega)]
theorem box_step (W : Nat) (zs : List Int) (x y : Nat) : boxN W zs 0 0 (x + 1) (y + 1) = pxN W zs x y + boxN W zs 0 0 x (y + 1) + boxN W zs 0 0 (x + 1) y - boxN W zs 0 0 x y := by
  unfold boxN
  rw [sumR_succ _ (Nat.zero_le y), sumR_succ _ (Nat.zero_le y), sumR_succ _ (Nat.zero_le x)]
  omega
theorem box_x0 (W : Nat) (zs : List Int) (y : Nat) : boxN W zs 0 0 0 y = 0 := by
  unfold boxN; rw [sumR_zero]; exact sumN_zero fun i _ => sumR_self _ _
theorem box_y0 (W : Nat) (zs : List Int) (x : Nat) : boxN W zs 0 0 x 0 = 0 := by unfold boxN; exact sumR_self _ _
theorem box_bd {W : Nat} {zs : List Int} {B : Int} (hB : 0 ≤ B) (h : ∀ z ∈ zs, -B ≤ z ∧ z ≤ B) (x0 y0 x1 y1 : Nat) : -((y1 : Int) * ((x1 : Int) * B)) ≤ boxN W zs x0 y0 x1 y1 ∧ boxN W zs x0 y0 x1 y1 ≤ (y1 : Int) * ((x1 : Int) * B) := by
  refine sumR_bd (Int.mul_nonneg (by omega) hB) fun y _ _ => sumR_bd hB fun x _ _ => ?_
  unfold pxN
  by_cases hk : y * W + x < zs.length
  · rw [List.getElem?_eq_getElem hk]; exact h _ (List.getElem_mem _)
  · rw [List.getElem?_eq_none (by omega)]; exact ⟨by show -B ≤ 0; omega, hB⟩
end Go.Proofs.Ytgalmepljonhpaa
