/-
  Gray codes and stripes: plain numbers.
-/
namespace Go.Proofs.Yticclcimelibdaa

/-- A number by its bits, the highest first. -/
def fromBits (bs : List Bool) : Nat := bs.foldl (fun a b => 2 * a + b.toNat) 0
/-- Is a value above the other list's by more than m? -/
def brs (m : Int) (xs ys : List Int) : List Bool := List.zipWith (fun x y => decide (m < x - y)) xs ys
/-- The Gray code. -/
def grayN (k : Nat) : Nat := k ^^^ (k / 2)
/-- May the stripe be k? -/
def mayB (m : Int) (xs ys : List Int) (k : Nat) : Bool := (grayN k &&& fromBits (brs m xs ys) == fromBits (brs m xs ys)) && (grayN k &&& fromBits (brs m ys xs) == 0)
/-- The numbers that a stripe may be. -/
def stripes (m : Int) (xs ys : List Int) (c : Nat) : List Int := List.map (fun k : Nat => (k : Int)) ((List.range c).filter (mayB m xs ys))
end Go.Proofs.Yticclcimelibdaa
