/-
  The tree of classes and what fits what, as plain functions (no Go in sight): what package types computes.
-/
namespace Go.Proofs.YteffpdofcgbokaaGreat.Tr

def ov (l : List Int) (c : Int) : Int := if c < 0 then -1 else if (l.length : Int) ≤ c then -1 else l.getD c.toNat 0

/-- is 'high' met on the way up from 'pos', in at most n steps? -/
def upTo (l : List Int) (high : Int) : Nat → Int → Bool
  | 0, _ => false
  | n + 1, pos => if pos = -1 then false else if pos = high then true else upTo l high n (ov l pos)

def below (l : List Int) (low high : Int) : Bool := upTo l high l.length (ov l low)

def hasB (l : List Int) (c : Int) : Bool := decide (0 ≤ c) && decide (c < (l.length : Int))
def plainB (l : List Int) (k n : Int) : Bool := if k = 1 then n == 0 else if k = 3 then hasB l n else false
def settledB (l : List Int) (k n : Int) : Bool := if k = 0 ∨ k = 2 then n == 0 else plainB l k n
def argB (l : List Int) (k n : Int) : Bool := if k = 4 then (decide (0 ≤ n) && decide (n < 120)) else settledB l k n
def fitsB (l : List Int) (k n k' n' : Int) : Bool :=
  if k = k' ∧ n = n' then true else if k' = 0 then true else if k' ≠ 3 then false else if k = 2 then true else if k = 3 then below l n n' else false

def meetTo (l : List Int) (b : Int) : Nat → Int → Int
  | 0, _ => 0
  | n + 1, a => if a = b then a else if below l b a = true then a else meetTo l b n (ov l a)
def meet (l : List Int) (a b : Int) : Int := meetTo l b l.length a

def joinT (l : List Int) (a b : Int × Int) : Int × Int :=
  if fitsB l a.1 a.2 b.1 b.2 = true then b
  else if fitsB l b.1 b.2 a.1 a.2 = true then a
  else if a.1 ≠ 3 then (0, 0)
  else if b.1 ≠ 3 then (0, 0)
  else (3, meet l a.2 b.2)

def allPlainB (l : List Int) (fs : List (Int × Int)) : Bool := fs.all fun f => plainB l f.1 f.2

end Go.Proofs.YteffpdofcgbokaaGreat.Tr
