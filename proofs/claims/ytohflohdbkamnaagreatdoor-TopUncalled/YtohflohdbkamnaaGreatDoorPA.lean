/- Mathematics of words of 64 bits: the count of ones. -/
import Derived.Test.YtohflohdbkamnaaGreatDoorChecked
namespace Go.Proofs.YtohflohdbkamnaaGreatDoor.Pm
set_option maxRecDepth 100000
/-- Ones among the first n bits. -/
def pcn (n x : Nat) : Nat := (List.range n).countP (fun i => x.testBit i)
theorem tb (a b j : Nat) (h : b < 256) : (a * 256 + b).testBit j = if j < 8 then b.testBit j else a.testBit (j - 8) := by
  have := Nat.testBit_two_pow_mul_add a (b := b) (i := 8) (by simpa using h) j
  rw [show (2 : Nat) ^ 8 = 256 from rfl] at this
  rw [Nat.mul_comm a 256]
  exact this
def M (v : Nat) : Nat → Nat
  | 0 => 0
  | n + 1 => M v n * 256 + v
def f1 (n x : Nat) : Nat := (x / 2 &&& M 85 n) + (x &&& M 85 n)
def f2 (n x : Nat) : Nat := (x / 4 &&& M 51 n) + (x &&& M 51 n)
def f3 (n x : Nat) : Nat := (x / 16 + x) &&& M 15 n
def h1 (b : Nat) : Nat := (b / 2 &&& 85) + (b &&& 85)
def h2 (b : Nat) : Nat := (b / 4 &&& 51) + (b &&& 51)
def F (n x : Nat) : Nat := f3 n (f2 n (f1 n x))
end Go.Proofs.YtohflohdbkamnaaGreatDoor.Pm
