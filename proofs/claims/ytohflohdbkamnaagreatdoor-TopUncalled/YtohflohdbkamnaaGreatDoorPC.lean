/- Package pool: count, TrailingZeros64, the numbers of a set in order. -/
import Derived.Test.YtohflohdbkamnaaGreatDoorPB
namespace Go.Proofs.YtohflohdbkamnaaGreatDoor
open Go.RowKit Go.Shelf
set_option maxRecDepth 100000
attribute [local go_sem] Oper.semAt_some
set_option linter.unusedVariables false
set_option linter.unusedSimpArgs false

def cnt (ws : Nat → Nat) : Nat → Nat
  | 0 => 0
  | k + 1 => cnt ws k + Pm.pcn 64 (ws k)
end Go.Proofs.YtohflohdbkamnaaGreatDoor
