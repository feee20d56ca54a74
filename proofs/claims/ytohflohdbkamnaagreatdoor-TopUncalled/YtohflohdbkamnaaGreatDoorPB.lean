/- Package pool: words of a set; bit, has, add, remove. -/
import Derived.Test.YtohflohdbkamnaaGreatDoorX10
import Derived.Test.YtohflohdbkamnaaGreatDoorX11
import Derived.Test.YtohflohdbkamnaaGreatDoorX2
import Derived.Test.YtohflohdbkamnaaGreatDoorPA
import Derived.Laws.Bits64b
import Derived.Laws.BitsAllLaws
import Derived.Lib.TrailingZeros
import Derived.Deep.DeepCutAuto
import Derived.Deep.CutBlock
namespace Go.Proofs.YtohflohdbkamnaaGreatDoor
open Go.RowKit Go.Shelf
set_option maxRecDepth 100000
set_option linter.unusedVariables false
set_option linter.unusedSimpArgs false

theorem wrapN (x : Nat) (h : x < 18446744073709551616) : IntKind.u64.wrap (x : Int) = (x : Int) := by rw [IntKind.wrap_u64]; omega

theorem s1 (x : Nat) (hx : x < 18446744073709551616) : IntKind.u64.wrap (bits BinOp.and IntKind.u64 ((x : Int) / 2) 6148914691236517205 + bits BinOp.and IntKind.u64 (x : Int) 6148914691236517205) = ((Pm.f1 8 x : Nat) : Int) ∧ Pm.f1 8 x ≤ 12297829382473034410 := by
  have e1 := bits_and_u64_nat (x / 2) 6148914691236517205 (by omega) (by omega)
  have e2 := bits_and_u64_nat x 6148914691236517205 hx (by omega)
  have h1 : x / 2 &&& 6148914691236517205 ≤ 6148914691236517205 := Nat.and_le_right
  have h2 : x &&& 6148914691236517205 ≤ 6148914691236517205 := Nat.and_le_right
  have e : Pm.f1 8 x = (x / 2 &&& 6148914691236517205) + (x &&& 6148914691236517205) := rfl
  rw [e, show (x : Int) / 2 = ((x / 2 : Nat) : Int) from by omega, show (6148914691236517205 : Int) = ((6148914691236517205 : Nat) : Int) from rfl, e1, e2, ← Int.natCast_add]
  exact ⟨wrapN _ (by omega), by omega⟩
theorem s2 (x : Nat) (hx : x < 18446744073709551616) : IntKind.u64.wrap (bits BinOp.and IntKind.u64 ((x : Int) / 4) 3689348814741910323 + bits BinOp.and IntKind.u64 (x : Int) 3689348814741910323) = ((Pm.f2 8 x : Nat) : Int) ∧ Pm.f2 8 x ≤ 7378697629483820646 := by
  have e1 := bits_and_u64_nat (x / 4) 3689348814741910323 (by omega) (by omega)
  have e2 := bits_and_u64_nat x 3689348814741910323 hx (by omega)
  have h1 : x / 4 &&& 3689348814741910323 ≤ 3689348814741910323 := Nat.and_le_right
  have h2 : x &&& 3689348814741910323 ≤ 3689348814741910323 := Nat.and_le_right
  have e : Pm.f2 8 x = (x / 4 &&& 3689348814741910323) + (x &&& 3689348814741910323) := rfl
  rw [e, show (x : Int) / 4 = ((x / 4 : Nat) : Int) from by omega, show (3689348814741910323 : Int) = ((3689348814741910323 : Nat) : Int) from rfl, e1, e2, ← Int.natCast_add]
  exact ⟨wrapN _ (by omega), by omega⟩
theorem s3 (x : Nat) (hx : x ≤ 7378697629483820646) : bits BinOp.and IntKind.u64 (IntKind.u64.wrap ((x : Int) / 16 + (x : Int))) 1085102592571150095 = ((Pm.f3 8 x : Nat) : Int) := by
  have e : Pm.f3 8 x = (x / 16 + x) &&& 1085102592571150095 := rfl
  rw [e, show (x : Int) / 16 + (x : Int) = ((x / 16 + x : Nat) : Int) from by omega, wrapN _ (by omega)]
  exact bits_and_u64_nat (x / 16 + x) 1085102592571150095 (by omega) (by omega)
/-- The cells of a pool: from, to, and the words of what is free. -/
def pcl (low high : Int) (ws : Nat → Nat) : List Value := .int .u16 low :: .int .u16 high :: (List.range 1024).map (fun i => .int .u64 (ws i : Int))
def PB (base : Nat) (W : World) (b : Nat) (low high : Int) (ws : Nat → Nat) : Prop := base ≤ b ∧ (∀ i, ws i < 18446744073709551616) ∧ W.heap[b]? = some (.cells (pcl low high ws).toArray 189 (0, 0))
theorem PB.later {base : Nat} {A B : World} {b : Nat} {low high : Int} {ws : Nat → Nat} (h : PB base A b low high ws) (l : Later A B) : PB base B b low high ws := ⟨h.1, h.2.1, later_keep l h.2.2⟩
theorem PB.lt {base : Nat} {W : World} {b : Nat} {low high : Int} {ws : Nat → Nat} (h : PB base W b low high ws) : b < W.heap.size := (Array.getElem?_eq_some_iff.1 h.2.2).1
theorem PB.word {base : Nat} {W : World} {b : Nat} {low high : Int} {ws : Nat → Nat} (h : PB base W b low high ws) (i : Nat) (hi : i < 1024) : W.cell? ⟨b, 2 + i, none⟩ = some (.int .u64 (ws i : Int)) := by
  rw [block_cell h.2.2, List.getElem?_toArray]
  unfold pcl
  rw [show 2 + i = i + 1 + 1 from by omega, List.getElem?_cons_succ, List.getElem?_cons_succ, List.getElem?_map, List.getElem?_range hi]
  rfl
theorem PB.low {base : Nat} {W : World} {b : Nat} {low high : Int} {ws : Nat → Nat} (h : PB base W b low high ws) : W.cell? ⟨b, 0, none⟩ = some (.int .u16 low) := by
  rw [block_cell h.2.2]; rfl
theorem PB.high {base : Nat} {W : World} {b : Nat} {low high : Int} {ws : Nat → Nat} (h : PB base W b low high ws) : W.cell? ⟨b, 1, none⟩ = some (.int .u16 high) := by
  rw [block_cell h.2.2]; rfl
end Go.Proofs.YtohflohdbkamnaaGreatDoor
