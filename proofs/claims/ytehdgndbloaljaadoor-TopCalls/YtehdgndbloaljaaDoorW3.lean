/- The check sum of package wire: at every slice of bytes Sum answers what the mathematics says, and nothing that was there has turned. -/
import Derived.Test.YtehdgndbloaljaaDoorW2
namespace Go.Proofs.YtehdgndbloaljaaDoor
open Go.RowKit Go.Shelf
set_option maxRecDepth 100000
attribute [local go_sem] Oper.semAt_some

theorem kb_b {w : World} {n₀ Bs : Nat} (hn : n₀ ≤ w.heap.size) (hB : Bs < w.heap.size) (W : World) (l : Nat) (o o' : Obj) (hl : w.heap.size ≤ l) (ho : W.heap[l]? = some o) (hc : o.isCells = false) (hw : o.isWalk = false) : KB n₀ Bs W (W.putObj l o') :=
  ⟨belowK_b hn W l o o' hl ho hc hw, (grownBy_putObj' W l o').block Bs (by have := (Array.getElem?_eq_some_iff.1 ho).1; omega) (by intro e; cases e; omega)⟩

theorem nat_not16 (x : Nat) (h : x < 65536) : 65535 ^^^ x = 65535 - x := by
  have h1 := BitVec.toNat_not (x := BitVec.ofNat 16 x)
  rw [BitVec.not_def, BitVec.toNat_xor] at h1
  simp at h1
  rw [Nat.mod_eq_of_lt h] at h1
  exact h1
theorem not16 (x : Int) (h0 : 0 ≤ x) (h1 : x ≤ 65535) : bits .xor .u16 IntKind.u16.max x = 65535 - x := by
  rw [show IntKind.u16.max = 65535 from rfl, u16_xor 65535 x (by omega) (by omega) h0 (by omega)]
  have := nat_not16 x.toNat (by omega)
  rw [show (65535 : Int).toNat = 65535 from rfl, this]
  omega

end Go.Proofs.YtehdgndbloaljaaDoor