/- Package segs: a header that grows. -/
import Derived.Test.YtghpakfjpdifaaaGreatDoorV5
import Derived.Test.YtghpakfjpdifaaaGreatDoorRk
namespace Go.Proofs.YtghpakfjpdifaaaGreatDoor
open Go.RowKit Go.Shelf
set_option maxRecDepth 100000
set_option linter.unusedVariables false
set_option linter.unusedSimpArgs false

/-- The block ub holds a slice of one's own, read as ys, and tl behind it; the slice's block is none of N. -/
def HSt (tl : List Value) (t : TypeId) (ub : Nat) (N : Nat → Prop) (ys : List Int) (W : World) : Prop :=
 ∃ v, W.heap[ub]? = some (.cells (v :: tl).toArray t (0, 0)) ∧ W.ownsRow (ub + 1) 5 1 v ys.length (ys.map (Value.int .u8)) ∧ ∀ b, v.ownBlock = some b → ¬ N b
theorem HSt.lt {tl : List Value} {t : TypeId} {ub : Nat} {N : Nat → Prop} {ys : List Int} {W : World} (h : HSt tl t ub N ys W) : ub < W.heap.size := by
 obtain ⟨v, h1, _⟩ := h
 exact (bl9 h1)
theorem HSt.alloc {tl : List Value} {t : TypeId} {ub : Nat} {N : Nat → Prop} {ys : List Int} {W : World} (h : HSt tl t ub N ys W) (o : Obj) : HSt tl t ub (fun b => N b ∨ b = W.heap.size) ys (W.alloc o) := by
 obtain ⟨v, h1, h2, h3⟩ := h
 exact ⟨v, (Below.heap_alloc W o ub (bl9 h1)).trans h1, h2.alloc o, fun b hb hN => hN.elim (h3 b hb) (fun e => by have := (h2.lt b hb).2; omega)⟩
end Go.Proofs.YtghpakfjpdifaaaGreatDoor
