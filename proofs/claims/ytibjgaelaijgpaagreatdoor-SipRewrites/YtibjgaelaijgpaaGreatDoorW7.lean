/- Words read from bytes, of two and of four. -/
import Derived.Test.YtibjgaelaijgpaaGreatDoorW6
namespace Go.Proofs.YtibjgaelaijgpaaGreatDoor
open Go.RowKit Go.Shelf
set_option maxRecDepth 100000

theorem Rd.drew {n₀ : Nat} {w : World} {sv : Value} {zs : List Int} (q : Nat) (h : Rd n₀ w sv zs) : Rd n₀ (w.drewN q) sv zs := h.below (below_draw (Below.refl _ _) q)
theorem Ow.drew {base : Nat} {w : World} {sv : Value} {zs : List Int} (q : Nat) (h : Ow base w sv zs) : Ow base (w.drewN q) sv zs := h.below (below_draw (Below.refl w.heap.size _) q) (Nat.le_refl _)
theorem Rd.cells {n₀ : Nat} {w : World} {sv : Value} {zs : List Int} (h : Rd n₀ w sv zs) (hne : 0 < zs.length) : ∃ b off cap, sv = .slice (some ⟨b, off, none⟩) zs.length cap ∧ zs.length ≤ cap ∧ cap ≤ 9223372036854775807 ∧ b < n₀ ∧ ∀ j, j < zs.length → w.cell? ⟨b, off + j, none⟩ = some (.int .u8 (zs[j]?.getD 0)) := by
  rcases h with ⟨a, cap, e, hz, _⟩ | ⟨b, off, cap, e, _, hl, hm, hb, hc⟩
  · subst hz; simp at hne
  · exact ⟨b, off, cap, e, hl, hm, hb, hc⟩

/-- The word of four bytes. -/
def wat4 (zs : List Int) (p : Nat) : Int := wat zs p * 65536 + wat zs (p + 2)

end Go.Proofs.YtibjgaelaijgpaaGreatDoor
