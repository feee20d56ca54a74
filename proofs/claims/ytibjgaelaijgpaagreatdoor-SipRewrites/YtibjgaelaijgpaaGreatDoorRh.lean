/- Regions that draw and make a block of their own: what stays. -/
import Derived.Test.YtibjgaelaijgpaaGreatDoorRg
namespace Go.Proofs.YtibjgaelaijgpaaGreatDoor
open Go.RowKit Go.Shelf
set_option maxRecDepth 100000
set_option linter.unusedVariables false

/-- Blocks from n₁ on may turn; one that may be written stays so, and one that holds arr. -/
def KI (n₁ : Nat) (t : TypeId) (k : Nat) (arr : Array Value) (w w' : World) : Prop :=
  But (fun b => n₁ ≤ b) w w' ∧ (∀ pb, Wr pb k t w → Wr pb k t w') ∧ ∀ pb : Nat, w.heap[pb]? = some (Obj.cells arr t (0, 0)) → w'.heap[pb]? = some (Obj.cells arr t (0, 0))
theorem KI.pre (n₁ : Nat) (t : TypeId) (k : Nat) (arr : Array Value) : Pre (KI n₁ t k arr) :=
  ⟨fun a => ⟨But.refl _ a, fun _ h => h, fun _ h => h⟩, fun _ _ _ h l => ⟨h.1.trans l.1, fun pb g => l.2.1 pb (h.2.1 pb g), fun pb g => l.2.2 pb (h.2.2 pb g)⟩⟩
theorem KI.refl {n₁ : Nat} {t : TypeId} {k : Nat} {arr : Array Value} (a : World) : KI n₁ t k arr a a := (KI.pre n₁ t k arr).1 a
theorem KI.trans {n₁ : Nat} {t : TypeId} {k : Nat} {arr : Array Value} {a b c : World} (h : KI n₁ t k arr a b) (l : KI n₁ t k arr b c) : KI n₁ t k arr a c := (KI.pre n₁ t k arr).2 _ _ _ h l
theorem KI.of {n₁ : Nat} {t : TypeId} {k : Nat} {arr : Array Value} {a b : World} (l : Later a b) : KI n₁ t k arr a b :=
  ⟨But.of l, fun pb h => h.later l, fun pb h => (l.block pb (Array.getElem?_eq_some_iff.1 h).1).trans h⟩
theorem KI.store {n₁ pb : Nat} {t : TypeId} {k : Nat} {w : World} (vs : List Value) (hn : n₁ ≤ pb) (hw : Wr pb k t w) (hk : vs.length = k) : KI n₁ t k vs.toArray w (putRow w pb 0 vs) ∧ (putRow w pb 0 vs).heap[pb]? = some (Obj.cells vs.toArray t (0, 0)) := by
  obtain ⟨cur, hc, hs⟩ := hw
  have hall := putRow_all vs hc (by omega)
  have hbut : But (fun b => b = pb) w (putRow w pb 0 vs) := putRow_but (E := fun b => b = pb) (n := pb) rfl vs 0 w w (But.refl _ _)
  have keep : ∀ p o, p ≠ pb → w.heap[p]? = some o → (putRow w pb 0 vs).heap[p]? = some o := fun p o hp h => (hbut.block p (Array.getElem?_eq_some_iff.1 h).1 hp).trans h
  refine ⟨⟨putRow_but (E := fun b => n₁ ≤ b) (n := pb) hn vs 0 w w (But.refl _ _), fun p h => ?_, fun p h => ?_⟩, hall⟩
  · by_cases hp : p = pb
    · subst hp; exact ⟨_, hall, by simpa using hk⟩
    · obtain ⟨c, h1, h2⟩ := h; exact ⟨c, keep p _ hp h1, h2⟩
  · by_cases hp : p = pb
    · subst hp; exact hall
    · exact keep p _ hp h


section
variable {P : Program} {l : List Oper} {Q : Exit → Act → World → Prop} {fuel : Nat} {listed : Array Bool} {a : Act} {w : World} {R : World → World → Prop}
end
end Go.Proofs.YtibjgaelaijgpaaGreatDoor
