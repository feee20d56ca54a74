/- Regions that draw, and store what the call answers in a block of its own: what stays. -/
import Derived.Test.YtohflohdbkamnaaGreatDoorVS
namespace Go.Proofs.YtohflohdbkamnaaGreatDoor
open Go.RowKit Go.Shelf
set_option maxRecDepth 100000
set_option linter.unusedVariables false

theorem Rd.later {A B : World} {v : Value} {zs : List Int} (h : Rd A.heap.size A v zs) (l : Later A B) : Rd B.heap.size B v zs := (h.below l).mono l.size
theorem Ow.later {A B : World} {base : Nat} {v : Value} {zs : List Int} (h : Ow base A v zs) (l : Later A B) : Ow base B v zs := h.below l (Nat.le_refl _)

/-- What holds of worlds stays so later. -/
def Stays (Φ : Array Value → World → Prop) : Prop := ∀ arr w w', Later w w' → Φ arr w → Φ arr w'
/-- The block holds cells of which Φ holds. -/
def FinA (rb : Nat) (t : TypeId) (Φ : Array Value → World → Prop) (w : World) : Prop := ∃ arr, w.heap[rb]? = some (.cells arr t (0, 0)) ∧ Φ arr w
theorem FinA.later {rb : Nat} {t : TypeId} {Φ : Array Value → World → Prop} (hΦ : Stays Φ) {w w' : World} (l : Later w w') (h : FinA rb t Φ w) : FinA rb t Φ w' := by
  obtain ⟨arr, h1, h2⟩ := h
  exact ⟨arr, (l.block rb (Array.getElem?_eq_some_iff.1 h1).1).trans h1, hΦ _ _ _ l h2⟩
/-- Nothing turns but the block rb; it may be written; what was stored there stays. -/
abbrev KR (rb k : Nat) (t : TypeId) (Φ : Array Value → World → Prop) : World → World → Prop := Keep (fun b => b = rb) (Wr rb k t) (FinA rb t Φ)
theorem KR.of {rb k : Nat} {t : TypeId} {Φ : Array Value → World → Prop} (hΦ : Stays Φ) {w w' : World} (l : Later w w') : KR rb k t Φ w w' := Keep.of (fun _ _ l h => h.later l) (fun _ _ l h => h.later hΦ l) l
theorem KR.store {rb k : Nat} {t : TypeId} {Φ : Array Value → World → Prop} {w : World} (vs : List Value) (hw : Wr rb k t w) (hk : vs.length = k) (hΦ : Φ vs.toArray (putRow w rb 0 vs)) : KR rb k t Φ w (putRow w rb 0 vs) ∧ FinA rb t Φ (putRow w rb 0 vs) := by
  obtain ⟨cur, hc, hs⟩ := hw
  have hall := putRow_all vs hc (by omega)
  have hF : FinA rb t Φ (putRow w rb 0 vs) := ⟨_, hall, hΦ⟩
  exact ⟨⟨putRow_but (E := fun b => b = rb) (n := rb) rfl vs 0 w w (But.refl _ _), fun _ => ⟨_, hall, by simpa using hk⟩, fun _ => hF⟩, hF⟩
theorem putRow_rb {rb : Nat} (vs : List Value) (w : World) : But (fun b => b = rb) w (putRow w rb 0 vs) := putRow_but (E := fun b => b = rb) (n := rb) rfl vs 0 w w (But.refl _ _)
end Go.Proofs.YtohflohdbkamnaaGreatDoor
