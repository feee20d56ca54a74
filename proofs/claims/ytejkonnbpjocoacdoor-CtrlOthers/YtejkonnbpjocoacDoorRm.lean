/- Regions that draw, and store cells one by one in a block of the call's own. -/
import Derived.Test.YtejkonnbpjocoacDoorRk
namespace Go.Proofs.YtejkonnbpjocoacDoor
open Go.RowKit Go.Shelf
set_option maxRecDepth 100000
set_option linter.unusedVariables false

/-- Nothing turns but the block rb; a cell of it that holds what it is to hold in the end keeps it. -/
def KC (rb k : Nat) (t : TypeId) (arr : Array Value) (w w' : World) : Prop :=
  But (fun b => b = rb) w w' ∧ (Wr rb k t w → Wr rb k t w') ∧ ∀ j, w.cell? ⟨rb, j, none⟩ = some (arr[j]?.getD undef) → w'.cell? ⟨rb, j, none⟩ = some (arr[j]?.getD undef)
theorem KC.pre (rb k : Nat) (t : TypeId) (arr : Array Value) : Pre (KC rb k t arr) :=
  ⟨fun a => ⟨But.refl _ a, id, fun _ h => h⟩, fun _ _ _ h l => ⟨h.1.trans l.1, fun g => l.2.1 (h.2.1 g), fun j g => l.2.2 j (h.2.2 j g)⟩⟩
theorem KC.refl {rb k : Nat} {t : TypeId} {arr : Array Value} (a : World) : KC rb k t arr a a := (KC.pre rb k t arr).1 a
theorem KC.trans {rb k : Nat} {t : TypeId} {arr : Array Value} {a b c : World} (h : KC rb k t arr a b) (l : KC rb k t arr b c) : KC rb k t arr a c := (KC.pre rb k t arr).2 _ _ _ h l
theorem KC.of {rb k : Nat} {t : TypeId} {arr : Array Value} {a b : World} (l : Later a b) : KC rb k t arr a b := ⟨But.of l, fun h => h.later l, fun _ h => l.cell h⟩
theorem KC.set {rb k : Nat} {t : TypeId} {arr : Array Value} {w : World} (j : Nat) (v : Value) (hv : arr[j]? = some v) (hj : j < k) (hw : Wr rb k t w) : KC rb k t arr w (w.setCell ⟨rb, j, none⟩ v) ∧ (w.setCell ⟨rb, j, none⟩ v).cell? ⟨rb, j, none⟩ = some (arr[j]?.getD undef) := by
  obtain ⟨cur, hc, hs⟩ := hw
  have h1 := heap_set1 hc j v
  have hcell : ∀ i, (w.setCell ⟨rb, j, none⟩ v).cell? ⟨rb, i, none⟩ = (cur.setIfInBounds j v)[i]? := fun i => block_cell h1 i
  have hsame : (w.setCell ⟨rb, j, none⟩ v).cell? ⟨rb, j, none⟩ = some (arr[j]?.getD undef) := by
    rw [hcell, hv]
    simp [show j < cur.size by omega]
  refine ⟨⟨(But.refl _ w).setCell (E := fun b => b = rb) (p := ⟨rb, j, none⟩) rfl v, fun _ => ⟨_, h1, by simpa using hs⟩, fun i hi => ?_⟩, hsame⟩
  by_cases e : i = j
  · subst e; exact hsame
  · rw [hcell, Array.getElem?_setIfInBounds_ne (Ne.symm e), ← block_cell hc]
    exact hi
theorem KC.all {rb k : Nat} {t : TypeId} {arr : Array Value} {w : World} (hw : Wr rb k t w) (hk : arr.size = k) (h : ∀ j, j < k → w.cell? ⟨rb, j, none⟩ = some (arr[j]?.getD undef)) : w.heap[rb]? = some (.cells arr t (0, 0)) := by
  obtain ⟨cur, hc, hs⟩ := hw
  have : cur = arr := by
    apply Array.ext_getElem?
    intro i
    by_cases hi : i < k
    · rw [← block_cell hc, h i hi]
      simp [show i < arr.size by omega]
    · rw [Array.getElem?_eq_none (by omega), Array.getElem?_eq_none (by omega)]
  subst this
  exact hc
end Go.Proofs.YtejkonnbpjocoacDoor
