/- Package ctrl: frames built. -/
import Derived.Test.YtghpakfjpdifaaaGreatDoorCC
namespace Go.Proofs.YtghpakfjpdifaaaGreatDoor
open Go.RowKit Go.Shelf
set_option maxRecDepth 100000
set_option linter.unusedVariables false
set_option linter.unusedSimpArgs false

/-- The four beginnings, one behind the other. -/
def tab : List Int := [32, 1, 136, 11, 48, 1, 136, 11, 32, 129, 136, 11, 48, 129, 136, 11]
/-- They stand where the package keeps them. -/
def Tb (w : World) : Prop := ∀ i, i < 16 → w.cell? ⟨0, i, none⟩ = some (.int .u8 (tab[i]?.getD 0))
theorem Tb.pos {w : World} (h : Tb w) : 0 < w.heap.size := World.block_lt_of_cell? w ⟨0, 0, none⟩ (h 0 (by omega))
theorem Tb.below {w w' : World} {n : Nat} (h : Tb w) (hb : Below n w w') (hn : 0 < n) : Tb w' := fun i hi => (hb.cell (p := ⟨0, i, none⟩) hn).trans (h i hi)
theorem Tb.later {w w' : World} (h : Tb w) (l : Later w w') : Tb w' := h.below l h.pos

/-- A number's four bytes, if it is there. -/
def num4 (b : Bool) (v : Int) : List Int := if b then [v / 65536 / 256, v / 65536 % 256, v % 65536 / 256, v % 65536 % 256] else []
/-- A frame's bytes. -/
def grb (cl : Int) (hs ha : Bool) (sq ak : Int) (zd : List Int) : List Int :=
 [if hs then 48 else 32, if ha then 129 else 1, 136, 11, (zd.length : Int) % 65536 / 256, (zd.length : Int) % 65536 % 256, cl / 256, cl % 256] ++ ((num4 hs sq ++ num4 ha ak) ++ zd)
theorem num4_length (b : Bool) (v : Int) : (num4 b v).length = if b then 4 else 0 := by cases b <;> rfl
/-- How many bytes a frame has. -/
def grn (hs ha : Bool) (n : Nat) : Nat := 8 + ((if hs then 4 else 0) + (if ha then 4 else 0)) + n
theorem grb_length (cl : Int) (hs ha : Bool) (sq ak : Int) (zd : List Int) : (grb cl hs ha sq ak zd).length = grn hs ha zd.length := by
 unfold grb grn
 simp only [List.length_append, num4_length, List.length_cons, List.length_nil]
 omega
theorem By_num4 (b : Bool) (v : Int) (hv : 0 ≤ v ∧ v ≤ 4294967295) : Mt.By (num4 b v) := by
 cases b
 ·exact Mt.By.nil
 ·exact .mk (by omega) (.mk (by omega) (.mk (by omega) (.mk (by omega) .nil)))
theorem By_grb (cl : Int) (hs ha : Bool) (sq ak : Int) (zd : List Int) (h1 : 0 ≤ cl ∧ cl ≤ 65535) (h2 : 0 ≤ sq ∧ sq ≤ 4294967295) (h3 : 0 ≤ ak ∧ ak ≤ 4294967295) (hB : Mt.By zd) : Mt.By (grb cl hs ha sq ak zd) := by
 unfold grb
 refine Mt.By.append ?_ (Mt.By.append (Mt.By.append (By_num4 hs sq h2) (By_num4 ha ak h3)) hB)
 exact .mk (by split <;> omega) (.mk (by split <;> omega) (.mk (by omega) (.mk (by omega) (.mk (by omega) (.mk (by omega) (.mk (by omega) (.mk (by omega) .nil)))))))
/-- Is a frame not right? -/
def grf (hs ha : Bool) (sq ak : Int) : Bool := (!hs && sq != 0) || (!ha && ak != 0)

end Go.Proofs.YtghpakfjpdifaaaGreatDoor
