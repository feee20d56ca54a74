/- Layer 7: the document's side; how long, which are live. -/
import Derived.Test.YtbkggohjbigbgabKB
namespace Go.Proofs.Ytbkggohjbigbgab
open Go.RowKit Go.Shelf
set_option maxRecDepth 100000
set_option linter.unusedVariables false
set_option linter.unusedSimpArgs false

theorem bits7 : ∀ n : Nat, n < 256 → (bits .and .u8 n 7 == 3) = ((bits .and .u8 n 2 != 0) && (bits .and .u8 n 1 != 0) && !(bits .and .u8 n 4 != 0)) := by decide +kernel
theorem bits23 : ∀ n : Nat, n < 256 → (bits .and .u8 n 23 == 2) = ((bits .and .u8 n 2 != 0) && !(bits .and .u8 n 1 != 0) && !(bits .and .u8 n 4 != 0) && !(bits .and .u8 n 16 != 0)) := by decide +kernel
theorem bits21 : ∀ n : Nat, n < 256 → (bits .and .u8 n 21 == 0) = (!(bits .and .u8 n 1 != 0) && !(bits .and .u8 n 4 != 0) && !(bits .and .u8 n 16 != 0)) := by decide +kernel
theorem bgn_eq {fl : Int} (hfl : 0 ≤ fl ∧ fl ≤ 255) : bgn fl = ((bits .and .u8 fl 2 != 0) && !(bits .and .u8 fl 1 != 0) && !(bits .and .u8 fl 4 != 0) && !(bits .and .u8 fl 16 != 0)) := (by have := bits23 fl.toNat (by omega); rwa [Int.toNat_of_nonneg hfl.1] at this)

def nb (s : Int) (b R S F A : Bool) : Int := if S && F && !R then 0 else (row7 s)[(if R then 1 else if S then (if b then 3 else if S && !F && !R && !A then 2 else 4) else if F then 5 else if A then 6 else 0 : Int).toNat]?.getD 0
theorem nx_eq {s : Int} {b : Bool} {fl : Int} (hfl : 0 ≤ fl ∧ fl ≤ 255) : nx s b fl = nb s b (bits .and .u8 fl 4 != 0) (bits .and .u8 fl 2 != 0) (bits .and .u8 fl 1 != 0) (bits .and .u8 fl 16 != 0) := by
  unfold nx nb nws nwsS fb
  rw [bgn_eq hfl, (show (bits .and .u8 fl 7 == 3) = ((bits .and .u8 fl 2 != 0) && (bits .and .u8 fl 1 != 0) && !(bits .and .u8 fl 4 != 0)) from by have := bits7 fl.toNat (by omega); rwa [Int.toNat_of_nonneg hfl.1] at this)]
theorem row7_other {s : Int} (h : s < 0 ∨ 7 < s) : row7 s = [0, 0, 0, 0, 0, 0, 0] := by
  unfold row7
  simp only [show ¬ s = 0 from by omega, show ¬ s = 1 from by omega, show ¬ s = 2 from by omega, show ¬ s = 3 from by omega, show ¬ s = 4 from by omega, show ¬ s = 5 from by omega, show ¬ s = 6 from by omega, show ¬ s = 7 from by omega, if_false]
theorem nx_other {s : Int} {b : Bool} {fl : Int} (hfl : 0 ≤ fl ∧ fl ≤ 255) (h : s < 0 ∨ 7 < s) : nx s b fl = 0 := by
  unfold nx
  rw [row7_other h]
  rcases nws_bd b fl with h | h | h | h | h | h | h <;> rw [h] <;> split <;> rfl

end Go.Proofs.Ytbkggohjbigbgab
