/- The document's number. -/
import Derived.Test.YtfnlakpjepjhbaaDoorFL
namespace Go.Proofs.YtfnlakpjepjhbaaDoor
open Go.RowKit Go.Shelf
set_option maxRecDepth 100000
set_option linter.unusedVariables false
set_option linter.unusedSimpArgs false

/-- How the document goes through digits: where it stops, and what they say. -/
def nmE (zs : List Int) (most : Int) : Nat → Nat → Int → Nat × Int
  | 0, i, n => (i, n)
  | k + 1, i, n => if i < zs.length ∧ dgt (zs[i]?.getD 0) = true ∧ n ≤ most then nmE zs most k (i + 1) (n * 10 + (zs[i]?.getD 0 - 48)) else (i, n)
def nmZ (zs : List Int) (most : Int) (i : Nat) (n : Int) : Nat × Int := nmE zs most (zs.length - i) i n
theorem nmZ_go {zs : List Int} {most : Int} {i : Nat} {n : Int} (h : i < zs.length ∧ dgt (zs[i]?.getD 0) = true ∧ n ≤ most) : nmZ zs most i n = nmZ zs most (i + 1) (n * 10 + (zs[i]?.getD 0 - 48)) := by
  unfold nmZ
  rw [show zs.length - i = (zs.length - (i + 1)) + 1 by omega]
  show (if _ then _ else _) = _
  rw [if_pos h]
theorem nmZ_stop {zs : List Int} {most : Int} {i : Nat} {n : Int} (h : ¬ (i < zs.length ∧ dgt (zs[i]?.getD 0) = true ∧ n ≤ most)) : nmZ zs most i n = (i, n) := by
  unfold nmZ
  cases zs.length - i with
  | zero => rfl
  | succ k => show (if _ then _ else _) = _; rw [if_neg h]
/-- The document's number: none, where there is none. -/
def numD (zs : List Int) (p : Nat) (most : Int) : Option (Int × Nat) := if (nmZ zs most p 0).1 = p ∨ most < (nmZ zs most p 0).2 ∨ (zs[p]?.getD 0 = 48 ∧ p + 1 < (nmZ zs most p 0).1) ∨ ((nmZ zs most p 0).1 < zs.length ∧ dgt (zs[(nmZ zs most p 0).1]?.getD 0) = true) then none else some ((nmZ zs most p 0).2, (nmZ zs most p 0).1)
/-- What digits tell, and that they are all: the document's number is the program's. -/
theorem dgt_rng {c : Int} (h : dgt c = true) : 48 ≤ c ∧ c ≤ 57 := by unfold dgt at h; simpa using h
theorem strOf_at (l : List Int) (hl : Mt.By l) (i : Nat) (h : i < l.length) : bAt (strOfNums l) i = l[i]?.getD 0 := by
  have hs : i < (strOfNums l).size := by rw [strOfNums_size]; exact h
  have hb := hl l[i] (List.getElem_mem h)
  unfold bAt
  rw [List.getElem?_eq_getElem h]
  simp only [Option.getD_some, ByteArray.get!, strOfNums]
  rw [getElem!_pos _ i (by simpa using h)]
  simp
  omega
end Go.Proofs.YtfnlakpjepjhbaaDoor
