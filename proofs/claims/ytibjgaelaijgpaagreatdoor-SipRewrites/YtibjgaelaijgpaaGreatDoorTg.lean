/- The library's tables that package sip's road meets, as a row lists them. -/
import Derived.Test.YtibjgaelaijgpaaGreatDoorCards
import Derived.Test.YtibjgaelaijgpaaGreatDoorTie
import Derived.WalkKit
import Derived.ProofKit
import Derived.OpenShut
import Derived.PinnedBridge
import Derived.Lib.LaidIn
import Derived.Lib.LaidU8T
import Derived.Deep.DeepHandedRow
import Derived.Lib.LaidTab
import Derived.Lib.TrailingZeros
import Derived.Test.YtibjgaelaijgpaaGreatDoorIG
namespace Go.Proofs.YtibjgaelaijgpaaGreatDoor
open Go.ChangeShapes Go.WideShapes Go.ChangeAt Go.RowKit Go.Lib Go.Shelf
set_option maxRecDepth 100000
set_option linter.unusedVariables false

/-- The tables, as the rows list them. -/
def laid3 : List (String × DataW Unit) := [("math/bits.deBruijn32tab", Rows.laid_math_bits_deBruijn32tab), ("math/bits.deBruijn64tab", Rows.laid_math_bits_deBruijn64tab), ("internal/strconv.uint64pow10", Rows.laid_internal_strconv_uint64pow10)]
theorem pow_ty : (Tryz.prog.globals[0]?).map (·.type) = some 142 := by kernel_rfl
theorem pow_nm : Tryz.prog.globalNamed "internal/strconv.uint64pow10" = some 0 := by kernel_rfl
theorem pow_c1 : Tryz.prog.cellsOf 129 = 1 := by kernel_rfl
theorem pow_c2 : Tryz.prog.cellsOf 142 = 20 := by kernel_rfl
theorem pow_eq : (Rows.laid_internal_strconv_uint64pow10 : DataW Unit) = tabData .u64 pow10Tab := by kernel_rfl

theorem tabs_of_laid {W : World} (h : laidMetH Tryz.prog laid3 W) : TabI W := by
  have h' : laidMet Tryz.prog laid3 W := h
  · have h3 := laidMet.reads h' (n := "internal/strconv.uint64pow10") (d := Rows.laid_internal_strconv_uint64pow10) (.tail _ (.tail _ (.head _)))
    rw [pow_eq] at h3
    obtain ⟨g, t, cs, fuel, p, hg, hty, hvar, hd⟩ := h3
    obtain rfl := Option.some.inj (pow_nm.symm.trans hg)
    obtain rfl := Option.some.inj (pow_ty.symm.trans hty)
    have hcs := cells_of_tab Tryz.underlying142 Tryz.underlying129 pow_c1 pow_c2 hd
    unfold TabI Lib.TabIs
    rw [hvar, ← hcs]
theorem maxlen_of_shaped {W : World} (h : W.ShapedOpen Tryz.prog) : TabM W := by
  show ∃ m : Int, W.cell? ⟨1, 0, none⟩ = some (.int .i64 m)
  obtain ⟨cs, hc, hs, hr⟩ := h.1 1 #[.int .i64 0] 3 (by decide +kernel) (by kernel_rfl)
  obtain ⟨ts, hts, _, hcell⟩ := hr (by kernel_rfl)
  obtain rfl : [3] = ts := Option.some.inj ((show Tryz.prog.cellTypes Tryz.prog.depth 3 = some [3] by kernel_rfl).symm.trans hts)
  have h1 : cs.size = 1 := hs
  obtain ⟨v, hv⟩ : ∃ v, cs[0]? = some v := ⟨cs[0]'(by omega), Array.getElem?_eq_getElem (by omega)⟩
  obtain ⟨u, hu, hok⟩ := hcell 0 v hv
  obtain rfl : 3 = u := by simpa using hu
  unfold Cell.ok at hok
  rw [Tryz.underlying3] at hok
  cases v with
  | int k n =>
    simp only at hok
    obtain ⟨rfl, _⟩ := hok
    exact ⟨n, by rw [block_cell hc]; exact hv⟩
  | _ => simp at hok

/-- A world for the witness: the tables hold what their initialisers lay. -/
noncomputable def laidWorld3 (os : Os) : World :=
  let w0 := World.holding Tryz.prog os ⟨#[], #[], []⟩
  let put (h : Array Obj) (g : Nat) (cs : Array Value) : Array Obj := h.modify g fun
    | .cells _ t frozen => .cells cs t frozen
    | o => o
  let h3 := put w0.heap 0 (Lib.pow10Tab.map fun z => Value.int .u64 z).toArray
  let h4 := put h3 3 (Lib.deBruijn64tab.map fun (z : Nat) => Value.int .u8 (z : Int)).toArray
  let h5 := put h4 2 (Lib.deBruijn32tab.map fun (z : Nat) => Value.int .u8 (z : Int)).toArray
  { w0 with heap := h5 }
theorem laid_met3 (os : Os) (args : Array Value) : laidMet Tryz.prog laid3 ((laidWorld3 os).forCall (fun _ _ => 0) ⟨#[], args, []⟩).memory :=
  (LaidIn.of_run (l := laid3) [2, 3, 0] 8 (by kernel_rfl) (by kernel_rfl) (by kernel_rfl) (by kernel_rfl)).met
end Go.Proofs.YtibjgaelaijgpaaGreatDoor
