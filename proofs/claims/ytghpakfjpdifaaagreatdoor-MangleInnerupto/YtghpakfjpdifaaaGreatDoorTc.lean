/- The table that package ctrl keeps, as a row lists it. -/
import Derived.Test.YtghpakfjpdifaaaGreatDoorCards
import Derived.Test.YtghpakfjpdifaaaGreatDoorTie
import Derived.WalkKit
import Derived.ProofKit
import Derived.OpenShut
import Derived.Deep.DeepHandedRow
import Derived.Lib.LaidTab
import Derived.Test.YtghpakfjpdifaaaGreatDoorCD
namespace Go.Proofs.YtghpakfjpdifaaaGreatDoor
open Go.ChangeShapes Go.WideShapes Go.ChangeAt Go.RowKit
set_option maxRecDepth 100000
set_option linter.unusedVariables false

theorem gTab : Tryz.prog.globalNamed "lychgate/ctrl.beginnings" = some 0 := by kernel_rfl
theorem gTabType : (Tryz.prog.globals[0]?).map (·.type) = some 159 := by kernel_rfl
theorem cellsTab : Tryz.prog.cellsOf 159 = 16 := by kernel_rfl
theorem cellsRow : Tryz.prog.cellsOf 151 = 4 := by kernel_rfl
theorem cellsByte : Tryz.prog.cellsOf 5 = 1 := by kernel_rfl

theorem list16 {α : Type} {l : List α} (h : l.length = 16) : ∃ a b c d e f g i j k m n o p q r, l = [a, b, c, d, e, f, g, i, j, k, m, n, o, p, q, r] := by
 match l, h with
 | [a, b, c, d, e, f, g, i, j, k, m, n, o, p, q, r], _ => exact ⟨a, b, c, d, e, f, g, i, j, k, m, n, o, p, q, r, rfl⟩

theorem tb_of_laid {W : World} (h : laidMetH Tryz.prog [("lychgate/ctrl.beginnings", Rows.laid_lychgate_ctrl_beginnings)] W) : Tb W := by
 have h' : laidMet Tryz.prog [("lychgate/ctrl.beginnings", Rows.laid_lychgate_ctrl_beginnings)] W := h
 obtain ⟨ps, ⟨g', t', cs, fuel, p, q, hg', ht', hvar, hd, _, _⟩, _⟩ := h'
 obtain rfl := Option.some.inj (gTab.symm.trans hg')
 obtain rfl := Option.some.inj (gTabType.symm.trans ht')
 have hcell := World.var?_cell gTab hvar
 cases fuel with
 | zero => simp [DataW.trod] at hd
 | succ fuel =>
  simp only [DataW.trod, Tryz.underlying159, cellsTab, cellsRow] at hd
  split at hd
  ·rename_i hl
   obtain ⟨xs, hm, hx⟩ := Option.map_eq_some_iff.1 hd
   have hxs := congrArg Prod.fst hx
   simp only [Rows.laid_lychgate_ctrl_beginnings, DataW.agg.injEq] at hxs
   have row : ∀ (i : Nat) (zs : List Int), i < 4 → (xs.map (·.1))[i]? = some (Lib.tabData .u8 zs) → (cs.toList.drop (i * 4)).take 4 = zs.map fun z => Value.int .u8 z := by
    intro i zs hi hz
    obtain ⟨b, hb, hf⟩ := Lib.mapM_at hm i i (by simp [hi])
    have hb1 : b.1 = Lib.tabData .u8 zs := by simpa [hb] using hz
    obtain ⟨b1, b2⟩ := b
    simp only at hb1
    subst hb1
    exact Lib.cells_of_tab Tryz.underlying151 Tryz.underlying5 cellsByte cellsRow hf
   have r0 := row 0 [32, 1, 136, 11] (by omega) (by rw [hxs]; rfl)
   have r1 := row 1 [48, 1, 136, 11] (by omega) (by rw [hxs]; rfl)
   have r2 := row 2 [32, 129, 136, 11] (by omega) (by rw [hxs]; rfl)
   have r3 := row 3 [48, 129, 136, 11] (by omega) (by rw [hxs]; rfl)
   obtain ⟨a, b, c, d, e, f, g, i, j, k, m, n, o, p', q', r, hcs⟩ := list16 (l := cs.toList) (by simp_all)
   rw [hcs] at r0 r1 r2 r3
   simp at r0 r1 r2 r3
   have hcs2 : cs = #[a, b, c, d, e, f, g, i, j, k, m, n, o, p', q', r] := by rw [← hcs]
   obtain ⟨rfl, rfl, rfl, rfl⟩ := r0
   obtain ⟨rfl, rfl, rfl, rfl⟩ := r1
   obtain ⟨rfl, rfl, rfl, rfl⟩ := r2
   obtain ⟨rfl, rfl, rfl, rfl⟩ := r3
   subst hcs2
   intro i hi
   rw [hcell i]
   match i, hi with
   | 0, _ | 1, _ | 2, _ | 3, _ | 4, _ | 5, _ | 6, _ | 7, _ | 8, _ | 9, _ | 10, _ | 11, _ | 12, _ | 13, _ | 14, _ | 15, _ => rfl
   | n + 16, h => exact absurd h (by omega)
  ·cases hd
end Go.Proofs.YtghpakfjpdifaaaGreatDoor
