/- Package bytes: the set of the two characters of a line's end. -/
import Derived.Deep.Cut
import Derived.Test.YtfnlakpjepjhbaaDoorRt
import Derived.Test.YtfnlakpjepjhbaaDoorCA
namespace Go.Proofs.YtfnlakpjepjhbaaDoor
open Go.RowKit Go.Shelf
set_option maxRecDepth 100000
set_option linter.unusedVariables false
set_option linter.unusedSimpArgs false

/-- The set of a line's end: its cells when k of the two characters are in it. -/
noncomputable def lsk : Nat → Array Value
  | 0 => Tryd.zeroCells116
  | 1 => Tryd.zeroCells116.setIfInBounds 13 (.bool true)
  | _ => (Tryd.zeroCells116.setIfInBounds 13 (.bool true)).setIfInBounds 10 (.bool true)
theorem lsk_size (k : Nat) : (lsk k).size = 256 := by
  rcases k with _ | _ | k
  · kernel_rfl
  · show (Array.setIfInBounds _ _ _).size = 256
    rw [Array.size_setIfInBounds]; kernel_rfl
  · show (Array.setIfInBounds _ _ _).size = 256
    rw [Array.size_setIfInBounds, Array.size_setIfInBounds]; kernel_rfl

theorem lsk_one : (lsk 2).all (·.oneCell') = true := by kernel_rfl

set_option maxHeartbeats 2000000 in
theorem makeSet_any (w : World) : Calls Tryd.prog 65 #[.string ⟨#[13, 10]⟩] w fun e w' => e = .returned (.tuple #[.agg (lsk 2), .bool true]) ∧ Below w.heap.size w w' := by
  have l1 : Below w.heap.size w (w.alloc (.cells Tryd.zeroCells116 116)) := (Below.refl _ _).alloc (Nat.le_refl _) _
  have B1 := hide (show (w.alloc (.cells Tryd.zeroCells116 116)).heap[w.heap.size]? = some (.cells (lsk 0) 116 (0, 0)) from heap_alloc_new w _)
  have z13 : (lsk 0)[13]? = some (.bool false) := by kernel_rfl
  have z10 : (lsk 1)[10]? = some (.bool false) := by kernel_rfl
  go_enter Tryd.func65, Tryd.ntmps65
  go_upto_region 1 with fail
  generalize w.alloc (.cells Tryd.zeroCells116 116) = w1 at *
  generalize hg : w.heap.size = g at *
  go_wp2_with fail
  go_loopw [4] (fun iv wr => ∃ k : Nat, k ≤ 2 ∧ iv = .int .i64 (k : Int) ∧ wr.heap[g]? = some (.cells (lsk k) 116 (0, 0)) ∧ Below g w wr) (fun iv _ => 2 - (intOf iv).toNat)
  case atStart => exact ⟨0, by omega, rfl, B1.out, l1⟩
  case round =>
    obtain ⟨k, hk2, rfl, hb, hbl⟩ := hrel
    have kb := block_cell hb
    have fb := block_frozen hb
    have HB := hide hb
    clear hb
    have hcase : k = 2 ∨ k = 0 ∨ k = 1 := by omega
    rcases hcase with rfl | rfl | rfl
    · clear kb fb
      have hsz : (Tryd.prog.info? 116).map (·.size) = some (lsk 2).size := by rw [lsk_size]; kernel_rfl
      go_upto_region 8 with fail
      go_wp2_with first
        | (refine wpList_load_row rfl 116 (.tmp 2) rfl g rfl 116 (lsk 2) (0, 0) _ HB.out Tryd.underlying116 rfl hsz ?_)
        | (refine wpList_store_row rfl 116 (.tmp 2) (.tmp 20) rfl g (lsk 2) rfl rfl 116 (lsk 2) HB.out hsz rfl lsk_one ?_)
      have R9 := setRow_heap wr g (lsk 2) (lsk 2) 116 (0, 0) HB.out
      have hL := run_loadVar_row (P := Tryd.prog) (wr.setRow g (lsk 2)) g 116 116 (lsk 2) (0, 0) _ R9 Tryd.underlying116 rfl hsz
      have hb9 : Below g w (wr.setRow g (lsk 2)) := ⟨hbl.os, hbl.tape, hbl.output, by rw [setRow_size]; exact hbl.size, fun i hi => by rw [setRow_other _ _ _ _ (by omega)]; exact hbl.block i hi⟩
      exact bodyPost_ret (v := .tuple #[.agg (lsk 2), .bool true]) (by simp [results, Tryd.results65, asAddr, hL]) rfl ⟨rfl, by rw [hg]; exact hb9⟩
    · have hix : ∀ W : World, (Instr.index 9 (.string ⟨#[13, 10]⟩) (.int .i64 0)).run Tryd.prog W = .ok (.int .u8 13) W := fun W => by kernel_rfl
      have k13 := (kb 13).trans z13
      have f13 := fb 13
      clear kb fb
      go_wp2_with fail
      exact ⟨⟨1, by omega, rfl, heap_set1 HB.out 13 (.bool true), hbl.trans ((But.setCell (E := fun q => q = g) (But.refl _ _) (p := ⟨g, 13, none⟩) rfl _).below (Nat.le_trans (Nat.le_of_eq hg.symm) hbl.size) (fun k hk e => by omega))⟩, by simp [intOf]⟩
    · have hix : ∀ W : World, (Instr.index 9 (.string ⟨#[13, 10]⟩) (.int .i64 1)).run Tryd.prog W = .ok (.int .u8 10) W := fun W => by kernel_rfl
      have k10 := (kb 10).trans z10
      have f10 := fb 10
      clear kb fb
      go_wp2_with fail
      exact ⟨⟨2, by omega, rfl, heap_set1 HB.out 10 (.bool true), hbl.trans ((But.setCell (E := fun q => q = g) (But.refl _ _) (p := ⟨g, 10, none⟩) rfl _).below (Nat.le_trans (Nat.le_of_eq hg.symm) hbl.size) (fun k hk e => by omega))⟩, by simp [intOf]⟩
end Go.Proofs.YtfnlakpjepjhbaaDoor
