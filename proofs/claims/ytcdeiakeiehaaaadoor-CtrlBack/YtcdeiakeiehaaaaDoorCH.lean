/- Package ctrl: what a packet's frame is: its head. -/
import Derived.Test.YtcdeiakeiehaaaaDoorCG
namespace Go.Proofs.YtcdeiakeiehaaaaDoor
open Go.RowKit Go.Shelf
set_option maxRecDepth 100000
set_option linter.unusedVariables false
set_option linter.unusedSimpArgs false

/-- A frame's cells of zeros. -/
abbrev zf : List Value := [.int .u16 0, .bool false, .bool false, .int .u32 0, .int .u32 0, .slice none 0 0]

set_option maxHeartbeats 2000000 in
theorem frameHead_0 (sv : Value) (zs : List Int) (hB : Mt.By zs) (w : World) (hI : Rd w.heap.size w sv zs) :
    Calls Tryd.prog 33 #[sv, .int .i64 0] w fun e w' => e = .returned (.tuple #[.agg #[.int .u16 (getAt2 zs 6), .bool false, .bool false, .int .u32 0, .int .u32 0, .slice none 0 0], .int .i64 8]) ∧ Below w.heap.size w w' := by
  obtain ⟨a, cap, rfl, hl1, hm1⟩ := hI.slice
  have hb0 : Below w.heap.size w (w.alloc (.cells zf.toArray 30)) := (Below.refl _ _).alloc (Nat.le_refl _) _
  have r0 := heap_alloc_new w (.cells zf.toArray 30)
  have R0 := hide r0
  clear r0
  have a1 : bits .and .i64 0 1 = 0 := by decide +kernel
  have a2 : bits .and .i64 0 2 = 0 := by decide +kernel
  go_enter Tryd.func33, Tryd.ntmps33
  go_wp2_with fail
  refine (get16_at _ zs hB 6 _ (hI.below hb0)).mono ?_
  rintro e w1 ⟨rfl, q1, hq1⟩
  have hw1 : Below w.heap.size w w1 := by rw [hq1]; exact below_draw hb0 q1
  have r1 : w1.heap[w.heap.size]? = some (.cells zf.toArray 30 (0, 0)) := by rw [hq1]; exact R0.out
  have hs1 : w.heap.size < w1.heap.size := (Array.getElem?_eq_some_iff.1 r1).1
  clear hq1 R0
  have C1 := block_cell r1
  have D1 := block_frozen r1
  go_wp2_with fail
  generalize hV : (((((w1.setCell ⟨w.heap.size, 0, none⟩ _).setCell ⟨w.heap.size, 1, none⟩ _).setCell ⟨w.heap.size, 2, none⟩ _).setCell ⟨w.heap.size, 3, none⟩ _).setCell ⟨w.heap.size, 4, none⟩ _).setCell ⟨w.heap.size, 5, none⟩ _ = V8
  have hV9 : V8 = putRow w1 w.heap.size 0 [.int .u16 (getAt2 zs 6), .bool false, .bool false, .int .u32 0, .int .u32 0, .slice none 0 0] := hV.symm
  have hb8 : But (fun b => b = w.heap.size) w1 V8 := by rw [hV9]; exact putRow_but (E := fun b => b = w.heap.size) (n := w.heap.size) rfl _ _ _ _ (But.refl _ _)
  have p8 := putRow_all [.int .u16 (getAt2 zs 6), .bool false, .bool false, .int .u32 0, .int .u32 0, .slice none 0 0] r1 rfl
  rw [← hV9] at p8
  clear hV hV9 C1 D1
  have hw8 : Below w.heap.size w V8 := hw1.trans (hb8.below hw1.size (fun k h e => by omega))
  have p9 := (Below.heap_alloc V8 (.cells #[.int .u16 (getAt2 zs 6), .bool false, .bool false, .int .u32 0, .int .u32 0, .slice none 0 0] 30) _ (Array.getElem?_eq_some_iff.1 p8).1).trans p8
  have P9 := block_cell p9
  exact bodyPost_ret (v := .tuple #[.agg #[.int .u16 (getAt2 zs 6), .bool false, .bool false, .int .u32 0, .int .u32 0, .slice none 0 0], .int .i64 8]) (by simp [results, Tryd.results33, go_sem, P9]) rfl ⟨rfl, hw8.alloc hw8.size _⟩

set_option maxHeartbeats 2000000 in
theorem frameHead_1 (sv : Value) (zs : List Int) (hB : Mt.By zs) (w : World) (hI : Rd w.heap.size w sv zs) :
    Calls Tryd.prog 33 #[sv, .int .i64 1] w fun e w' => e = .returned (.tuple #[.agg #[.int .u16 (getAt2 zs 6), .bool true, .bool false, .int .u32 (getAt4 zs 8), .int .u32 0, .slice none 0 0], .int .i64 12]) ∧ Below w.heap.size w w' := by
  obtain ⟨a, cap, rfl, hl1, hm1⟩ := hI.slice
  have hb0 : Below w.heap.size w (w.alloc (.cells zf.toArray 30)) := (Below.refl _ _).alloc (Nat.le_refl _) _
  have r0 := heap_alloc_new w (.cells zf.toArray 30)
  have R0 := hide r0
  clear r0
  have a1 : bits .and .i64 1 1 = 1 := by decide +kernel
  have a2 : bits .and .i64 1 2 = 0 := by decide +kernel
  go_enter Tryd.func33, Tryd.ntmps33
  go_wp2_with fail
  refine (get16_at _ zs hB 6 _ (hI.below hb0)).mono ?_
  rintro e w1 ⟨rfl, q1, hq1⟩
  have hw1 : Below w.heap.size w w1 := by rw [hq1]; exact below_draw hb0 q1
  have r1 : w1.heap[w.heap.size]? = some (.cells zf.toArray 30 (0, 0)) := by rw [hq1]; exact R0.out
  have hs1 : w.heap.size < w1.heap.size := (Array.getElem?_eq_some_iff.1 r1).1
  clear hq1 R0
  have C1 := block_cell r1
  have D1 := block_frozen r1
  have hA := (Below.refl w1.heap.size w1).alloc (Nat.le_refl _) (.cells #[.int .u16 (getAt2 zs 6), .bool true, .bool false, .int .u32 0, .int .u32 0, .slice none 0 0] 30)
  have f2 := heap_alloc_new w1 (.cells #[.int .u16 (getAt2 zs 6), .bool true, .bool false, .int .u32 0, .int .u32 0, .slice none 0 0] 30)
  go_wp2_with fail
  generalize w1.alloc (.cells #[.int .u16 (getAt2 zs 6), .bool true, .bool false, .int .u32 0, .int .u32 0, .slice none 0 0] 30) = w2 at *
  have hw2 := hw1.trans (hA.mono hw1.size)
  have r2 := (hA.block w.heap.size hs1).trans r1
  clear C1 D1
  refine (get32_at _ zs hB 8 _ (hI.below hw2)).mono ?_
  rintro e w3 ⟨rfl, q3, hq3⟩
  have hw3 : Below w.heap.size w w3 := by rw [hq3]; exact below_draw hw2 q3
  have r3 : w3.heap[w.heap.size]? = some (.cells zf.toArray 30 (0, 0)) := by rw [hq3]; exact r2
  have f3 : w3.heap[w1.heap.size]? = some (.cells #[.int .u16 (getAt2 zs 6), .bool true, .bool false, .int .u32 0, .int .u32 0, .slice none 0 0] 30 (0, 0)) := by rw [hq3]; exact f2
  clear hq3
  have K3 := block_cell f3
  have L3 := block_frozen f3
  have f4 := heap_set1 f3 3 (.int .u32 (getAt4 zs 8))
  have hw4 := hw3.setCell (p := ⟨w1.heap.size, 3, none⟩) (Nat.le_of_lt hs1) (.int .u32 (getAt4 zs 8))
  have r4 := (Below.heap_setCell w3 ⟨w1.heap.size, 3, none⟩ (.int .u32 (getAt4 zs 8)) w.heap.size (by simp; omega)).trans r3
  have R4 := block_cell r4
  have S4 := block_frozen r4
  have hne : ¬ w1.heap.size = w.heap.size := by omega
  have hne2 : ¬ w.heap.size = w1.heap.size := by omega
  go_wp2_with fail
  generalize w3.setCell ⟨w1.heap.size, 3, none⟩ (.int .u32 (getAt4 zs 8)) = w4 at *
  clear K3 L3
  generalize hV : (((((w4.setCell ⟨w.heap.size, 0, none⟩ _).setCell ⟨w.heap.size, 1, none⟩ _).setCell ⟨w.heap.size, 2, none⟩ _).setCell ⟨w.heap.size, 3, none⟩ _).setCell ⟨w.heap.size, 4, none⟩ _).setCell ⟨w.heap.size, 5, none⟩ _ = V8
  have hV9 : V8 = putRow w4 w.heap.size 0 [.int .u16 (getAt2 zs 6), .bool true, .bool false, .int .u32 (getAt4 zs 8), .int .u32 0, .slice none 0 0] := hV.symm
  have hb8 : But (fun b => b = w.heap.size) w4 V8 := by rw [hV9]; exact putRow_but (E := fun b => b = w.heap.size) (n := w.heap.size) rfl _ _ _ _ (But.refl _ _)
  have p8 := putRow_all [.int .u16 (getAt2 zs 6), .bool true, .bool false, .int .u32 (getAt4 zs 8), .int .u32 0, .slice none 0 0] r4 rfl
  rw [← hV9] at p8
  clear hV hV9 R4 S4
  have P8 := block_cell p8
  have hw8 : Below w.heap.size w V8 := hw4.trans (hb8.below hw4.size (fun k h e => by omega))
  exact bodyPost_ret (v := .tuple #[.agg #[.int .u16 (getAt2 zs 6), .bool true, .bool false, .int .u32 (getAt4 zs 8), .int .u32 0, .slice none 0 0], .int .i64 12]) (by simp [results, Tryd.results33, go_sem, P8]) rfl ⟨rfl, hw8⟩

set_option maxHeartbeats 2000000 in
theorem frameHead_2 (sv : Value) (zs : List Int) (hB : Mt.By zs) (w : World) (hI : Rd w.heap.size w sv zs) :
    Calls Tryd.prog 33 #[sv, .int .i64 2] w fun e w' => e = .returned (.tuple #[.agg #[.int .u16 (getAt2 zs 6), .bool false, .bool true, .int .u32 0, .int .u32 (getAt4 zs 8), .slice none 0 0], .int .i64 12]) ∧ Below w.heap.size w w' := by
  obtain ⟨a, cap, rfl, hl1, hm1⟩ := hI.slice
  have hb0 : Below w.heap.size w (w.alloc (.cells zf.toArray 30)) := (Below.refl _ _).alloc (Nat.le_refl _) _
  have r0 := heap_alloc_new w (.cells zf.toArray 30)
  have R0 := hide r0
  clear r0
  have a1 : bits .and .i64 2 1 = 0 := by decide +kernel
  have a2 : bits .and .i64 2 2 = 2 := by decide +kernel
  go_enter Tryd.func33, Tryd.ntmps33
  go_wp2_with fail
  refine (get16_at _ zs hB 6 _ (hI.below hb0)).mono ?_
  rintro e w1 ⟨rfl, q1, hq1⟩
  have hw1 : Below w.heap.size w w1 := by rw [hq1]; exact below_draw hb0 q1
  have r1 : w1.heap[w.heap.size]? = some (.cells zf.toArray 30 (0, 0)) := by rw [hq1]; exact R0.out
  have hs1 : w.heap.size < w1.heap.size := (Array.getElem?_eq_some_iff.1 r1).1
  clear hq1 R0
  have C1 := block_cell r1
  have D1 := block_frozen r1
  have hA := (Below.refl w1.heap.size w1).alloc (Nat.le_refl _) (.cells #[.int .u16 (getAt2 zs 6), .bool false, .bool true, .int .u32 0, .int .u32 0, .slice none 0 0] 30)
  have f2 := heap_alloc_new w1 (.cells #[.int .u16 (getAt2 zs 6), .bool false, .bool true, .int .u32 0, .int .u32 0, .slice none 0 0] 30)
  go_wp2_with fail
  generalize w1.alloc (.cells #[.int .u16 (getAt2 zs 6), .bool false, .bool true, .int .u32 0, .int .u32 0, .slice none 0 0] 30) = w2 at *
  have hw2 := hw1.trans (hA.mono hw1.size)
  have r2 := (hA.block w.heap.size hs1).trans r1
  clear C1 D1
  refine (get32_at _ zs hB 8 _ (hI.below hw2)).mono ?_
  rintro e w3 ⟨rfl, q3, hq3⟩
  have hw3 : Below w.heap.size w w3 := by rw [hq3]; exact below_draw hw2 q3
  have r3 : w3.heap[w.heap.size]? = some (.cells zf.toArray 30 (0, 0)) := by rw [hq3]; exact r2
  have f3 : w3.heap[w1.heap.size]? = some (.cells #[.int .u16 (getAt2 zs 6), .bool false, .bool true, .int .u32 0, .int .u32 0, .slice none 0 0] 30 (0, 0)) := by rw [hq3]; exact f2
  clear hq3
  have K3 := block_cell f3
  have L3 := block_frozen f3
  have f4 := heap_set1 f3 4 (.int .u32 (getAt4 zs 8))
  have hw4 := hw3.setCell (p := ⟨w1.heap.size, 4, none⟩) (Nat.le_of_lt hs1) (.int .u32 (getAt4 zs 8))
  have r4 := (Below.heap_setCell w3 ⟨w1.heap.size, 4, none⟩ (.int .u32 (getAt4 zs 8)) w.heap.size (by simp; omega)).trans r3
  have R4 := block_cell r4
  have S4 := block_frozen r4
  have hne : ¬ w1.heap.size = w.heap.size := by omega
  have hne2 : ¬ w.heap.size = w1.heap.size := by omega
  go_wp2_with fail
  generalize w3.setCell ⟨w1.heap.size, 4, none⟩ (.int .u32 (getAt4 zs 8)) = w4 at *
  clear K3 L3
  generalize hV : (((((w4.setCell ⟨w.heap.size, 0, none⟩ _).setCell ⟨w.heap.size, 1, none⟩ _).setCell ⟨w.heap.size, 2, none⟩ _).setCell ⟨w.heap.size, 3, none⟩ _).setCell ⟨w.heap.size, 4, none⟩ _).setCell ⟨w.heap.size, 5, none⟩ _ = V8
  have hV9 : V8 = putRow w4 w.heap.size 0 [.int .u16 (getAt2 zs 6), .bool false, .bool true, .int .u32 0, .int .u32 (getAt4 zs 8), .slice none 0 0] := hV.symm
  have hb8 : But (fun b => b = w.heap.size) w4 V8 := by rw [hV9]; exact putRow_but (E := fun b => b = w.heap.size) (n := w.heap.size) rfl _ _ _ _ (But.refl _ _)
  have p8 := putRow_all [.int .u16 (getAt2 zs 6), .bool false, .bool true, .int .u32 0, .int .u32 (getAt4 zs 8), .slice none 0 0] r4 rfl
  rw [← hV9] at p8
  clear hV hV9 R4 S4
  have P8 := block_cell p8
  have hw8 : Below w.heap.size w V8 := hw4.trans (hb8.below hw4.size (fun k h e => by omega))
  exact bodyPost_ret (v := .tuple #[.agg #[.int .u16 (getAt2 zs 6), .bool false, .bool true, .int .u32 0, .int .u32 (getAt4 zs 8), .slice none 0 0], .int .i64 12]) (by simp [results, Tryd.results33, go_sem, P8]) rfl ⟨rfl, hw8⟩

set_option maxHeartbeats 2000000 in
theorem frameHead_3 (sv : Value) (zs : List Int) (hB : Mt.By zs) (w : World) (hI : Rd w.heap.size w sv zs) :
    Calls Tryd.prog 33 #[sv, .int .i64 3] w fun e w' => e = .returned (.tuple #[.agg #[.int .u16 (getAt2 zs 6), .bool true, .bool true, .int .u32 (getAt4 zs 8), .int .u32 (getAt4 zs 12), .slice none 0 0], .int .i64 16]) ∧ Below w.heap.size w w' := by
  obtain ⟨a, cap, rfl, hl1, hm1⟩ := hI.slice
  have hb0 : Below w.heap.size w (w.alloc (.cells zf.toArray 30)) := (Below.refl _ _).alloc (Nat.le_refl _) _
  have r0 := heap_alloc_new w (.cells zf.toArray 30)
  have R0 := hide r0
  clear r0
  have a1 : bits .and .i64 3 1 = 1 := by decide +kernel
  have a2 : bits .and .i64 3 2 = 2 := by decide +kernel
  go_enter Tryd.func33, Tryd.ntmps33
  go_wp2_with fail
  refine (get16_at _ zs hB 6 _ (hI.below hb0)).mono ?_
  rintro e w1 ⟨rfl, q1, hq1⟩
  have hw1 : Below w.heap.size w w1 := by rw [hq1]; exact below_draw hb0 q1
  have r1 : w1.heap[w.heap.size]? = some (.cells zf.toArray 30 (0, 0)) := by rw [hq1]; exact R0.out
  have hs1 : w.heap.size < w1.heap.size := (Array.getElem?_eq_some_iff.1 r1).1
  clear hq1 R0
  have C1 := block_cell r1
  have D1 := block_frozen r1
  have hA := (Below.refl w1.heap.size w1).alloc (Nat.le_refl _) (.cells #[.int .u16 (getAt2 zs 6), .bool true, .bool true, .int .u32 0, .int .u32 0, .slice none 0 0] 30)
  have f2 := heap_alloc_new w1 (.cells #[.int .u16 (getAt2 zs 6), .bool true, .bool true, .int .u32 0, .int .u32 0, .slice none 0 0] 30)
  go_wp2_with fail
  generalize w1.alloc (.cells #[.int .u16 (getAt2 zs 6), .bool true, .bool true, .int .u32 0, .int .u32 0, .slice none 0 0] 30) = w2 at *
  have hw2 := hw1.trans (hA.mono hw1.size)
  have r2 := (hA.block w.heap.size hs1).trans r1
  clear C1 D1
  refine (get32_at _ zs hB 8 _ (hI.below hw2)).mono ?_
  rintro e w3 ⟨rfl, q3, hq3⟩
  have hw3 : Below w.heap.size w w3 := by rw [hq3]; exact below_draw hw2 q3
  have r3 : w3.heap[w.heap.size]? = some (.cells zf.toArray 30 (0, 0)) := by rw [hq3]; exact r2
  have f3 : w3.heap[w1.heap.size]? = some (.cells #[.int .u16 (getAt2 zs 6), .bool true, .bool true, .int .u32 0, .int .u32 0, .slice none 0 0] 30 (0, 0)) := by rw [hq3]; exact f2
  clear hq3
  have K3 := block_cell f3
  have L3 := block_frozen f3
  have f4 := heap_set1 f3 3 (.int .u32 (getAt4 zs 8))
  have hw4 := hw3.setCell (p := ⟨w1.heap.size, 3, none⟩) (Nat.le_of_lt hs1) (.int .u32 (getAt4 zs 8))
  have r4 := (Below.heap_setCell w3 ⟨w1.heap.size, 3, none⟩ (.int .u32 (getAt4 zs 8)) w.heap.size (by simp; omega)).trans r3
  go_wp2_with fail
  generalize w3.setCell ⟨w1.heap.size, 3, none⟩ (.int .u32 (getAt4 zs 8)) = w4 at *
  clear K3 L3
  refine (get32_at _ zs hB 12 _ (hI.below hw4)).mono ?_
  rintro e w5 ⟨rfl, q5, hq5⟩
  have hw5 : Below w.heap.size w w5 := by rw [hq5]; exact below_draw hw4 q5
  have r5 : w5.heap[w.heap.size]? = some (.cells zf.toArray 30 (0, 0)) := by rw [hq5]; exact r4
  have f5 : w5.heap[w1.heap.size]? = some (.cells #[.int .u16 (getAt2 zs 6), .bool true, .bool true, .int .u32 (getAt4 zs 8), .int .u32 0, .slice none 0 0] 30 (0, 0)) := by rw [hq5]; exact f4
  clear hq5
  have K5 := block_cell f5
  have L5 := block_frozen f5
  have f6 := heap_set1 f5 4 (.int .u32 (getAt4 zs 12))
  have hw6 := hw5.setCell (p := ⟨w1.heap.size, 4, none⟩) (Nat.le_of_lt hs1) (.int .u32 (getAt4 zs 12))
  have r6 := (Below.heap_setCell w5 ⟨w1.heap.size, 4, none⟩ (.int .u32 (getAt4 zs 12)) w.heap.size (by simp; omega)).trans r5
  have R6 := block_cell r6
  have S6 := block_frozen r6
  have hne : ¬ w1.heap.size = w.heap.size := by omega
  have hne2 : ¬ w.heap.size = w1.heap.size := by omega
  go_wp2_with fail
  generalize w5.setCell ⟨w1.heap.size, 4, none⟩ (.int .u32 (getAt4 zs 12)) = w6 at *
  clear K5 L5
  generalize hV : (((((w6.setCell ⟨w.heap.size, 0, none⟩ _).setCell ⟨w.heap.size, 1, none⟩ _).setCell ⟨w.heap.size, 2, none⟩ _).setCell ⟨w.heap.size, 3, none⟩ _).setCell ⟨w.heap.size, 4, none⟩ _).setCell ⟨w.heap.size, 5, none⟩ _ = V8
  have hV9 : V8 = putRow w6 w.heap.size 0 [.int .u16 (getAt2 zs 6), .bool true, .bool true, .int .u32 (getAt4 zs 8), .int .u32 (getAt4 zs 12), .slice none 0 0] := hV.symm
  have hb8 : But (fun b => b = w.heap.size) w6 V8 := by rw [hV9]; exact putRow_but (E := fun b => b = w.heap.size) (n := w.heap.size) rfl _ _ _ _ (But.refl _ _)
  have p8 := putRow_all [.int .u16 (getAt2 zs 6), .bool true, .bool true, .int .u32 (getAt4 zs 8), .int .u32 (getAt4 zs 12), .slice none 0 0] r6 rfl
  rw [← hV9] at p8
  clear hV hV9 R6 S6
  have P8 := block_cell p8
  have hw8 : Below w.heap.size w V8 := hw6.trans (hb8.below hw6.size (fun k h e => by omega))
  exact bodyPost_ret (v := .tuple #[.agg #[.int .u16 (getAt2 zs 6), .bool true, .bool true, .int .u32 (getAt4 zs 8), .int .u32 (getAt4 zs 12), .slice none 0 0], .int .i64 16]) (by simp [results, Tryd.results33, go_sem, P8]) rfl ⟨rfl, hw8⟩

end Go.Proofs.YtcdeiakeiehaaaaDoor
