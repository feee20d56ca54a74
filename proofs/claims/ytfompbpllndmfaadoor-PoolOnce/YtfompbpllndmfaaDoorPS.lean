/- Package pool: Fork. -/
import Derived.Deep.MidRow
import Derived.Laws.Tables
import Derived.Test.YtfompbpllndmfaaDoorPK
namespace Go.Proofs.YtfompbpllndmfaaDoor
open Go.RowKit Go.Shelf
set_option maxRecDepth 100000
set_option linter.unusedVariables false
set_option linter.unusedSimpArgs false

theorem setRow_but (W : World) (g : Nat) (cs : Array Value) : But (fun i => i = g) W (W.setRow g cs) := by
  refine ⟨rfl, rfl, rfl, ?_, fun i hi he => ?_⟩
  · unfold World.setRow
    simp
  · unfold World.setRow
    simp only
    rw [Array.getElem?_modify, if_neg (fun e => he e.symm)]
theorem info_pool : (Tryd.prog.info? 52).map (·.size) = some 1026 := by kernel_rfl

/-- What a new pool holds. -/
@[irreducible] def zcp : Array Value := (Value.int .u16 0 :: .int .u16 0 :: List.replicate 1024 (.int .u64 0)).toArray
theorem zcp_size : zcp.size = 1026 := by unfold zcp; simp
theorem zcp_ne : ¬ zcp = #[] := fun h => by have := zcp_size; rw [h] at this; simp at this
theorem zv_pool (w : World) : (zeroValue 52).run Tryd.prog w = .ok (.agg zcp) w := by
  unfold zcp
  kernel_rfl
attribute [local go_sem] zv_pool zcp_ne

set_option maxHeartbeats 2000000 in
theorem fork8_any (base b : Nat) (low high : Int) (ws : Nat → Nat) (w : World) (hT : PB base w b low high ws) :
    Calls Tryd.prog 13 #[.pointer (some ⟨b, 0, none⟩)] w fun e w' => Later w w' ∧ e = .returned (.pointer (some ⟨w.heap.size, 0, none⟩)) ∧ PB w.heap.size w' w.heap.size low high ws := by
  obtain ⟨h1, h2, h3⟩ := hT
  have hra : w.rangeAt b 0 (pcl low high ws) := fun j v hj => by rw [Nat.zero_add, block_cell h3, List.getElem?_toArray]; exact hj
  have hone : ∀ v ∈ pcl low high ws, v.oneCell' = true := by
    intro v hm
    unfold pcl at hm
    rcases List.mem_cons.1 hm with rfl | hm
    · rfl
    · rcases List.mem_cons.1 hm with rfl | hm
      · rfl
      · obtain ⟨i, _, rfl⟩ := List.mem_map.1 hm
        rfl
  have hln : (pcl low high ws).length = 1026 := by unfold pcl; simp
  have la : Later w (w.alloc (.cells zcp 52)) := (Below.refl _ _).alloc (Nat.le_refl _) _
  have z0 := heap_alloc_new w (.cells zcp 52)
  have hzs : zcp.size = 1026 := zcp_size
  have HRA := hide hra
  have HONE := hide (all_oneCell_toArray hone)
  have HSR := hide (setRow_heap (w.alloc (.cells zcp 52)) w.heap.size _ (pcl low high ws).toArray 52 (0, 0) z0)
  have HSB := hide (setRow_but (w.alloc (.cells zcp 52)) w.heap.size (pcl low high ws).toArray)
  have HZS := hide hzs
  have Z0 := hide z0
  have H2 := hide h2
  clear hra hone hzs z0 h1 h2 h3
  generalize hcs : pcl low high ws = cs at *
  have HCS := hide hcs
  clear hcs
  go_enter Tryd.func13, Tryd.ntmps13
  go_wp2_with (first | (refine wpList_load_mid rfl 52 (.tmp 7) rfl b 0 rfl cs _ HRA.out Tryd.underlying52 rfl (by rw [info_pool]; simp [hln]) ?_) | (refine wpList_store_row rfl 52 (.tmp 3) (.tmp 8) rfl w.heap.size cs.toArray rfl rfl 52 _ Z0.out (by rw [info_pool]; simp [hln]) (by rw [HZS.out]; simp [hln]) HONE.out ?_))
  have hb1 := Below.trans la (HSB.out.below la.size (fun x hx e => by omega))
  have h1 := HSR.out
  generalize World.setRow _ _ _ = w1 at *
  go_ret
  exact ⟨hb1, rfl, Nat.le_refl _, H2.out, by rw [HCS.out]; exact h1⟩
end Go.Proofs.YtfompbpllndmfaaDoor
