import Derived.Test.YtofknbfbmaefoaaGreatDoorW3
namespace Go.Proofs.YtofknbfbmaefoaaGreatDoor
open Go.RowKit Go.Shelf
set_option maxRecDepth 100000
theorem below_draw {B : Nat} {a w : World} (h : Below B a w) (q : Nat) : Below B a (w.drewN q) := h.trans ⟨rfl, rfl, rfl, Nat.le_refl _, fun _ _ => rfl⟩
theorem cell_new (w : World) (arr : Array Value) (e : TypeId) (j : Nat) : (w.alloc (.cells arr e)).cell? ⟨w.heap.size, j, none⟩ = arr[j]? := by
 simp only [World.cell?, World.alloc_heap_new]
 rfl
theorem Rd.new (xs : List Int) (e : TypeId) (w : World) (hne : xs ≠ []) (hm : xs.length ≤ 9223372036854775807) : Rd (w.heap.size + 1) (w.alloc (.cells (xs.map (Value.int .u8)).toArray e)) (.slice (some ⟨w.heap.size, 0, none⟩) xs.length xs.length) xs := by
 refine .inr ⟨w.heap.size, 0, xs.length, rfl, hne, Nat.le_refl _, hm, by omega, fun j hj => ?_⟩
 rw [cell_new]
 simp [hj]
theorem row_block {W : World} (x : Addr) (zs : List Int) (hcell : ∀ i, i < zs.length → W.cell? (x.add i) = some (.int .u8 (zs.getD i 0))) (h : 0 < zs.length) : x.block < W.heap.size := by
 have := World.block_lt_of_cell? W _ (hcell 0 h)
 simpa [Addr.add] using this
theorem rd_of_row {W : World} (x : Addr) (l c : Nat) (zs : List Int) (hl : l ≤ c) (hm : c ≤ 9223372036854775807) (hz : zs.length = c) (hcell : ∀ i, i < zs.length → W.cell? (x.add i) = some (.int .u8 (zs.getD i 0))) (hwz : ∀ n ∈ zs, (Lit.int .u8 n).wf = true)
  (n₀ : Nat) (hb : 0 < l → x.block < n₀) : ∃ ys, Mt.By ys ∧ Rd n₀ W (.slice (some x) l c) ys := by
 refine ⟨zs.take l, fun z hz => ?_, ?_⟩
 ·have := hwz z (List.mem_of_mem_take hz)
  simpa [Lit.wf, IntKind.min, IntKind.max, IntKind.signed, IntKind.bits] using this
 ·by_cases h0 : l = 0
  ·subst h0
   exact .inl ⟨_, _, rfl, by simp, hm, fun h => by cases h⟩
  ·obtain ⟨b, off, spot⟩ := x
   have hc := hcell 0 (by omega)
   have hspot : spot = none := by simpa [Addr.add] using World.cell?_spot hc
   subst hspot
   have hlen : (zs.take l).length = l := by simp; omega
   refine .inr ⟨b, off, c, by rw [hlen], fun e => by rw [e] at hlen; simp at hlen; omega, by omega, hm, hb (by omega), fun j hj => ?_⟩
   have := hcell j (by omega)
   rw [show (⟨b, off, none⟩ : Addr).add j = ⟨b, off + j, none⟩ from by unfold Addr.add; split <;> simp_all] at this
   rw [this]
   simp [show j < l by omega]
end Go.Proofs.YtofknbfbmaefoaaGreatDoor
