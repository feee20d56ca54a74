import Derived.Test.YtofknbfbmaefoaaGreatDoorW3
namespace Go.Proofs.YtofknbfbmaefoaaGreatDoor
open Go.RowKit Go.Shelf
set_option maxRecDepth 100000
theorem below_draw {B : Nat} {a w : World} (h : Below B a w) (q : Nat) : Below B a (w.drewN q) := h.trans ⟨rfl, rfl, rfl, Nat.le_refl _, fun _ _ => rfl⟩
theorem cell_new (w : World) (arr : Array Value) (e : TypeId) (j : Nat) : (w.alloc (.cells arr e)).cell? ⟨w.heap.size, j, none⟩ = arr[j]? := by
 simp only [World.cell?, World.alloc_heap_new]
 rfl
theorem Rd.new (xs : List Int) (e : TypeId) (w : World) (hne : xs ≠ []) (hm : xs.length ≤ 9223372036854775807) : Rd (w.heap.size + 1) (w.alloc (.cells (xs.map (Value.int .u8)).toArray e)) (.slice (some ⟨w.heap.size, 0, none⟩) xs.length xs.length) xs := by
 refine .inr ⟨w.heap.size, 0, xs.length, rfl, hne, Nat.le_refl _, hm, by omega, fun j hj => ?_⟩
 rw [cell_new]
 simp [hj]
set_option maxHeartbeats 400000 in
theorem patch_any (s o n : Int) (w : World) (hs : 0 ≤ s ∧ s ≤ 65535) (ho : 0 ≤ o ∧ o ≤ 65535) (hn : 0 ≤ n ∧ n ≤ 65535) :
  Calls Tryz.prog 275 #[.int .u16 s, .int .u16 o, .int .u16 n] w fun e w' => e = .returned (.int .u16 (65535 - Mt.fd (65535 - s + (65535 - o) + n))) ∧ w' = w := by
 have e1 := not16 s hs.1 hs.2
 have e2 := not16 o ho.1 ho.2
 have hf := Mt.fd_bd (65535 - s + (65535 - o) + n)
 go_enter Tryz.func275, Tryz.ntmps275
 go_wp2_with fail
 rw [show IntKind.u64.wrap (IntKind.u64.wrap (IntKind.u64.wrap (65535 - s) + IntKind.u64.wrap (65535 - o)) + n) = 65535 - s + (65535 - o) + n from by simp [IntKind.wrap, IntKind.bits, IntKind.signed]; omega]
 refine (fold_any (65535 - s + (65535 - o) + n) _ (by omega) (by omega)).mono ?_
 rintro e w1 ⟨rfl, rfl⟩
 go_wp2
 rw [not16 _ hf.1 hf.2]
 go_ret
 exact ⟨rfl, rfl⟩
end Go.Proofs.YtofknbfbmaefoaaGreatDoor
