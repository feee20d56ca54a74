/- Layer 5: live. -/
import Derived.Test.YtojoaidnkljcpaaDoorKN
import Derived.Test.YtojoaidnkljcpaaDoorTN
namespace Go.Proofs.YtojoaidnkljcpaaDoor
open Go.RowKit Go.Shelf
set_option maxRecDepth 100000
set_option linter.unusedVariables false
set_option linter.unusedSimpArgs false

def z5 : List Int := udp 3 4 false 1 2 []
theorem z5_pue : pue 17 1 2 z5 = 0 := by decide +kernel
theorem z5_len : z5.length = 8 := by decide +kernel
theorem z5_w0 : wat z5 0 = 3 := by decide +kernel
theorem z5_w2 : wat z5 2 = 4 := by decide +kernel
theorem By_z5 : Mt.By z5 := By_udp 3 4 false 1 2 [] (by omega) (by omega) Mt.By.nil
theorem z5_flt : flt ([] : List Int).length (8 + ([] : List Int).length) = 0 := by decide +kernel
theorem z5_hsh : (hsh (tb 17 1 2 (kyp 17 3) 4) != 0) = true := by decide +kernel

set_option maxHeartbeats 4000000 in
theorem live5_any (w : World) : Calls Tryd.prog 11 #[] w fun e w' => e = .returned (.bool true) ∧ Below w.heap.size w w' := by
  go_enter Tryd.func11, Tryd.ntmps11
  go_wp2_with fail
  refine (rbuildUdp_any 0 0 0 0 1 2 3 4 false false _ _ none 0 0 [] [] w (rd_zero w) Mt.By.nil (rd_zero w) (by simp) (by simp) (by omega) (by omega) (by omega) (by omega)).mono ?_
  rw [z5_flt]
  rintro e w1 ⟨hb1, ⟨hx, _⟩ | ⟨_, a7, c7, a8, c8, rfl, hO, hD⟩⟩
  · exact absurd rfl hx
  rw [show udp 3 4 false 1 2 [] = z5 from rfl, show 8 + ([] : List Int).length = z5.length from z5_len.symm] at hD
  rw [show 8 + ([] : List Int).length = z5.length from z5_len.symm]
  have l2 : Later w1 (w1.alloc (.cells #[.int .u8 0, .int .u16 0, .bool false, .int .u8 0, .int .u8 17, .int .u32 1, .int .u32 2, .slice a7 ([] : List Int).length c7, .slice a8 z5.length c8] 26)) := (Below.refl _ _).alloc (Nat.le_refl _) _
  have hw2 := hb1.trans (l2.mono hb1.size)
  have hD2 := (hD.later l2).rd
  simp only [List.length_nil] at l2 hw2 hD2
  go_wp2_with fail
  generalize w1.alloc (.cells #[.int .u8 0, .int .u16 0, .bool false, .int .u8 0, .int .u8 17, .int .u32 1, .int .u32 2, .slice a7 0 c7, .slice a8 z5.length c8] 26) = w2 at *
  refine (of_udp 0 0 0 1 2 false _ _ z5 w2 By_z5 hD2 (by rw [z5_len]; omega) (by omega) (by omega) z5_pue).mono ?_
  rw [z5_w0, z5_w2]
  rintro e w3 ⟨hb3, rfl⟩
  have hw3 := hw2.trans (hb3.mono hw2.size)
  have l4 : Later w3 (w3.alloc (.cells #[.int .u8 17, .int .u32 1, .int .u32 2, .int .u16 3, .int .u16 4] 28)) := (Below.refl _ _).alloc (Nat.le_refl _) _
  have t4 := heap_alloc_new w3 (.cells #[.int .u8 17, .int .u32 1, .int .u32 2, .int .u16 3, .int .u16 4] 28)
  have hw4 := hw3.trans (l4.mono hw3.size)
  go_wp2_with fail
  generalize w3.alloc (.cells #[.int .u8 17, .int .u32 1, .int .u32 2, .int .u16 3, .int .u16 4] 28) = w4 at *
  refine (reverse_any 17 1 2 3 4 w4).mono ?_
  rintro e w5 ⟨rfl, hb5⟩
  have hw5 := hw4.trans (hb5.mono hw4.size)
  have t5 := block_cell ((Below.block hb5 _ (Array.getElem?_eq_some_iff.1 t4).1).trans t4)
  have hfd : ∀ W : World, (Instr.field 28 (.agg #[.int .u8 17, .int .u32 2, .int .u32 1, .int .u16 4, .int .u16 3]) 1).run Tryd.prog W = .ok (.int .u32 2) W := fun W => by kernel_rfl
  go_wp2_with fail
  clear hfd
  refine (hash_any 17 1 2 3 4 w5 (by omega) (by omega) (by omega) (by omega)).mono ?_
  rintro e w6 ⟨rfl, hb6⟩
  have hw6 := hw5.trans (hb6.mono hw5.size)
  have hz := z5_hsh
  generalize hsh (tb 17 1 2 (kyp 17 3) 4) = hv at *
  go_wp2_with fail
  go_ret
  exact ⟨by simp [hz], hw6⟩
end Go.Proofs.YtojoaidnkljcpaaDoor
