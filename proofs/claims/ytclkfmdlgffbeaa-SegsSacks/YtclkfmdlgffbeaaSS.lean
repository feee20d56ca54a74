/- Package segs: what must be whatever is asked. -/
import Derived.Test.YtclkfmdlgffbeaaSR
namespace Go.Proofs.Ytclkfmdlgffbeaa
open Go.RowKit Go.Shelf
set_option maxRecDepth 100000
set_option linter.unusedVariables false
set_option linter.unusedSimpArgs false

def os0 : List Opt := [(1, []), (1, []), (5, [0, 0, 0, 1, 0, 0, 0, 2])]
def tc0 : List Int := tcp 1 0 0 0 0 0 0 (pad (obs os0)) 0 0 []
theorem os0_bte : bte os0 0 0 = 0 := by decide +kernel
theorem os0_len : (pad (obs os0)).length = 12 := by decide +kernel
theorem tc0_pte : pte 6 0 0 tc0 = 0 := by decide +kernel
theorem tc0_opts : opts (hop tc0) = some os0 := by decide +kernel
theorem tc0_len : tc0.length = 32 := by decide +kernel
theorem os0_sacks : sacks os0 = [1, 2] := by decide +kernel
theorem ByO_os0 : ByO os0 := by
  intro o ho
  simp only [os0, List.mem_cons, List.not_mem_nil, or_false] at ho
  rcases ho with rfl | rfl | rfl
  · exact ⟨by decide, Mt.By.nil⟩
  · exact ⟨by decide, Mt.By.nil⟩
  · exact ⟨by decide, .mk (by omega) (.mk (by omega) (.mk (by omega) (.mk (by omega) (.mk (by omega) (.mk (by omega) (.mk (by omega) (.mk (by omega) .nil)))))))⟩
theorem By_tc0 : Mt.By tc0 := by
  have : ∀ z ∈ tc0, 0 ≤ z ∧ z ≤ 255 := by decide +kernel
  exact this

set_option maxHeartbeats 4000000 in
theorem live3_any (w : World) : Calls Try.prog 9 #[] w fun e w' => e = .returned (.bool true) ∧ Below w.heap.size w w' := by
  have hb0 : Below w.heap.size w ((w.alloc (.cells #[.int .u8 0, .int .u8 0, .int .u8 0, .int .u8 1, .int .u8 0, .int .u8 0, .int .u8 0, .int .u8 2] 5)).alloc (.cells #[.int .u8 1, .slice none 0 0, .int .u8 1, .slice none 0 0, .int .u8 5, .slice (some ⟨w.heap.size, 0, none⟩) 8 8] 57)) := ((Below.refl _ _).alloc (Nat.le_refl _) _).alloc (by simp) _
  have hs0 : ((w.alloc (.cells #[.int .u8 0, .int .u8 0, .int .u8 0, .int .u8 1, .int .u8 0, .int .u8 0, .int .u8 0, .int .u8 2] 5)).alloc (.cells #[.int .u8 1, .slice none 0 0, .int .u8 1, .slice none 0 0, .int .u8 5, .slice (some ⟨w.heap.size, 0, none⟩) 8 8] 57)).heap.size = w.heap.size + 1 + 1 := by simp
  have hR8 : Rd ((w.alloc (.cells #[.int .u8 0, .int .u8 0, .int .u8 0, .int .u8 1, .int .u8 0, .int .u8 0, .int .u8 0, .int .u8 2] 5)).alloc (.cells #[.int .u8 1, .slice none 0 0, .int .u8 1, .slice none 0 0, .int .u8 5, .slice (some ⟨w.heap.size, 0, none⟩) 8 8] 57)).heap.size ((w.alloc (.cells #[.int .u8 0, .int .u8 0, .int .u8 0, .int .u8 1, .int .u8 0, .int .u8 0, .int .u8 0, .int .u8 2] 5)).alloc (.cells #[.int .u8 1, .slice none 0 0, .int .u8 1, .slice none 0 0, .int .u8 5, .slice (some ⟨w.heap.size, 0, none⟩) 8 8] 57)) (.slice (some ⟨w.heap.size, 0, none⟩) 8 8) [0, 0, 0, 1, 0, 0, 0, 2] := by
    have h := Rd.new [0, 0, 0, 1, 0, 0, 0, 2] 5 w (by simp) (by simp)
    exact (h.below ((Below.refl _ _).alloc (by simp) _)).mono (by simp)
  have hob : ((w.alloc (.cells #[.int .u8 0, .int .u8 0, .int .u8 0, .int .u8 1, .int .u8 0, .int .u8 0, .int .u8 0, .int .u8 2] 5)).alloc (.cells #[.int .u8 1, .slice none 0 0, .int .u8 1, .slice none 0 0, .int .u8 5, .slice (some ⟨w.heap.size, 0, none⟩) 8 8] 57)).heap[w.heap.size + 1]? = some (.cells #[.int .u8 1, .slice none 0 0, .int .u8 1, .slice none 0 0, .int .u8 5, .slice (some ⟨w.heap.size, 0, none⟩) 8 8] 57) := by have := heap_alloc_new (w.alloc (.cells #[.int .u8 0, .int .u8 0, .int .u8 0, .int .u8 1, .int .u8 0, .int .u8 0, .int .u8 0, .int .u8 2] 5)) (.cells #[.int .u8 1, .slice none 0 0, .int .u8 1, .slice none 0 0, .int .u8 5, .slice (some ⟨w.heap.size, 0, none⟩) 8 8] 57); simpa only [World.size_alloc] using this
  have hRO : RdO ((w.alloc (.cells #[.int .u8 0, .int .u8 0, .int .u8 0, .int .u8 1, .int .u8 0, .int .u8 0, .int .u8 0, .int .u8 2] 5)).alloc (.cells #[.int .u8 1, .slice none 0 0, .int .u8 1, .slice none 0 0, .int .u8 5, .slice (some ⟨w.heap.size, 0, none⟩) 8 8] 57)).heap.size ((w.alloc (.cells #[.int .u8 0, .int .u8 0, .int .u8 0, .int .u8 1, .int .u8 0, .int .u8 0, .int .u8 0, .int .u8 2] 5)).alloc (.cells #[.int .u8 1, .slice none 0 0, .int .u8 1, .slice none 0 0, .int .u8 5, .slice (some ⟨w.heap.size, 0, none⟩) 8 8] 57)) (.slice (some ⟨w.heap.size + 1, 0, none⟩) 3 3) os0 := by
    have hc := block_cell hob
    refine .inr ⟨w.heap.size + 1, 0, 3, rfl, by simp [os0], Nat.le_refl _, by omega, by rw [hs0]; omega, fun j hj => ?_⟩
    match j, hj with
    | 0, _ => exact ⟨.slice none 0 0, by simp [os0, hc], by simp [os0, hc], .inl ⟨none, 0, rfl, rfl, by omega, fun _ => rfl⟩⟩
    | 1, _ => exact ⟨.slice none 0 0, by simp [os0, hc], by simp [os0, hc], .inl ⟨none, 0, rfl, rfl, by omega, fun _ => rfl⟩⟩
    | 2, _ => exact ⟨_, by simp [os0, hc], by simp [os0, hc], hR8⟩
  have HRO := hide hRO
  clear hR8 hob hs0 hRO
  go_enter Try.func9, Try.ntmps9
  go_wp2_with fail
  generalize (w.alloc (.cells #[.int .u8 0, .int .u8 0, .int .u8 0, .int .u8 1, .int .u8 0, .int .u8 0, .int .u8 0, .int .u8 2] 5)).alloc (.cells #[.int .u8 1, .slice none 0 0, .int .u8 1, .slice none 0 0, .int .u8 5, .slice (some ⟨w.heap.size, 0, none⟩) 8 8] 57) = W2 at *
  refine (buildTcp_any 0 0 0 0 0 0 1 0 0 0 0 0 0 false (.slice none 0 0) (.slice none 0 0) _ (.slice none 0 0) [] [] os0 W2 Mt.By.nil (.inl ⟨none, 0, rfl, rfl, by omega, fun _ => rfl⟩) Mt.By.nil (.inl ⟨none, 0, rfl, rfl, by omega, fun _ => rfl⟩) ByO_os0 HRO.out (by intro o ho; simp only [os0, List.mem_cons, List.not_mem_nil, or_false] at ho; rcases ho with rfl | rfl | rfl <;> decide) (by simp) (by simp) (by omega) (by omega) (by omega) (by omega) (by omega) (by omega) (by omega) (by omega) (by omega) (by omega) (by omega) (by omega)).mono ?_
  rw [show ([] : List Int).length = 0 from rfl, os0_bte, os0_len]
  rintro e w1 ⟨hb1, ⟨hf, _⟩ | ⟨_, ao, co, ad, cd, rfl, hO1, hO2⟩⟩
  · exact absurd rfl hf
  have hw1 := hb0.trans (hb1.mono hb0.size)
  have HTC : Hid (tcp 1 0 0 0 0 0 0 (pad (obs os0)) 0 0 [] = tc0) := rfl
  rw [HTC.out] at hO2
  go_wp2_with fail
  have q1 := heap_alloc_new w1 (.cells #[.int .u8 0, .int .u16 0, .bool false, .int .u8 0, .int .u8 6, .int .u32 0, .int .u32 0, .slice ao 0 co, .slice ad 32 cd] 26)
  have hbq : Later w1 (w1.alloc (.cells #[.int .u8 0, .int .u16 0, .bool false, .int .u8 0, .int .u8 6, .int .u32 0, .int .u32 0, .slice ao 0 co, .slice ad 32 cd] 26)) := (Below.refl _ w1).alloc (Nat.le_refl _) _
  generalize w1.alloc (.cells #[.int .u8 0, .int .u16 0, .bool false, .int .u8 0, .int .u8 6, .int .u32 0, .int .u32 0, .slice ao 0 co, .slice ad 32 cd] 26) = W3 at *
  have hw3 := hw1.trans (hbq.mono hw1.size)
  have hO3 : Ow W2.heap.size W3 (.slice ad 32 cd) tc0 := hO2.later hbq
  clear hO1 hO2 HRO
  refine (parseTcp_any 0 0 0 6 0 0 false (.slice ao 0 co) (.slice ad 32 cd) tc0 W3 By_tc0 hO3.rd (by rw [tc0_len]; omega) (by omega) (by omega)).mono ?_
  rw [tc0_pte, tc0_len]
  rintro e w4 ⟨hb4, ⟨hf, _⟩ | ⟨_, os, aO, cO, ad3, cd3, ho, rfl, hOO, _⟩⟩
  · exact absurd rfl hf
  rw [tc0_opts] at ho
  cases ho
  have hw4 := hw3.trans (hb4.mono hw3.size)
  have q4 := later_keep hb4 q1
  have hsz4 := Nat.lt_of_lt_of_le (Array.getElem?_eq_some_iff.1 q1).1 hb4.size
  clear q1 hO3 hb4 hbq
  generalize hsg1 : wat tc0 0 = y0 at *
  generalize wat tc0 2 = y1 at *
  generalize wat4 tc0 4 = y2 at *
  generalize wat4 tc0 8 = y3 at *
  generalize tc0[13]?.getD 0 = y4 at *
  generalize wat tc0 14 = y5 at *
  generalize wat tc0 18 = y6 at *
  generalize 32 - (thd tc0).toNat = y7 at *
  generalize hl0 : os0.length = ln at *
  go_wp2_with fail
  have s4 := heap_alloc_new w4 (.cells #[.int .u16 y0, .int .u16 y1, .int .u32 y2, .int .u32 y3, .int .u8 y4, .int .u16 y5, .int .u16 y6, .slice aO ln cO, .slice ad3 y7 cd3] 29)
  have hbs : Later w4 (w4.alloc (.cells #[.int .u16 y0, .int .u16 y1, .int .u32 y2, .int .u32 y3, .int .u8 y4, .int .u16 y5, .int .u16 y6, .slice aO ln cO, .slice ad3 y7 cd3] 29)) := (Below.refl _ w4).alloc (Nat.le_refl _) _
  generalize w4.alloc (.cells #[.int .u16 y0, .int .u16 y1, .int .u32 y2, .int .u32 y3, .int .u8 y4, .int .u16 y5, .int .u16 y6, .slice aO ln cO, .slice ad3 y7 cd3] 29) = W5 at *
  have hw5 := hw4.trans (hbs.mono hw4.size)
  have q5 := later_keep hbs q4
  have hOO5 := hOO.later hbs
  refine (buildUdp_any 0 0 0 0 0 0 7 0 false false (.slice none 0 0) (.slice none 0 0) (.slice none 0 0) [] [] W5 Mt.By.nil (.inl ⟨none, 0, rfl, rfl, by omega, fun _ => rfl⟩) Mt.By.nil (.inl ⟨none, 0, rfl, rfl, by omega, fun _ => rfl⟩) (by simp) (by simp) (by omega) (by omega) (by omega) (by omega) (by omega) (by omega) (by omega)).mono ?_
  rw [show flt ([] : List Int).length (8 + ([] : List Int).length) = 0 from by decide]
  rintro e w6 ⟨hb6, ⟨hf, _⟩ | ⟨_, ao6, co6, ad6, cd6, rfl, _, _⟩⟩
  · exact absurd rfl hf
  have hw6 := hw5.trans (hb6.mono hw5.size)
  have q6 := later_keep hb6 q5
  have s6 := later_keep hb6 s4
  have hOO6 := hOO5.later hb6
  clear q4 q5 s4 hOO hOO5 hb6 hbs
  go_upto_region 4 with fail
  generalize hV : w6.alloc _ = W7
  have d7 : W7.heap[w6.heap.size]? = some (.cells #[.int .u8 0, .int .u16 0, .bool false, .int .u8 0, .int .u8 17, .int .u32 0, .int .u32 0, .slice ao6 0 co6, .slice ad6 8 cd6] 26 (0, 0)) := by rw [← hV]; exact heap_alloc_new w6 _
  have hb7 : Later w6 W7 := by rw [← hV]; exact (Below.refl _ w6).alloc (Nat.le_refl _) _
  clear hV
  have hw7 := hw6.trans (hb7.mono hw6.size)
  have q7 := later_keep hb7 q6
  have s7 := later_keep hb7 s6
  have hOO7 := hOO6.later hb7
  have S7 := block_cell s7
  clear q6 s6 hOO6 hb7
  go_wp2_with fail
  subst hl0
  refine (sacks_any y0 y1 y2 y3 y4 y5 y6 _ _ os0 W7 ByO_os0 hOO7.rd (by intro o ho; simp only [os0, List.mem_cons, List.not_mem_nil, or_false] at ho; rcases ho with rfl | rfl | rfl <;> decide)).mono ?_
  rw [os0_sacks]
  rintro e w8 ⟨hb8, v, rfl, hv⟩
  have hw8 := hw7.trans (hb8.mono hw7.size)
  have Q8 := block_cell (later_keep hb8 q7)
  have D8 := block_cell (later_keep hb8 d7)
  rcases hv with ⟨_, h⟩ | ⟨g, rfl, hg, hgc⟩
  · cases h
  have G8 := block_cell hgc
  clear S7 q7 s7 d7
  go_wp2_with fail
  go_ret
  exact ⟨rfl, hw8⟩
end Go.Proofs.Ytclkfmdlgffbeaa
