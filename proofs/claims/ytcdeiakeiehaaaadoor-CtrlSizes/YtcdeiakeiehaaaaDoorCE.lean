/- Package ctrl: what kind a message is; the law's 'live' of layer 4. -/
import Derived.Test.YtcdeiakeiehaaaaDoorCD
namespace Go.Proofs.YtcdeiakeiehaaaaDoor
open Go.RowKit Go.Shelf
set_option maxRecDepth 100000
set_option linter.unusedVariables false
set_option linter.unusedSimpArgs false

set_option maxHeartbeats 1000000 in
theorem asks_any (ty cde rest : Int) (sm : Value) (w : World) :
    Calls Tryd.prog 28 #[.agg #[.int .u8 ty, .int .u8 cde, .int .u32 rest, sm]] w fun e w' => e = .returned (.bool (ty == 8 && cde == 0)) ∧ Below w.heap.size w w' := by
  have hbox : Below w.heap.size w (w.alloc (.cells #[.int .u8 ty, .int .u8 cde, .int .u32 rest, sm] 28)) := (Below.refl _ _).alloc (Nat.le_refl _) _
  cases h1 : (ty == 8)
  · go_enter Tryd.func28, Tryd.ntmps28
    go_wp2
    go_ret
    exact ⟨rfl, hbox⟩
  · go_enter Tryd.func28, Tryd.ntmps28
    go_wp2
    go_ret
    exact ⟨rfl, hbox⟩

theorem str_gre : ((strOfNums [32, 1, 136, 11, 0, 0, 0, 7]).toList == [32, 1, 136, 11, 0, 0, 0, 7]) = true := by decide +kernel

theorem flt_of {lo ld : Nat} (h : lo ≤ 40 ∧ lo % 4 = 0 ∧ 20 + lo + ld ≤ 65535) : flt lo ld = 0 := by
  unfold flt
  rw [if_neg (by omega), if_neg (by omega)]

set_option maxHeartbeats 2000000 in
theorem live4_any (w : World) (hT : Tb w) : Calls Tryd.prog 10 #[] w fun e w' => e = .returned (.bool true) ∧ Below w.heap.size w w' := by
  have hs := str_gre
  go_enter Tryd.func10, Tryd.ntmps10
  go_wp2_with fail
  refine (buildGre_any 0 0 0 0 0 0 7 0 0 false false false _ _ _ [] [] w hT Mt.By.nil (rd_zero _) Mt.By.nil (rd_zero _) (by simp) (by simp) (by omega) (by omega) (by omega) (by omega) (by omega) (by omega) (by omega) (by omega) rfl).mono ?_
  rintro e w1 ⟨hb1, ⟨hf, _⟩ | ⟨_, ao1, co1, ad1, cd1, rfl, hO1, hD1⟩⟩
  · exact absurd (flt_of (by simp [grn])) hf
  rw [show grn false false ([] : List Int).length = 8 from rfl, show grb 7 false false 0 0 [] = [32, 1, 136, 11, 0, 0, 0, 7] from rfl] at hD1
  rw [show grn false false ([] : List Int).length = 8 from rfl]
  have hbA : Later w1 (w1.alloc (.cells #[.int .u8 0, .int .u16 0, .bool false, .int .u8 0, .int .u8 47, .int .u32 0, .int .u32 0, .slice ao1 0 co1, .slice ad1 8 cd1] 26)) := (Below.refl _ _).alloc (Nat.le_refl _) _
  have k1 := heap_alloc_new w1 (.cells #[.int .u8 0, .int .u16 0, .bool false, .int .u8 0, .int .u8 47, .int .u32 0, .int .u32 0, .slice ao1 0 co1, .slice ad1 8 cd1] 26)
  go_wp2_with fail
  generalize w1.alloc (.cells #[.int .u8 0, .int .u16 0, .bool false, .int .u8 0, .int .u8 47, .int .u32 0, .int .u32 0, .slice ao1 0 co1, .slice ad1 8 cd1] 26) = w2 at *
  refine (buildIcmp_any 0 0 0 0 0 0 8 0 5 false _ _ _ [] [] w2 Mt.By.nil (rd_zero _) Mt.By.nil (rd_zero _) (by simp) (by simp) (by omega) (by omega) (by omega) (by omega) (by omega) (by omega) (by omega) (by omega)).mono ?_
  rintro e w3 ⟨hb3, ⟨hf, _⟩ | ⟨_, ao3, co3, ad3, cd3, rfl, hO3, hD3⟩⟩
  · exact absurd (flt_of (by simp)) hf
  rw [show 8 + ([] : List Int).length = 8 from rfl]
  have k3 := (hb3.block w1.heap.size (Array.getElem?_eq_some_iff.1 k1).1).trans k1
  have hbB : Later w3 (w3.alloc (.cells #[.int .u8 0, .int .u16 0, .bool false, .int .u8 0, .int .u8 1, .int .u32 0, .int .u32 0, .slice ao3 0 co3, .slice ad3 8 cd3] 26)) := (Below.refl _ _).alloc (Nat.le_refl _) _
  have k4 := (hbB.block w1.heap.size (Array.getElem?_eq_some_iff.1 k3).1).trans k3
  have m4 := heap_alloc_new w3 (.cells #[.int .u8 0, .int .u16 0, .bool false, .int .u8 0, .int .u8 1, .int .u32 0, .int .u32 0, .slice ao3 0 co3, .slice ad3 8 cd3] 26)
  have hl4 : Later w1 (w3.alloc (.cells #[.int .u8 0, .int .u16 0, .bool false, .int .u8 0, .int .u8 1, .int .u32 0, .int .u32 0, .slice ao3 0 co3, .slice ad3 8 cd3] 26)) := Later.trans hbA (Later.trans hb3 hbB)
  have hcv := conv_rd 24 9 5 Tryd.underlying24 Tryd.underlying5 Tryd.underlying9 (hD1.later hl4).rd
  have K4 := block_cell k4
  have M4 := block_cell m4
  generalize strOfNums [32, 1, 136, 11, 0, 0, 0, 7] = str at *
  go_wp2_with fail
  refine (asks_any 8 0 0 _ _).mono ?_
  rintro e w5 ⟨rfl, hb5⟩
  go_wp2
  go_ret
  exact ⟨rfl, hb1.trans ((Later.trans hl4 hb5).mono hb1.size)⟩
end Go.Proofs.YtcdeiakeiehaaaaDoor
