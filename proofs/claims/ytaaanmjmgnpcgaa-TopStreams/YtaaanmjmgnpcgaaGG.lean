/- The law's live; what a nil stream answers; the walk of SeqadjEmpty. -/
import Derived.Test.YtaaanmjmgnpcgaaGF
namespace Go.Proofs.Ytaaanmjmgnpcgaa
open Go.RowKit Go.Shelf
set_option maxRecDepth 100000
set_option linter.unusedVariables false
set_option linter.unusedSimpArgs false

theorem sfind_empty (base b : Nat) (s was : Int) (w : World) (hT : SL 57 base w b (.slice none 0 0) []) :
    Calls Try.prog 14 #[.pointer (some ⟨b, 0, none⟩), .int .u32 s, .int .i64 was] w fun e w' => e = .returned (.tuple #[.slice none 0 0, .bool false]) ∧ w' = w := by
  have k0 := block_cell hT.2.1
  go_enter Try.func14, Try.ntmps14
  go_wp2_with fail
  go_loopw [17] (fun i wr => i = .int .i64 0 ∧ wr = w) (fun i _ => 0)
  case atStart => exact ⟨rfl, rfl⟩
  case round =>
    obtain ⟨rfl, rfl⟩ := hrel
    go_wp2_with fail
    exact bodyPost_ret (v := .tuple #[.slice none 0 0, .bool false]) (by simp [results, Try.results14, go_sem]) rfl ⟨rfl, rfl⟩
theorem sfind_nil (s was : Int) (w : World) : Calls Try.prog 14 #[.pointer none, .int .u32 s, .int .i64 was] w fun e w' => e = .returned (.tuple #[.slice none 0 0, .bool false]) ∧ w' = w := by
  go_enter Try.func14, Try.ntmps14
  go_wp2_with fail
  exact bodyPost_ret (v := .tuple #[.slice none 0 0, .bool false]) (by simp [results, Try.results14, go_sem]) rfl ⟨rfl, rfl⟩
theorem sfork_nil (w : World) : Calls Try.prog 21 #[.pointer none] w fun e w' => e = .returned (.pointer none) ∧ w' = w := by
  go_enter Try.func21, Try.ntmps21
  go_wp2_with fail
  go_ret
  exact ⟨rfl, rfl⟩
theorem sadd_nil (s was : Int) (at0 : Option Addr) (n c : Nat) (w : World) : Calls Try.prog 13 #[.pointer none, .int .u32 s, .int .i64 was, .slice at0 n c] w fun e w' => e = .returned (.int .i64 1) ∧ w' = w := by
  go_enter Try.func13, Try.ntmps13
  go_wp2_with fail
  go_ret
  exact ⟨rfl, rfl⟩

theorem make12 (w : World) : (Instr.makeSlice 24 (.int .i64 12) (.int .i64 12)).run Try.prog w = .ok (.slice (some ⟨w.heap.size, 0, none⟩) 12 12) (w.alloc (.cells #[.int .u8 0, .int .u8 0, .int .u8 0, .int .u8 0, .int .u8 0, .int .u8 0, .int .u8 0, .int .u8 0, .int .u8 0, .int .u8 0, .int .u8 0, .int .u8 0] 5)) := by kernel_rfl
theorem rd12 (w : World) : Rd (w.heap.size + 1) (w.alloc (.cells #[.int .u8 0, .int .u8 0, .int .u8 0, .int .u8 0, .int .u8 0, .int .u8 0, .int .u8 0, .int .u8 0, .int .u8 0, .int .u8 0, .int .u8 0, .int .u8 0] 5)) (.slice (some ⟨w.heap.size, 0, none⟩) 12 12) (List.replicate 12 0) := by
  have ez : (#[.int .u8 0, .int .u8 0, .int .u8 0, .int .u8 0, .int .u8 0, .int .u8 0, .int .u8 0, .int .u8 0, .int .u8 0, .int .u8 0, .int .u8 0, .int .u8 0] : Array Value) = (List.replicate 12 (Value.int .u8 0)).toArray := rfl
  rw [ez]
  refine .inr ⟨w.heap.size, 0, 12, by simp, by simp, by simp, by omega, by omega, fun j hj => ?_⟩
  have hj' : j < 12 := by simpa using hj
  rw [Nat.zero_add, block_cell (heap_alloc_new w _) j, List.getElem?_toArray, List.getElem?_replicate, List.getElem?_replicate, if_pos hj', if_pos hj']
  rfl
def np0 (ta : Option Addr) (tc : Nat) : Pa := ⟨100, 110, 100, 112, ta, 12, tc⟩
theorem np_np0 (ta : Option Addr) (tc : Nat) : npP [] 100 10 12 ta tc = np0 ta tc := by unfold npP np0 shf; simp
theorem lv1 (ta : Option Addr) (tc : Nat) : mapS [np0 ta tc] 100 = 100 ∧ mapS [np0 ta tc] 105 = 100 ∧ mapS [np0 ta tc] 110 = 112 ∧ unmS [np0 ta tc] 105 = 100 ∧ unmS [np0 ta tc] 112 = 110 := by
  unfold mapS unmS np0
  simp [acr, bhd, ahd]
theorem lv0 : adS [] 100 10 ((List.replicate 12 (0 : Int)).length : Nat) = 0 := by decide +kernel

set_option maxHeartbeats 4000000 in
theorem live11_any (w : World) : Calls Try.prog 10 #[] w fun e w' => e = .returned (.bool true) ∧ Later w w' := by
  go_enter Try.func10, Try.ntmps10
  go_wp2_with fail
  refine (snew_any w).mono ?_
  rintro e w1 ⟨rfl, l1, hT1⟩
  have hs1 : w.heap.size ≤ w1.heap.size := l1.size
  have la : Later w1 (w1.alloc (.cells #[.int .u8 0, .int .u8 0, .int .u8 0, .int .u8 0, .int .u8 0, .int .u8 0, .int .u8 0, .int .u8 0, .int .u8 0, .int .u8 0, .int .u8 0, .int .u8 0] 5)) := (Below.refl _ _).alloc (Nat.le_refl _) _
  have hR := rd12 w1
  have hsz : (w1.alloc (.cells #[.int .u8 0, .int .u8 0, .int .u8 0, .int .u8 0, .int .u8 0, .int .u8 0, .int .u8 0, .int .u8 0, .int .u8 0, .int .u8 0, .int .u8 0, .int .u8 0] 5)).heap.size = w1.heap.size + 1 := by simp
  go_upto_region 2 with fail
  go_wp2_with fail
  rw [make12]
  go_wp2_with fail
  generalize w1.alloc _ = w2 at *
  have L2 : Below w.heap.size w w2 := Below.trans l1 (la.mono hs1)
  have HAD := hide (sadd_yes w.heap.size w.heap.size _ [] 100 10 _ _ w2 (hT1.later la) L2.size (by omega) (by rw [hsz]; exact hR) lv0)
  rw [show (List.replicate 12 (0 : Int)).length = 12 from by simp] at HAD
  refine HAD.out.mono ?_
  rintro e w3 ⟨rfl, ta, tc, v3, hT3, hb3, _⟩
  rw [np_np0, List.nil_append] at hT3
  have hs2 := L2.size
  have L3 : Below w.heap.size w w3 := L2.trans (hb3.below hs2 (fun k hk e => by rcases e with e | e; (· omega); (· cases e)))
  obtain ⟨m1, m2, m3, m4, m5⟩ := lv1 ta tc
  have HM1 := hide (fun W (lw : Later w3 W) => smap_any w.heap.size w.heap.size v3 [np0 ta tc] 100 (by omega) W (hT3.later lw) (by simp))
  have HM2 := hide (fun W (lw : Later w3 W) => smap_any w.heap.size w.heap.size v3 [np0 ta tc] 105 (by omega) W (hT3.later lw) (by simp))
  have HM3 := hide (fun W (lw : Later w3 W) => smap_any w.heap.size w.heap.size v3 [np0 ta tc] 110 (by omega) W (hT3.later lw) (by simp))
  have HM4 := hide (fun W (lw : Later w3 W) => sunmap_any w.heap.size w.heap.size v3 [np0 ta tc] 105 (by omega) W (hT3.later lw) (by simp))
  have HM5 := hide (fun W (lw : Later w3 W) => sunmap_any w.heap.size w.heap.size v3 [np0 ta tc] 112 (by omega) W (hT3.later lw) (by simp))
  rw [m1] at HM1
  rw [m2] at HM2
  rw [m3] at HM3
  rw [m4] at HM4
  rw [m5] at HM5
  clear m1 m2 m3 m4 m5 HAD hT3 hR
  go_wp2_with fail
  refine (HM1.out w3 (Later.refl _)).mono ?_
  rintro e w4 ⟨rfl, l4⟩
  have M4 : Later w3 w4 := l4
  go_wp2_with fail
  refine (HM2.out w4 M4).mono ?_
  rintro e w5 ⟨rfl, l5⟩
  have M5 := M4.trans l5
  go_wp2_with fail
  refine (HM3.out w5 M5).mono ?_
  rintro e w6 ⟨rfl, l6⟩
  have M6 := M5.trans l6
  go_wp2_with fail
  refine (HM4.out w6 M6).mono ?_
  rintro e w7 ⟨rfl, l7⟩
  have M7 := M6.trans l7
  go_wp2_with fail
  refine (HM5.out w7 M7).mono ?_
  rintro e w8 ⟨rfl, l8⟩
  have M8 := M7.trans l8
  go_wp2_with fail
  go_ret
  exact ⟨by first | rfl | simp, L3.trans (M8.mono L3.size)⟩

theorem map_none (n : Int) : mapS [] n = n ∧ unmS [] n = n := ⟨rfl, rfl⟩

end Go.Proofs.Ytaaanmjmgnpcgaa