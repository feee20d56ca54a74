/- The law's live; what a nil book answers; the walk of ExpectNone. -/
import Derived.Test.YtbimdhapkbdmjabEG
import Derived.Test.YtbimdhapkbdmjabOpF
namespace Go.Proofs.Ytbimdhapkbdmjab
open Go.RowKit Go.Shelf
set_option maxRecDepth 100000
set_option linter.unusedVariables false
set_option linter.unusedSimpArgs false

theorem BL.base {t : TypeId} {base base' : Nat} {W : World} {b : Nat} {v : Value} {l : List Ex} (h : BL t base W b v l) (hb : base' ≤ base) : BL t base' W b v l := ⟨Nat.le_trans hb h.1, h.2.1, BL.mono' (t := 0) (b := 0) h.2.2 hb⟩
theorem BL.below {t : TypeId} {base : Nat} {A B : World} {b : Nat} {v : Value} {l : List Ex} (h : BL t base A b v l) (k : Below A.heap.size A B) : BL t base B b v l := h.later k

def ex0 : Ex := ⟨6, 0, 7, 0, 9, 5, 1, 0, 10⟩
theorem ad0 : adE [] ex0 = 0 := by decide +kernel
theorem fd0 : fnd (pkX ⟨6, 3, 7, 0, 9⟩ 9) [ex0] = ex0 := by decide +kernel
theorem fb0 : fdb (pkX ⟨6, 3, 7, 0, 9⟩ 9) [ex0] = true := by decide +kernel
theorem mt0 : mtL (pkX ⟨6, 3, 7, 0, 9⟩ 9) [ex0] = [] := by decide +kernel

set_option maxHeartbeats 4000000 in
theorem live12_any (w : World) : Calls Try.prog 8 #[] w fun e w' => e = .returned (.bool true) ∧ Later w w' := by
  go_enter Try.func8, Try.ntmps8
  go_wp2_with fail
  refine (new12_any w).mono ?_
  rintro e w1 ⟨rfl, l1, hT1⟩
  have HAD := hide (add12_any w.heap.size w.heap.size _ [] ex0 w1 hT1 (by simp) l1.size)
  rw [ad0, adL_yes ad0] at HAD
  have HMT := hide (fun W v h hb => match12_any w.heap.size w.heap.size v [ex0] ⟨6, 3, 7, 0, 9⟩ 9 W h hb (by simp))
  rw [fd0, fb0, mt0] at HMT
  unfold exc tuc ex0 at *
  simp only at *
  go_wp2_with fail
  refine HAD.out.mono ?_
  rintro e w2 ⟨rfl, v2, hT2, hb2, _⟩
  have hs1 : w.heap.size ≤ w1.heap.size := l1.size
  have hb2' := hb2.below hs1 (fun k hk e => by rcases e with e | e; (· omega); (· cases e))
  have L2 : Below w.heap.size w w2 := Below.trans l1 hb2'
  go_wp2_with fail
  refine (HMT.out w2 v2 hT2 L2.size).mono ?_
  rintro e w3 ⟨rfl, v3, hT3, hb3, _⟩
  have hb3' := hb3.below L2.size (fun k hk e => by rcases e with e | e; (· omega); (· have := (hT2.lt e).1; omega))
  have L3 : Below w.heap.size w w3 := L2.trans hb3'
  have la : Later w3 (w3.alloc (.cells #[.int .u8 6, .int .u32 0, .int .u32 7, .int .u16 0, .int .u16 9, .int .u32 5, .int .u16 1, .int .i64 0, .int .i64 10] 25)) := (Below.refl _ _).alloc (Nat.le_refl _) _
  have c3 := heap_alloc_new w3 (.cells #[.int .u8 6, .int .u32 0, .int .u32 7, .int .u16 0, .int .u16 9, .int .u32 5, .int .u16 1, .int .i64 0, .int .i64 10] 25)
  go_upto_region 4 with fail
  generalize w3.alloc _ = w4 at *
  have k3 := block_cell c3
  have hT4 := hT3.later la
  have L4 : Below w.heap.size w w4 := L3.trans (la.mono L3.size)
  clear HMT HAD
  go_wp2_with fail
  refine (list12_any w.heap.size w.heap.size v3 [] w4 hT4 (by simp)).mono ?_
  rintro e w5 ⟨l5, u, rfl, hu⟩
  obtain ⟨s, c, rfl⟩ := ownE_slice hu
  have L5 : Below w.heap.size w w5 := L4.trans (l5.mono L4.size)
  go_wp2_with fail
  go_ret
  exact ⟨by first | rfl | simp, L5⟩


set_option maxHeartbeats 2000000 in
theorem peek_nil (t : Tu) (now : Int) (w : World) : Calls Try.prog 7 #[.pointer none, .agg (tuc t).toArray, .int .i64 now] w fun e w' => e = .returned (.tuple #[.agg #[.int .u8 0, .int .u32 0, .int .u32 0, .int .u16 0, .int .u16 0, .int .u32 0, .int .u16 0, .int .i64 0, .int .i64 0], .bool false]) ∧ Later w w' := by
  obtain ⟨lb0, c0, c1, c2⟩ := alloc3 w (.cells (tuc t).toArray 27) (.cells #[.int .i64 now] 3) (.cells (exc zEx).toArray 25)
  go_enter Try.func7, Try.ntmps7
  unfold tuc exc zEx at *
  simp only at *
  go_upto_region 2 with fail
  generalize ((w.alloc _).alloc _).alloc _ = w0 at *
  have K2 := block_cell c2
  have F2 := block_frozen c2
  go_wp2_with fail
  change bodyPost _ _ _ _ _ (putRow w0 (w.heap.size + 1 + 1) 0 (exc zEx))
  have v1 := putRow_all (exc zEx) c2 rfl
  have hbl : Below w.heap.size w0 (putRow w0 (w.heap.size + 1 + 1) 0 (exc zEx)) := (putRow_rb (rb := w.heap.size + 1 + 1) (exc zEx) w0).below lb0.size (fun k hk e => by omega)
  generalize putRow w0 (w.heap.size + 1 + 1) 0 (exc zEx) = V at *
  have kk := block_cell v1
  simp only [exc, zEx] at kk
  refine bodyPost_ret (v := .tuple #[.agg #[.int .u8 0, .int .u32 0, .int .u32 0, .int .u16 0, .int .u16 0, .int .u32 0, .int .u16 0, .int .i64 0, .int .i64 0], .bool false]) (by simp [results, Try.results7, go_sem, kk]) rfl ⟨rfl, Below.trans lb0 hbl⟩

set_option maxHeartbeats 2000000 in
theorem match_nil (t : Tu) (now : Int) (w : World) : Calls Try.prog 6 #[.pointer none, .agg (tuc t).toArray, .int .i64 now] w fun e w' => e = .returned (.tuple #[.agg #[.int .u8 0, .int .u32 0, .int .u32 0, .int .u16 0, .int .u16 0, .int .u32 0, .int .u16 0, .int .i64 0, .int .i64 0], .bool false]) ∧ Later w w' := by
  obtain ⟨lb0, c0, c1⟩ := alloc2 w (.cells (tuc t).toArray 27) (.cells (exc zEx).toArray 25)
  have k0 := block_cell c0
  have HPK := hide (fun W => peek_nil t now W)
  go_enter Try.func6, Try.ntmps6
  unfold tuc at *
  have e0 : (exc zEx).toArray = #[.int .u8 0, .int .u32 0, .int .u32 0, .int .u16 0, .int .u16 0, .int .u32 0, .int .u16 0, .int .i64 0, .int .i64 0] := rfl
  rw [e0] at lb0 c0 c1 k0
  clear e0
  go_wp2_with fail
  generalize (w.alloc _).alloc _ = w0 at *
  refine (HPK.out w0).mono ?_
  rintro e w1 ⟨rfl, l1⟩
  have L1 := lb0.trans l1
  have d1 := later_keep l1 c1
  clear k0 c0 c1 HPK
  have la : Later w1 (w1.alloc (.cells #[.int .u8 0, .int .u32 0, .int .u32 0, .int .u16 0, .int .u16 0, .int .u32 0, .int .u16 0, .int .i64 0, .int .i64 0] 25)) := (Below.refl _ _).alloc (Nat.le_refl _) _
  have cr := heap_alloc_new w1 (.cells #[.int .u8 0, .int .u32 0, .int .u32 0, .int .u16 0, .int .u16 0, .int .u32 0, .int .u16 0, .int .i64 0, .int .i64 0] 25)
  have d2 := later_keep la d1
  have L2 := L1.trans la
  go_upto_region 2 with fail
  generalize w1.alloc _ = w2 at *
  have kr := block_cell cr
  have K2 := block_cell d2
  have F2 := block_frozen d2
  go_wp2_with fail
  change bodyPost _ _ _ _ _ (putRow w2 (w.heap.size + 1) 0 (exc zEx))
  have v1 := putRow_all (exc zEx) d2 rfl
  have hbl : Below w.heap.size w2 (putRow w2 (w.heap.size + 1) 0 (exc zEx)) := (putRow_rb (rb := w.heap.size + 1) (exc zEx) w2).below L2.size (fun k hk e => by omega)
  generalize putRow w2 (w.heap.size + 1) 0 (exc zEx) = V at *
  have kk := block_cell v1
  simp only [exc, zEx] at kk
  refine bodyPost_ret (v := .tuple #[.agg #[.int .u8 0, .int .u32 0, .int .u32 0, .int .u16 0, .int .u16 0, .int .u32 0, .int .u16 0, .int .i64 0, .int .i64 0], .bool false]) (by simp [results, Try.results6, go_sem, kk]) rfl ⟨rfl, Below.trans L2 hbl⟩

theorem add_nil (x : Ex) (w : World) : Calls Try.prog 9 #[.pointer none, .agg (exc x).toArray] w fun e w' => e = .returned (.int .i64 1) ∧ Later w w' := by
  unfold exc
  go_enter Try.func9, Try.ntmps9
  go_wp2_with fail
  go_ret
  exact ⟨rfl, (Below.refl _ _).alloc (Nat.le_refl _) _⟩
theorem takeOut_nil (f : Value) (w : World) : Calls Try.prog 15 #[.pointer none, f] w fun e w' => e = .returned (.slice none 0 0) ∧ w' = w := by
  go_enter Try.func15, Try.ntmps15
  go_wp2_with fail
  go_ret
  exact ⟨rfl, rfl⟩
theorem gone_nil (m : Int) (w : World) : Calls Try.prog 10 #[.pointer none, .int .i64 m] w fun e w' => e = .returned (.slice none 0 0) ∧ Later w w' := by
  go_enter Try.func10, Try.ntmps10
  go_wp2_with fail
  refine (of12_any m w).mono ?_
  rintro e w1 ⟨rfl, hw1⟩
  have l1 : Later w w1 := by rw [hw1]; exact (Below.refl _ _).alloc (Nat.le_refl _) _
  clear hw1
  go_wp2_with fail
  refine (takeOut_nil _ w1).mono ?_
  rintro e w2 ⟨rfl, rfl⟩
  go_wp2_with fail
  go_ret
  exact ⟨rfl, l1⟩
theorem due_nil (m : Int) (w : World) : Calls Try.prog 11 #[.pointer none, .int .i64 m] w fun e w' => e = .returned (.slice none 0 0) ∧ Later w w' := by
  have l1 : Later w (w.alloc (.cells #[.int .i64 m] 3)) := (Below.refl _ _).alloc (Nat.le_refl _) _
  go_enter Try.func11, Try.ntmps11
  go_wp2_with fail
  generalize w.alloc _ = w1 at *
  refine (takeOut_nil _ w1).mono ?_
  rintro e w2 ⟨rfl, rfl⟩
  go_wp2_with fail
  go_ret
  exact ⟨rfl, l1⟩
theorem list_nil (w : World) : Calls Try.prog 12 #[.pointer none] w fun e w' => e = .returned (.slice none 0 0) ∧ w' = w := by
  go_enter Try.func12, Try.ntmps12
  go_wp2_with fail
  go_ret
  exact ⟨rfl, rfl⟩
theorem fork_nil (w : World) : Calls Try.prog 13 #[.pointer none] w fun e w' => e = .returned (.pointer none) ∧ w' = w := by
  go_enter Try.func13, Try.ntmps13
  go_wp2_with fail
  go_ret
  exact ⟨rfl, rfl⟩

set_option maxHeartbeats 8000000 in
theorem walk_ExpectNone (w : World) (x : Dx) (hx : wfDx x) :
    Calls Try.prog 3 #[.agg (dxc x).toArray] w fun e w' => e = .returned (.bool true) ∧ Below w.heap.size w w' := by
  have lb0 : Later w (w.alloc (.cells (dxc x).toArray 29)) := (Below.refl _ _).alloc (Nat.le_refl _) _
  have c0 := heap_alloc_new w (.cells (dxc x).toArray 29)
  have HM := hide (fun W => match_nil x.t x.now W)
  have HP := hide (fun W => peek_nil x.t x.now W)
  have HA := hide (fun W => add_nil x.e W)
  unfold dxc at lb0 c0 ⊢
  unfold tuc at HM HP
  unfold exc at HA
  go_enter Try.func3, Try.ntmps3
  go_upto_region 1 with fail
  generalize w.alloc _ = w0 at *
  have k0 := block_cell c0
  go_wp2_with fail
  refine (HM.out w0).mono ?_
  rintro e w1 ⟨rfl, l1⟩
  have L1 := lb0.trans l1
  have c1 := later_keep l1 c0
  clear k0 c0
  have la : Later w1 (w1.alloc (.cells #[.int .u8 0, .int .u32 0, .int .u32 0, .int .u16 0, .int .u16 0, .int .u32 0, .int .u16 0, .int .i64 0, .int .i64 0] 25)) := (Below.refl _ _).alloc (Nat.le_refl _) _
  have e1 := heap_alloc_new w1 (.cells #[.int .u8 0, .int .u32 0, .int .u32 0, .int .u16 0, .int .u16 0, .int .u32 0, .int .u16 0, .int .i64 0, .int .i64 0] 25)
  go_upto_region 3 with fail
  generalize w1.alloc _ = w2 at *
  have L2 := L1.trans la
  have c2 := later_keep la c1
  have k2 := block_cell c2
  go_wp2_with fail
  refine (HP.out w2).mono ?_
  rintro e w3 ⟨rfl, l3⟩
  have L3 := L2.trans l3
  have c3 := later_keep l3 c2
  have e3 := later_keep l3 e1
  clear k2 c2 c1 e1
  have la3 : Later w3 (w3.alloc (.cells #[.int .u8 0, .int .u32 0, .int .u32 0, .int .u16 0, .int .u16 0, .int .u32 0, .int .u16 0, .int .i64 0, .int .i64 0] 25)) := (Below.refl _ _).alloc (Nat.le_refl _) _
  have f3 := heap_alloc_new w3 (.cells #[.int .u8 0, .int .u32 0, .int .u32 0, .int .u16 0, .int .u16 0, .int .u32 0, .int .u16 0, .int .i64 0, .int .i64 0] 25)
  go_upto_region 4 with fail
  generalize w3.alloc _ = w4 at *
  have L4 := L3.trans la3
  have c4 := later_keep la3 c3
  have e4 := later_keep la3 e3
  clear HM HP c3 e3
  go_wp2_with fail
  refine (live12_any w4).mono ?_
  rintro e w5 ⟨rfl, l5⟩
  have L5 := L4.trans l5
  have c5 := later_keep l5 c4
  have k5 := block_cell c5
  have e5 := later_keep l5 e4
  have f5 := later_keep l5 f3
  go_wp2_with fail
  refine (HA.out w5).mono ?_
  rintro e w6 ⟨rfl, l6⟩
  have L6 := L5.trans l6
  have c6 := later_keep l6 c5
  clear k5 c5 c4 e4 f3
  have k6 := block_cell c6
  have j1 := block_cell (later_keep l6 e5)
  have j2 := block_cell (later_keep l6 f5)
  go_wp2_with fail
  refine (gone_nil x.now w6).mono ?_
  rintro e w7 ⟨rfl, l7⟩
  have L7 := L6.trans l7
  clear k6 j1 j2
  have k7 := block_cell (later_keep l7 c6)
  go_wp2_with fail
  refine (due_nil x.now w7).mono ?_
  rintro e w8 ⟨rfl, l8⟩
  have L8 := L7.trans l8
  clear k7
  go_wp2_with fail
  refine (list_nil w8).mono ?_
  rintro e w9 ⟨rfl, rfl⟩
  go_wp2_with fail
  refine (fork_nil w9).mono ?_
  rintro e w10 ⟨rfl, rfl⟩
  go_wp2_with fail
  go_ret
  exact ⟨by first | rfl | simp, L8⟩
end Go.Proofs.Ytbimdhapkbdmjab
