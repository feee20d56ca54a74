/- Package ftp: Find of what is no line. -/
import Derived.ScopeJumps
import Derived.WalkMore
import Derived.Test.YtfnlakpjepjhbaaDoorFW
import Derived.Test.YtfnlakpjepjhbaaDoorFR
namespace Go.Proofs.YtfnlakpjepjhbaaDoor
open Go.RowKit Go.Shelf
set_option maxRecDepth 100000
set_option linter.unusedVariables false
set_option linter.unusedSimpArgs false

/-- What holds where Find gives up: it knows where its answer stands, which is all 0. -/
def GU (rb : Nat) (w : World) (a' : Act) (W : World) : Prop := ∃ u0 u1 u2 u3 u5 u6 u7 u8 u9 u10 u11 u12 u13 u14 u15 u16 u17 u18 u19 u20 u21 u22 u23 u24 u25 u26 u27 u28 u29 u30 u31 u32 u33 u34 u35 u36 u37 u38 u39 u40 u41 u42 u43 u44 u45 u46 u47 u48 u49 u50 u51 u52 u53 u54 u55 u56 u57 u58 u59 u60 u61 u62 u63 u64 u65 u66 u67 u68 u69 u70 u71 : Value, a' = { tmps := #[u0, u1, u2, u3, .pointer (some ⟨rb, 0, none⟩), u5, u6, u7, u8, u9, u10, u11, u12, u13, u14, u15, u16, u17, u18, u19, u20, u21, u22, u23, u24, u25, u26, u27, u28, u29, u30, u31, u32, u33, u34, u35, u36, u37, u38, u39, u40, u41, u42, u43, u44, u45, u46, u47, u48, u49, u50, u51, u52, u53, u54, u55, u56, u57, u58, u59, u60, u61, u62, u63, u64, u65, u66, u67, u68, u69, u70, u71], defers := [] } ∧ W.heap[rb]? = some (.cells #[.int .i64 0, .int .i64 0, .int .i64 0, .int .u32 0, .int .u16 0] 31 (0, 0)) ∧ Below w.heap.size w W ∧ w.heap.size ≤ rb

set_option maxHeartbeats 4000000 in
theorem find_nil (sv : Value) (back : Bool) (w : World) (HL : ∀ W, Later w W → Calls Tryd.prog 13 #[sv] W fun e w' => e = .returned (.slice none 0 0) ∧ Later W w') :
    Calls Tryd.prog 5 #[sv, .bool back] w fun e w' => e = .returned (.tuple #[.agg #[.int .i64 0, .int .i64 0, .int .i64 0, .int .u32 0, .int .u16 0], .bool false]) ∧ Below w.heap.size w w' := by
  have HL' := hide HL
  clear HL
  go_enter Tryd.func5, Tryd.ntmps5
  go_wp2
  refine wp_scope_jumps 0 (GU w.heap.size w) (fun _ _ => 0) rfl ?_ ?_
  · have l1 : Later w (w.alloc (.cells #[.int .i64 0, .int .i64 0, .int .i64 0, .int .u32 0, .int .u16 0] 31)) := later_allocR _ _
    have R1 := hide (heap_alloc_new w (.cells #[.int .i64 0, .int .i64 0, .int .i64 0, .int .u32 0, .int .u16 0] 31))
    go_wp2_with fail
    refine (HL'.out _ l1).mono ?_
    rintro e w2 ⟨rfl, l2⟩
    have R2 := hide ((l2.block w.heap.size (Array.getElem?_eq_some_iff.1 R1.out).1).trans R1.out)
    have B3 := hide (show RB (w2.alloc (.cells (rrc (.slice none 0 0) ⟨0, 0, 0, 0, 0, 0⟩) 49)) w2.heap.size (.slice none 0 0) ⟨0, 0, 0, 0, 0, 0⟩ from heap_alloc_new w2 _)
    have l3 := later_allocR w2 (.cells (rrc (.slice none 0 0) ⟨0, 0, 0, 0, 0, 0⟩) 49)
    have L2 := l1.trans l2
    have hlt : w.heap.size < w2.heap.size := Nat.lt_of_lt_of_le (Array.getElem?_eq_some_iff.1 R1.out).1 l2.size
    go_upto_region 2 with fail
    rw [show (w2.alloc (.cells (rrc (.slice none 0 0) ⟨0, 0, 0, 0, 0, 0⟩) 49)) = w2.alloc (.cells #[.slice none 0 0, .int .i64 0, .int .i64 0, .int .i64 0, .int .i64 0, .int .u32 0, .int .u16 0] 49) from rfl] at B3 l3
    generalize w2.alloc _ = w3 at *
    generalize w2.heap.size = rb at *
    have HK := hide (kind_nil rb back _ w3 B3.out rfl)
    go_wp2_with fail
    refine HK.out.mono ?_
    rintro e w4 ⟨rfl, l4⟩
    have B4 := hide (B3.out.later l4)
    have R4 := hide (((l3.trans l4).block w.heap.size (Array.getElem?_eq_some_iff.1 R2.out).1).trans R2.out)
    have L4 : Below w.heap.size w w4 := L2.trans (l3.trans l4)
    have hlt4 : rb < w4.heap.size := (Array.getElem?_eq_some_iff.1 B4.out).1
    have kB := block_cell B4.out
    have fB := block_frozen B4.out
    unfold rrc at kB
    have B5 := hide (heap_set1 B4.out 2 (.int .i64 0))
    have b5 : But (fun q => q = rb) w4 (w4.setCell ⟨rb, 2, none⟩ (.int .i64 0)) := But.setCell (E := fun q => q = rb) (But.refl _ _) (p := ⟨rb, 2, none⟩) rfl _
    go_upto_region 3 with fail
    generalize w4.setCell ⟨rb, 2, none⟩ _ = w5 at *
    clear kB fB
    have B5' : w5.heap[rb]? = some (.cells #[.slice none 0 0, .int .i64 0, .int .i64 0, .int .i64 0, .int .i64 0, .int .u32 0, .int .u16 0] 49 (0, 0)) := by have := B5.out; simp [rrc] at this; exact this
    have kB := block_cell B5'
    have R5 := hide ((b5.block w.heap.size (by omega) (by omega)).trans R4.out)
    have L5 : Below w.heap.size w w5 := L4.trans (b5.below L4.size (fun k hk e => by omega))
    go_wp2_with fail
    go_step3
    exact ⟨rfl, _, _, _, _, _, _, _, _, _, _, _, _, _, _, _, _, _, _, _, _, _, _, _, _, _, _, _, _, _, _, _, _, _, _, _, _, _, _, _, _, _, _, _, _, _, _, _, _, _, _, _, _, _, _, _, _, _, _, _, _, _, _, _, _, _, _, _, _, _, _, _, rfl, R5.out, L5, Nat.le_refl _⟩
  · rintro a' W ⟨u0, u1, u2, u3, u5, u6, u7, u8, u9, u10, u11, u12, u13, u14, u15, u16, u17, u18, u19, u20, u21, u22, u23, u24, u25, u26, u27, u28, u29, u30, u31, u32, u33, u34, u35, u36, u37, u38, u39, u40, u41, u42, u43, u44, u45, u46, u47, u48, u49, u50, u51, u52, u53, u54, u55, u56, u57, u58, u59, u60, u61, u62, u63, u64, u65, u66, u67, u68, u69, u70, u71, rfl, hR, hb, hle⟩
    have kR := block_cell hR
    have fR := block_frozen hR
    have HR := hide hR
    clear hR
    go_wp2
    simp only [Exit.jump]
    generalize hV : (((((W.setCell ⟨w.heap.size, 0, none⟩ _).setCell ⟨w.heap.size, 1, none⟩ _).setCell ⟨w.heap.size, 2, none⟩ _).setCell ⟨w.heap.size, 3, none⟩ _).setCell ⟨w.heap.size, 4, none⟩ _) = V8
    have hV9 : V8 = putRow W w.heap.size 0 [.int .i64 0, .int .i64 0, .int .i64 0, .int .u32 0, .int .u16 0] := hV.symm
    have hb8 : But (fun b => b = w.heap.size) W V8 := by rw [hV9]; exact putRow_but (E := fun b => b = w.heap.size) (n := w.heap.size) rfl _ _ _ _ (But.refl _ _)
    have p8 := putRow_all [.int .i64 0, .int .i64 0, .int .i64 0, .int .u32 0, .int .u16 0] HR.out rfl
    rw [← hV9] at p8
    clear hV hV9 kR fR
    have P8 := block_cell p8
    have hw8 : Below w.heap.size w V8 := hb.trans (hb8.below hb.size (fun k h e => by omega))
    exact bodyPost_ret (v := .tuple #[.agg #[.int .i64 0, .int .i64 0, .int .i64 0, .int .u32 0, .int .u16 0], .bool false]) (by simp [results, Tryd.results5, go_sem, P8]) rfl ⟨rfl, hw8⟩
end Go.Proofs.YtfnlakpjepjhbaaDoor
