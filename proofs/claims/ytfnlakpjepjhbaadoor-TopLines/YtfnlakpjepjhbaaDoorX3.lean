/- Several texts in one. -/
import Derived.Test.YtfnlakpjepjhbaaDoorFX
import Derived.Test.YtfnlakpjepjhbaaDoorFVb
import Derived.Lib.ConvBytes
import Derived.Lib.AppendIntMem
import Derived.Laws.AppendOwn
import Derived.Test.YtfnlakpjepjhbaaDoorCards
import Derived.Test.YtfnlakpjepjhbaaDoorTie
import Derived.WalkKit
import Derived.ProofKit
import Derived.OpenShut
import Derived.PinnedBridge
import Derived.Lib.LaidIn
import Derived.Lib.LaidU8T
import Derived.Deep.DeepHandedRow
import Derived.Lib.LaidTab
import Derived.Lib.TrailingZeros
import Derived.SizedLaws
import Derived.Lib.SmallJoins
import Derived.Test.YtfnlakpjepjhbaaDoorW4
/- Package ftp: Find of a line of no kind. -/
namespace Go.Proofs.YtfnlakpjepjhbaaDoor
open Go.RowKit Go.Shelf
set_option maxRecDepth 100000
set_option linter.unusedVariables false
set_option linter.unusedSimpArgs false

set_option maxHeartbeats 4000000 in
theorem find_k0 (sv : Value) (back : Bool) (bb off cp : Nat) (zs : List Int) (w : World) (hl : zs.length ≤ 1000) (hI : Rd w.heap.size w (.slice (some ⟨bb, off, none⟩) zs.length cp) zs) (hk : (kdV zs 0 back).1 = 0) (HL : ∀ W, Later w W → Calls Tryd.prog 13 #[sv] W fun e w' => e = .returned (.slice (some ⟨bb, off, none⟩) zs.length cp) ∧ Later W w') :
    Calls Tryd.prog 5 #[sv, .bool back] w fun e w' => e = .returned (.tuple #[.agg #[.int .i64 0, .int .i64 0, .int .i64 0, .int .u32 0, .int .u16 0], .bool false]) ∧ Below w.heap.size w w' := by
  have HL' := hide HL
  clear HL
  go_enter Tryd.func5, Tryd.ntmps5
  go_wp2
  refine wp_scope_jumps 0 (GU w.heap.size w) (fun _ _ => 0) rfl ?_ ?_
  · have l1 : Later w (w.alloc (.cells #[.int .i64 0, .int .i64 0, .int .i64 0, .int .u32 0, .int .u16 0] 31)) := later_allocR _ _
    have R1 := hide (heap_alloc_new w (.cells #[.int .i64 0, .int .i64 0, .int .i64 0, .int .u32 0, .int .u16 0] 31))
    go_wp2_with fail
    refine (HL'.out _ l1).mono ?_
    rintro e w2 ⟨rfl, l2⟩
    have R2 := hide ((l2.block w.heap.size (Array.getElem?_eq_some_iff.1 R1.out).1).trans R1.out)
    have B3 := hide (show RB (w2.alloc (.cells (rrc (.slice (some ⟨bb, off, none⟩) zs.length cp) ⟨0, 0, 0, 0, 0, 0⟩) 49)) w2.heap.size (.slice (some ⟨bb, off, none⟩) zs.length cp) ⟨0, 0, 0, 0, 0, 0⟩ from heap_alloc_new w2 _)
    have l3 := later_allocR w2 (.cells (rrc (.slice (some ⟨bb, off, none⟩) zs.length cp) ⟨0, 0, 0, 0, 0, 0⟩) 49)
    have L2 := l1.trans l2
    have hlt : w.heap.size < w2.heap.size := Nat.lt_of_lt_of_le (Array.getElem?_eq_some_iff.1 R1.out).1 l2.size
    go_upto_region 2 with fail
    rw [show (w2.alloc (.cells (rrc (.slice (some ⟨bb, off, none⟩) zs.length cp) ⟨0, 0, 0, 0, 0, 0⟩) 49)) = w2.alloc (.cells #[.slice (some ⟨bb, off, none⟩) zs.length cp, .int .i64 0, .int .i64 0, .int .i64 0, .int .i64 0, .int .u32 0, .int .u16 0] 49) from rfl] at B3 l3
    generalize w2.alloc _ = w3 at *
    generalize w2.heap.size = rb at *
    have L3 : Below w.heap.size w w3 := L2.trans l3
    have hrb : w.heap.size < rb := hlt
    have HK := hide (kind_any rb bb off cp w.heap.size zs back _ w3 B3.out (hI.below L3) hl (Nat.zero_le _) L3.size (by omega))
    rw [show (Rr.at0 ⟨0, 0, 0, 0, 0, 0⟩) = 0 from rfl, hk] at HK
    generalize (kdV zs 0 back).2 = p4 at *
    have R3 := hide ((l3.block w.heap.size (Array.getElem?_eq_some_iff.1 R2.out).1).trans R2.out)
    go_wp2_with fail
    refine HK.out.mono ?_
    rintro e w4 ⟨rfl, o4, b4⟩
    have B4 := hide b4
    have o4' : But (fun g => g = rb) w3 w4 := o4
    have R4 := hide ((o4'.block w.heap.size (Array.getElem?_eq_some_iff.1 R3.out).1 (by omega)).trans R3.out)
    have L4 : Below w.heap.size w w4 := L3.trans (o4'.below L3.size (fun k hk e => by omega))
    clear b4 o4
    have hlt4 : rb < w4.heap.size := (Array.getElem?_eq_some_iff.1 B4.out).1
    have kB := block_cell B4.out
    have fB := block_frozen B4.out
    unfold rrc atR at kB
    have B5 := hide (heap_set1 B4.out 2 (.int .i64 0))
    have b5 : But (fun q => q = rb) w4 (w4.setCell ⟨rb, 2, none⟩ (.int .i64 0)) := But.setCell (E := fun q => q = rb) (But.refl _ _) (p := ⟨rb, 2, none⟩) rfl _
    go_upto_region 3 with fail
    generalize w4.setCell ⟨rb, 2, none⟩ _ = w5 at *
    clear kB fB
    have B5' : w5.heap[rb]? = some (.cells #[.slice (some ⟨bb, off, none⟩) zs.length cp, .int .i64 (p4 : Int), .int .i64 0, .int .i64 0, .int .i64 0, .int .u32 0, .int .u16 0] 49 (0, 0)) := by have := B5.out; simp [rrc, atR] at this; exact this
    have kB := block_cell B5'
    have R5 := hide ((b5.block w.heap.size (by omega) (by omega)).trans R4.out)
    have L5 : Below w.heap.size w w5 := L4.trans (b5.below L4.size (fun k hk e => by omega))
    go_wp2_with fail
    go_step3
    exact ⟨rfl, _, _, _, _, _, _, _, _, _, _, _, _, _, _, _, _, _, _, _, _, _, _, _, _, _, _, _, _, _, _, _, _, _, _, _, _, _, _, _, _, _, _, _, _, _, _, _, _, _, _, _, _, _, _, _, _, _, _, _, _, _, _, _, _, _, _, _, _, _, _, _, rfl, R5.out, L5, Nat.le_refl _⟩
  · rintro a' W ⟨u0, u1, u2, u3, u5, u6, u7, u8, u9, u10, u11, u12, u13, u14, u15, u16, u17, u18, u19, u20, u21, u22, u23, u24, u25, u26, u27, u28, u29, u30, u31, u32, u33, u34, u35, u36, u37, u38, u39, u40, u41, u42, u43, u44, u45, u46, u47, u48, u49, u50, u51, u52, u53, u54, u55, u56, u57, u58, u59, u60, u61, u62, u63, u64, u65, u66, u67, u68, u69, u70, u71, rfl, hR, hb, hle⟩
    have kR := block_cell hR
    have fR := block_frozen hR
    have HR := hide hR
    clear hR
    go_wp2
    simp only [Exit.jump]
    generalize hV : (((((W.setCell ⟨w.heap.size, 0, none⟩ _).setCell ⟨w.heap.size, 1, none⟩ _).setCell ⟨w.heap.size, 2, none⟩ _).setCell ⟨w.heap.size, 3, none⟩ _).setCell ⟨w.heap.size, 4, none⟩ _) = V8
    have hV9 : V8 = putRow W w.heap.size 0 [.int .i64 0, .int .i64 0, .int .i64 0, .int .u32 0, .int .u16 0] := hV.symm
    have hb8 : But (fun b => b = w.heap.size) W V8 := by rw [hV9]; exact putRow_but (E := fun b => b = w.heap.size) (n := w.heap.size) rfl _ _ _ _ (But.refl _ _)
    have p8 := putRow_all [.int .i64 0, .int .i64 0, .int .i64 0, .int .u32 0, .int .u16 0] HR.out rfl
    rw [← hV9] at p8
    clear hV hV9 kR fR
    have P8 := block_cell p8
    have hw8 : Below w.heap.size w V8 := hb.trans (hb8.below hb.size (fun k h e => by omega))
    exact bodyPost_ret (v := .tuple #[.agg #[.int .i64 0, .int .i64 0, .int .i64 0, .int .u32 0, .int .u16 0], .bool false]) (by simp [results, Tryd.results5, go_sem, P8]) rfl ⟨rfl, hw8⟩
end Go.Proofs.YtfnlakpjepjhbaaDoor

/- Package ftp: Find of a PORT. -/
namespace Go.Proofs.YtfnlakpjepjhbaaDoor
open Go.RowKit Go.Shelf
set_option maxRecDepth 100000
set_option linter.unusedVariables false
set_option linter.unusedSimpArgs false

/-- What Find answers of nothing; of a line that names something. -/
def fdN : Value := .tuple #[.agg #[.int .i64 0, .int .i64 0, .int .i64 0, .int .u32 0, .int .u16 0], .bool false]
def fdY (kd st en ad pt : Int) : Value := .tuple #[.agg #[.int .i64 kd, .int .i64 st, .int .i64 en, .int .u32 ad, .int .u16 pt], .bool true]
def fd1 (zs : List Int) (p : Nat) : Value := match sixO zs p with
  | none => fdN
  | some x => if wat x.1 4 ≠ 0 ∧ x.2 = zs.length then fdY 1 p x.2 (wat4 x.1 0) (wat x.1 4) else fdN

set_option maxHeartbeats 4000000 in
theorem find_k1 (sv : Value) (back : Bool) (bb off cp : Nat) (zs : List Int) (w : World) (hl : zs.length ≤ 1000) (hI : Rd w.heap.size w (.slice (some ⟨bb, off, none⟩) zs.length cp) zs) (hz : Mt.By zs) (hcp : zs.length ≤ cp) (hk : (kdV zs 0 back).1 = 1) (hp4 : (kdV zs 0 back).2 ≤ zs.length) (HL : ∀ W, Later w W → Calls Tryd.prog 13 #[sv] W fun e w' => e = .returned (.slice (some ⟨bb, off, none⟩) zs.length cp) ∧ Later W w') :
    Calls Tryd.prog 5 #[sv, .bool back] w fun e w' => e = .returned (fd1 zs (kdV zs 0 back).2) ∧ Below w.heap.size w w' := by
  have HL' := hide HL
  clear HL
  go_enter Tryd.func5, Tryd.ntmps5
  go_wp2
  refine wp_scope_jumps 0 (fun a W => GU w.heap.size w a W ∧ fd1 zs (kdV zs 0 back).2 = fdN) (fun _ _ => 0) rfl ?_ ?_
  · have l1 : Later w (w.alloc (.cells #[.int .i64 0, .int .i64 0, .int .i64 0, .int .u32 0, .int .u16 0] 31)) := later_allocR _ _
    have R1 := hide (heap_alloc_new w (.cells #[.int .i64 0, .int .i64 0, .int .i64 0, .int .u32 0, .int .u16 0] 31))
    go_wp2_with fail
    refine (HL'.out _ l1).mono ?_
    rintro e w2 ⟨rfl, l2⟩
    have R2 := hide ((l2.block w.heap.size (Array.getElem?_eq_some_iff.1 R1.out).1).trans R1.out)
    have B3 := hide (show RB (w2.alloc (.cells (rrc (.slice (some ⟨bb, off, none⟩) zs.length cp) ⟨0, 0, 0, 0, 0, 0⟩) 49)) w2.heap.size (.slice (some ⟨bb, off, none⟩) zs.length cp) ⟨0, 0, 0, 0, 0, 0⟩ from heap_alloc_new w2 _)
    have l3 := later_allocR w2 (.cells (rrc (.slice (some ⟨bb, off, none⟩) zs.length cp) ⟨0, 0, 0, 0, 0, 0⟩) 49)
    have L2 := l1.trans l2
    have hlt : w.heap.size < w2.heap.size := Nat.lt_of_lt_of_le (Array.getElem?_eq_some_iff.1 R1.out).1 l2.size
    go_upto_region 2 with fail
    rw [show (w2.alloc (.cells (rrc (.slice (some ⟨bb, off, none⟩) zs.length cp) ⟨0, 0, 0, 0, 0, 0⟩) 49)) = w2.alloc (.cells #[.slice (some ⟨bb, off, none⟩) zs.length cp, .int .i64 0, .int .i64 0, .int .i64 0, .int .i64 0, .int .u32 0, .int .u16 0] 49) from rfl] at B3 l3
    generalize w2.alloc _ = w3 at *
    generalize w2.heap.size = rb at *
    have L3 : Below w.heap.size w w3 := L2.trans l3
    have hrb : w.heap.size < rb := hlt
    have HK := hide (kind_any rb bb off cp w.heap.size zs back _ w3 B3.out (hI.below L3) hl (Nat.zero_le _) L3.size (by omega))
    rw [show (Rr.at0 ⟨0, 0, 0, 0, 0, 0⟩) = 0 from rfl, hk] at HK
    generalize hp4e : (kdV zs 0 back).2 = p4 at *
    have EP := hide hp4e
    clear hp4e
    have R3 := hide ((l3.block w.heap.size (Array.getElem?_eq_some_iff.1 R2.out).1).trans R2.out)
    go_wp2_with fail
    refine HK.out.mono ?_
    rintro e w4 ⟨rfl, o4, b4⟩
    have B4 := hide b4
    have o4' : But (fun g => g = rb) w3 w4 := o4
    have R4 := hide ((o4'.block w.heap.size (Array.getElem?_eq_some_iff.1 R3.out).1 (by omega)).trans R3.out)
    have L4 : Below w.heap.size w w4 := L3.trans (o4'.below L3.size (fun k hk e => by omega))
    clear b4 o4
    have hlt4 : rb < w4.heap.size := (Array.getElem?_eq_some_iff.1 B4.out).1
    have kB := block_cell B4.out
    have fB := block_frozen B4.out
    unfold rrc atR at kB
    have B5 := hide (heap_set1 B4.out 2 (.int .i64 1))
    have b5 : But (fun q => q = rb) w4 (w4.setCell ⟨rb, 2, none⟩ (.int .i64 1)) := But.setCell (E := fun q => q = rb) (But.refl _ _) (p := ⟨rb, 2, none⟩) rfl _
    go_upto_region 3 with fail
    generalize w4.setCell ⟨rb, 2, none⟩ _ = w5 at *
    clear kB fB
    have B5' : w5.heap[rb]? = some (.cells #[.slice (some ⟨bb, off, none⟩) zs.length cp, .int .i64 (p4 : Int), .int .i64 1, .int .i64 0, .int .i64 0, .int .u32 0, .int .u16 0] 49 (0, 0)) := by have := B5.out; simp [rrc, atR] at this; exact this
    have kB := block_cell B5'
    have R5 := hide ((b5.block w.heap.size (by omega) (by omega)).trans R4.out)
    have L5 : Below w.heap.size w w5 := L4.trans (b5.below L4.size (fun k hk e => by omega))
    have hI5 : Rd w.heap.size w5 (.slice (some ⟨bb, off, none⟩) zs.length cp) zs := hI.below L5
    have HS := hide (six_any rb bb off cp w.heap.size zs hz ⟨p4, 1, 0, 0, 0, 0⟩ w5 B5' hI5 hl hp4 L5.size (by omega))
    have hlt5 : rb < w5.heap.size := (Array.getElem?_eq_some_iff.1 B5').1
    go_wp2_with fail
    refine HS.out.mono ?_
    clear kB
    rintro e w6 ⟨o6, ⟨hno, rfl⟩ | ⟨x, hx, rfl, hxl, b6⟩⟩
    · have R6 := hide ((o6.block w.heap.size (by omega) (by omega)).trans R5.out)
      have L6 : Below w.heap.size w w6 := L5.trans (o6.below L5.size (fun k hk e => by omega))
      go_wp2_with fail
      go_step3
      exact ⟨rfl, ⟨_, _, _, _, _, _, _, _, _, _, _, _, _, _, _, _, _, _, _, _, _, _, _, _, _, _, _, _, _, _, _, _, _, _, _, _, _, _, _, _, _, _, _, _, _, _, _, _, _, _, _, _, _, _, _, _, _, _, _, _, _, _, _, _, _, _, _, _, _, _, _, rfl, R6.out, L6, Nat.le_refl _⟩, by rw [EP.out]; unfold fd1; rw [hno]⟩
    · have R6 := hide ((o6.block w.heap.size (by omega) (by omega)).trans R5.out)
      have L6 : Below w.heap.size w w6 := L5.trans (o6.below L5.size (fun k hk e => by omega))
      have HX := hide hx
      by_cases hw0 : wat x.1 4 = 0
      · have t0 : decide (wat x.1 4 = 0) = true := by simp [hw0]
        have HW := hide hw0
        clear hw0 hx
        rw [t0]
        go_wp2_with fail
        go_step3
        exact ⟨rfl, ⟨_, _, _, _, _, _, _, _, _, _, _, _, _, _, _, _, _, _, _, _, _, _, _, _, _, _, _, _, _, _, _, _, _, _, _, _, _, _, _, _, _, _, _, _, _, _, _, _, _, _, _, _, _, _, _, _, _, _, _, _, _, _, _, _, _, _, _, _, _, _, _, rfl, R6.out, L6, Nat.le_refl _⟩, by rw [EP.out]; unfold fd1; rw [HX.out]; exact if_neg (fun h => h.1 HW.out)⟩
      · have t0 : decide (wat x.1 4 = 0) = false := by simp [hw0]
        have HW := hide hw0
        clear hw0 hx
        rw [t0]
        have HOV := hide (over_any rb (some ⟨bb, off, none⟩) zs.length cp _ w6 b6)
        rw [show (sixR ⟨p4, 1, 0, 0, 0, 0⟩ x.1 x.2).at0 = x.2 from rfl] at HOV
        have B6 := hide b6
        clear b6
        by_cases hov : x.2 = zs.length
        · have t1 : decide (x.2 = zs.length) = true := by simp [hov]
          rw [t1] at HOV
          have HV := hide hov
          clear hov t1 t0
          go_wp2_with fail
          refine HOV.out.mono ?_
          rintro e w7 ⟨rfl, l7⟩
          have R7 := hide ((l7.block w.heap.size (Array.getElem?_eq_some_iff.1 R6.out).1).trans R6.out)
          have L7 : Below w.heap.size w w7 := L6.trans (l7.mono L6.size)
          have B7 := hide (B6.out.later l7)
          have kB := block_cell B7.out
          unfold rrc sixR at kB
          have kR := block_cell R7.out
          have fR := block_frozen R7.out
          go_wp2_with fail
          simp only [Exit.jump]
          generalize hV : (((((w7.setCell ⟨w.heap.size, 0, none⟩ _).setCell ⟨w.heap.size, 1, none⟩ _).setCell ⟨w.heap.size, 2, none⟩ _).setCell ⟨w.heap.size, 3, none⟩ _).setCell ⟨w.heap.size, 4, none⟩ _) = V8
          have hV9 : V8 = putRow w7 w.heap.size 0 [.int .i64 1, .int .i64 (p4 : Int), .int .i64 (x.2 : Int), .int .u32 (wat4 x.1 0), .int .u16 (wat x.1 4)] := hV.symm
          have hb8 : But (fun b => b = w.heap.size) w7 V8 := by rw [hV9]; exact putRow_but (E := fun b => b = w.heap.size) (n := w.heap.size) rfl _ _ _ _ (But.refl _ _)
          have p8 := putRow_all [.int .i64 1, .int .i64 (p4 : Int), .int .i64 (x.2 : Int), .int .u32 (wat4 x.1 0), .int .u16 (wat x.1 4)] R7.out rfl
          rw [← hV9] at p8
          clear hV hV9 kR fR kB
          have P8 := block_cell p8
          have hw8 : Below w.heap.size w V8 := L7.trans (hb8.below L7.size (fun k h e => by omega))
          exact bodyPost_ret (v := fdY 1 p4 x.2 (wat4 x.1 0) (wat x.1 4)) (by unfold fdY; simp [results, Tryd.results5, go_sem, P8]) rfl ⟨by rw [EP.out]; unfold fd1; rw [HX.out]; exact congrArg _ (if_pos ⟨HW.out, HV.out⟩).symm, hw8⟩
        · have t1 : decide (x.2 = zs.length) = false := by simp [hov]
          rw [t1] at HOV
          have HV := hide hov
          clear hov t1 t0
          go_wp2_with fail
          refine HOV.out.mono ?_
          rintro e w7 ⟨rfl, l7⟩
          have R7 := hide ((l7.block w.heap.size (Array.getElem?_eq_some_iff.1 R6.out).1).trans R6.out)
          have L7 : Below w.heap.size w w7 := L6.trans (l7.mono L6.size)
          go_wp2_with fail
          go_step3
          exact ⟨rfl, ⟨_, _, _, _, _, _, _, _, _, _, _, _, _, _, _, _, _, _, _, _, _, _, _, _, _, _, _, _, _, _, _, _, _, _, _, _, _, _, _, _, _, _, _, _, _, _, _, _, _, _, _, _, _, _, _, _, _, _, _, _, _, _, _, _, _, _, _, _, _, _, _, rfl, R7.out, L7, Nat.le_refl _⟩, by rw [EP.out]; unfold fd1; rw [HX.out]; exact if_neg (fun h => HV.out h.2)⟩
  · rintro a' W ⟨⟨u0, u1, u2, u3, u5, u6, u7, u8, u9, u10, u11, u12, u13, u14, u15, u16, u17, u18, u19, u20, u21, u22, u23, u24, u25, u26, u27, u28, u29, u30, u31, u32, u33, u34, u35, u36, u37, u38, u39, u40, u41, u42, u43, u44, u45, u46, u47, u48, u49, u50, u51, u52, u53, u54, u55, u56, u57, u58, u59, u60, u61, u62, u63, u64, u65, u66, u67, u68, u69, u70, u71, rfl, hR, hb, hle⟩, hfd⟩
    have HFD := hide hfd
    clear hfd
    have kR := block_cell hR
    have fR := block_frozen hR
    have HR := hide hR
    clear hR
    go_wp2
    simp only [Exit.jump]
    generalize hV : (((((W.setCell ⟨w.heap.size, 0, none⟩ _).setCell ⟨w.heap.size, 1, none⟩ _).setCell ⟨w.heap.size, 2, none⟩ _).setCell ⟨w.heap.size, 3, none⟩ _).setCell ⟨w.heap.size, 4, none⟩ _) = V8
    have hV9 : V8 = putRow W w.heap.size 0 [.int .i64 0, .int .i64 0, .int .i64 0, .int .u32 0, .int .u16 0] := hV.symm
    have hb8 : But (fun b => b = w.heap.size) W V8 := by rw [hV9]; exact putRow_but (E := fun b => b = w.heap.size) (n := w.heap.size) rfl _ _ _ _ (But.refl _ _)
    have p8 := putRow_all [.int .i64 0, .int .i64 0, .int .i64 0, .int .u32 0, .int .u16 0] HR.out rfl
    rw [← hV9] at p8
    clear hV hV9 kR fR
    have P8 := block_cell p8
    have hw8 : Below w.heap.size w V8 := hb.trans (hb8.below hb.size (fun k h e => by omega))
    exact bodyPost_ret (v := .tuple #[.agg #[.int .i64 0, .int .i64 0, .int .i64 0, .int .u32 0, .int .u16 0], .bool false]) (by simp [results, Tryd.results5, go_sem, P8]) rfl ⟨by rw [HFD.out]; rfl, hw8⟩
end Go.Proofs.YtfnlakpjepjhbaaDoor

/- Package ftp: Find of an EPRT. -/
namespace Go.Proofs.YtfnlakpjepjhbaaDoor
open Go.RowKit Go.Shelf
set_option maxRecDepth 100000
set_option linter.unusedVariables false
set_option linter.unusedSimpArgs false

def fd2 (zs : List Int) (p : Nat) : Value := match barO zs p with
  | none => fdN
  | some x => if x.2.1 = zs.length then fdY 2 p x.2.1 (wat4 x.1 0) x.2.2 else fdN

set_option maxHeartbeats 4000000 in
theorem find_k2 (sv : Value) (back : Bool) (bb off cp : Nat) (zs : List Int) (w : World) (hl : zs.length ≤ 1000) (hI : Rd w.heap.size w (.slice (some ⟨bb, off, none⟩) zs.length cp) zs) (hz : Mt.By zs) (hcp : zs.length ≤ cp) (hk : (kdV zs 0 back).1 = 2) (hp4 : (kdV zs 0 back).2 ≤ zs.length) (HL : ∀ W, Later w W → Calls Tryd.prog 13 #[sv] W fun e w' => e = .returned (.slice (some ⟨bb, off, none⟩) zs.length cp) ∧ Later W w') :
    Calls Tryd.prog 5 #[sv, .bool back] w fun e w' => e = .returned (fd2 zs (kdV zs 0 back).2) ∧ Below w.heap.size w w' := by
  have HL' := hide HL
  clear HL
  go_enter Tryd.func5, Tryd.ntmps5
  go_wp2
  refine wp_scope_jumps 0 (fun a W => GU w.heap.size w a W ∧ fd2 zs (kdV zs 0 back).2 = fdN) (fun _ _ => 0) rfl ?_ ?_
  · have l1 : Later w (w.alloc (.cells #[.int .i64 0, .int .i64 0, .int .i64 0, .int .u32 0, .int .u16 0] 31)) := later_allocR _ _
    have R1 := hide (heap_alloc_new w (.cells #[.int .i64 0, .int .i64 0, .int .i64 0, .int .u32 0, .int .u16 0] 31))
    go_wp2_with fail
    refine (HL'.out _ l1).mono ?_
    rintro e w2 ⟨rfl, l2⟩
    have R2 := hide ((l2.block w.heap.size (Array.getElem?_eq_some_iff.1 R1.out).1).trans R1.out)
    have B3 := hide (show RB (w2.alloc (.cells (rrc (.slice (some ⟨bb, off, none⟩) zs.length cp) ⟨0, 0, 0, 0, 0, 0⟩) 49)) w2.heap.size (.slice (some ⟨bb, off, none⟩) zs.length cp) ⟨0, 0, 0, 0, 0, 0⟩ from heap_alloc_new w2 _)
    have l3 := later_allocR w2 (.cells (rrc (.slice (some ⟨bb, off, none⟩) zs.length cp) ⟨0, 0, 0, 0, 0, 0⟩) 49)
    have L2 := l1.trans l2
    have hlt : w.heap.size < w2.heap.size := Nat.lt_of_lt_of_le (Array.getElem?_eq_some_iff.1 R1.out).1 l2.size
    go_upto_region 2 with fail
    rw [show (w2.alloc (.cells (rrc (.slice (some ⟨bb, off, none⟩) zs.length cp) ⟨0, 0, 0, 0, 0, 0⟩) 49)) = w2.alloc (.cells #[.slice (some ⟨bb, off, none⟩) zs.length cp, .int .i64 0, .int .i64 0, .int .i64 0, .int .i64 0, .int .u32 0, .int .u16 0] 49) from rfl] at B3 l3
    generalize w2.alloc _ = w3 at *
    generalize w2.heap.size = rb at *
    have L3 : Below w.heap.size w w3 := L2.trans l3
    have hrb : w.heap.size < rb := hlt
    have HK := hide (kind_any rb bb off cp w.heap.size zs back _ w3 B3.out (hI.below L3) hl (Nat.zero_le _) L3.size (by omega))
    rw [show (Rr.at0 ⟨0, 0, 0, 0, 0, 0⟩) = 0 from rfl, hk] at HK
    generalize hp4e : (kdV zs 0 back).2 = p4 at *
    have EP := hide hp4e
    clear hp4e
    have R3 := hide ((l3.block w.heap.size (Array.getElem?_eq_some_iff.1 R2.out).1).trans R2.out)
    go_wp2_with fail
    refine HK.out.mono ?_
    rintro e w4 ⟨rfl, o4, b4⟩
    have B4 := hide b4
    have o4' : But (fun g => g = rb) w3 w4 := o4
    have R4 := hide ((o4'.block w.heap.size (Array.getElem?_eq_some_iff.1 R3.out).1 (by omega)).trans R3.out)
    have L4 : Below w.heap.size w w4 := L3.trans (o4'.below L3.size (fun k hk e => by omega))
    clear b4 o4
    have hlt4 : rb < w4.heap.size := (Array.getElem?_eq_some_iff.1 B4.out).1
    have kB := block_cell B4.out
    have fB := block_frozen B4.out
    unfold rrc atR at kB
    have B5 := hide (heap_set1 B4.out 2 (.int .i64 2))
    have b5 : But (fun q => q = rb) w4 (w4.setCell ⟨rb, 2, none⟩ (.int .i64 2)) := But.setCell (E := fun q => q = rb) (But.refl _ _) (p := ⟨rb, 2, none⟩) rfl _
    go_upto_region 3 with fail
    generalize w4.setCell ⟨rb, 2, none⟩ _ = w5 at *
    clear kB fB
    have B5' : w5.heap[rb]? = some (.cells #[.slice (some ⟨bb, off, none⟩) zs.length cp, .int .i64 (p4 : Int), .int .i64 2, .int .i64 0, .int .i64 0, .int .u32 0, .int .u16 0] 49 (0, 0)) := by have := B5.out; simp [rrc, atR] at this; exact this
    have kB := block_cell B5'
    have R5 := hide ((b5.block w.heap.size (by omega) (by omega)).trans R4.out)
    have L5 : Below w.heap.size w w5 := L4.trans (b5.below L4.size (fun k hk e => by omega))
    have hI5 : Rd w.heap.size w5 (.slice (some ⟨bb, off, none⟩) zs.length cp) zs := hI.below L5
    have HS := hide (barred_any rb bb off cp w.heap.size zs hz ⟨p4, 2, 0, 0, 0, 0⟩ w5 B5' hI5 hl hp4 L5.size (by omega))
    have hlt5 : rb < w5.heap.size := (Array.getElem?_eq_some_iff.1 B5').1
    go_wp2_with fail
    refine HS.out.mono ?_
    clear kB
    rintro e w6 ⟨o6, ⟨hno, rfl⟩ | ⟨x, hx, rfl, hxl, b6⟩⟩
    · have R6 := hide ((o6.block w.heap.size (by omega) (by omega)).trans R5.out)
      have L6 : Below w.heap.size w w6 := L5.trans (o6.below L5.size (fun k hk e => by omega))
      go_wp2_with fail
      go_step3
      exact ⟨rfl, ⟨_, _, _, _, _, _, _, _, _, _, _, _, _, _, _, _, _, _, _, _, _, _, _, _, _, _, _, _, _, _, _, _, _, _, _, _, _, _, _, _, _, _, _, _, _, _, _, _, _, _, _, _, _, _, _, _, _, _, _, _, _, _, _, _, _, _, _, _, _, _, _, rfl, R6.out, L6, Nat.le_refl _⟩, by rw [EP.out]; unfold fd2; rw [hno]⟩
    · have R6 := hide ((o6.block w.heap.size (by omega) (by omega)).trans R5.out)
      have L6 : Below w.heap.size w w6 := L5.trans (o6.below L5.size (fun k hk e => by omega))
      have HX := hide hx
      clear hx
      have HOV := hide (over_any rb (some ⟨bb, off, none⟩) zs.length cp _ w6 b6)
      rw [show (Rr.at0 ⟨x.2.1, 2, (p4 : Int), (x.2.1 : Int), wat4 x.1 0, x.2.2⟩) = x.2.1 from rfl] at HOV
      have B6 := hide b6
      clear b6
      by_cases hov : x.2.1 = zs.length
      · have t1 : decide (x.2.1 = zs.length) = true := by simp [hov]
        rw [t1] at HOV
        have HV := hide hov
        clear hov t1
        go_wp2_with fail
        refine HOV.out.mono ?_
        rintro e w7 ⟨rfl, l7⟩
        have R7 := hide ((l7.block w.heap.size (Array.getElem?_eq_some_iff.1 R6.out).1).trans R6.out)
        have L7 : Below w.heap.size w w7 := L6.trans (l7.mono L6.size)
        have B7 := hide (B6.out.later l7)
        have kB := block_cell B7.out
        unfold rrc at kB
        have kR := block_cell R7.out
        have fR := block_frozen R7.out
        go_wp2_with fail
        simp only [Exit.jump]
        generalize hV : (((((w7.setCell ⟨w.heap.size, 0, none⟩ _).setCell ⟨w.heap.size, 1, none⟩ _).setCell ⟨w.heap.size, 2, none⟩ _).setCell ⟨w.heap.size, 3, none⟩ _).setCell ⟨w.heap.size, 4, none⟩ _) = V8
        have hV9 : V8 = putRow w7 w.heap.size 0 [.int .i64 2, .int .i64 (p4 : Int), .int .i64 (x.2.1 : Int), .int .u32 (wat4 x.1 0), .int .u16 x.2.2] := hV.symm
        have hb8 : But (fun b => b = w.heap.size) w7 V8 := by rw [hV9]; exact putRow_but (E := fun b => b = w.heap.size) (n := w.heap.size) rfl _ _ _ _ (But.refl _ _)
        have p8 := putRow_all [.int .i64 2, .int .i64 (p4 : Int), .int .i64 (x.2.1 : Int), .int .u32 (wat4 x.1 0), .int .u16 x.2.2] R7.out rfl
        rw [← hV9] at p8
        clear hV hV9 kR fR kB
        have P8 := block_cell p8
        have hw8 : Below w.heap.size w V8 := L7.trans (hb8.below L7.size (fun k h e => by omega))
        exact bodyPost_ret (v := fdY 2 p4 x.2.1 (wat4 x.1 0) x.2.2) (by unfold fdY; simp [results, Tryd.results5, go_sem, P8]) rfl ⟨by rw [EP.out]; unfold fd2; rw [HX.out]; exact congrArg _ (if_pos HV.out).symm, hw8⟩
      · have t1 : decide (x.2.1 = zs.length) = false := by simp [hov]
        rw [t1] at HOV
        have HV := hide hov
        clear hov t1
        go_wp2_with fail
        refine HOV.out.mono ?_
        rintro e w7 ⟨rfl, l7⟩
        have R7 := hide ((l7.block w.heap.size (Array.getElem?_eq_some_iff.1 R6.out).1).trans R6.out)
        have L7 : Below w.heap.size w w7 := L6.trans (l7.mono L6.size)
        go_wp2_with fail
        go_step3
        exact ⟨rfl, ⟨_, _, _, _, _, _, _, _, _, _, _, _, _, _, _, _, _, _, _, _, _, _, _, _, _, _, _, _, _, _, _, _, _, _, _, _, _, _, _, _, _, _, _, _, _, _, _, _, _, _, _, _, _, _, _, _, _, _, _, _, _, _, _, _, _, _, _, _, _, _, _, rfl, R7.out, L7, Nat.le_refl _⟩, by rw [EP.out]; unfold fd2; rw [HX.out]; exact if_neg HV.out⟩
  · rintro a' W ⟨⟨u0, u1, u2, u3, u5, u6, u7, u8, u9, u10, u11, u12, u13, u14, u15, u16, u17, u18, u19, u20, u21, u22, u23, u24, u25, u26, u27, u28, u29, u30, u31, u32, u33, u34, u35, u36, u37, u38, u39, u40, u41, u42, u43, u44, u45, u46, u47, u48, u49, u50, u51, u52, u53, u54, u55, u56, u57, u58, u59, u60, u61, u62, u63, u64, u65, u66, u67, u68, u69, u70, u71, rfl, hR, hb, hle⟩, hfd⟩
    have HFD := hide hfd
    clear hfd
    have kR := block_cell hR
    have fR := block_frozen hR
    have HR := hide hR
    clear hR
    go_wp2
    simp only [Exit.jump]
    generalize hV : (((((W.setCell ⟨w.heap.size, 0, none⟩ _).setCell ⟨w.heap.size, 1, none⟩ _).setCell ⟨w.heap.size, 2, none⟩ _).setCell ⟨w.heap.size, 3, none⟩ _).setCell ⟨w.heap.size, 4, none⟩ _) = V8
    have hV9 : V8 = putRow W w.heap.size 0 [.int .i64 0, .int .i64 0, .int .i64 0, .int .u32 0, .int .u16 0] := hV.symm
    have hb8 : But (fun b => b = w.heap.size) W V8 := by rw [hV9]; exact putRow_but (E := fun b => b = w.heap.size) (n := w.heap.size) rfl _ _ _ _ (But.refl _ _)
    have p8 := putRow_all [.int .i64 0, .int .i64 0, .int .i64 0, .int .u32 0, .int .u16 0] HR.out rfl
    rw [← hV9] at p8
    clear hV hV9 kR fR
    have P8 := block_cell p8
    have hw8 : Below w.heap.size w V8 := hb.trans (hb8.below hb.size (fun k h e => by omega))
    exact bodyPost_ret (v := .tuple #[.agg #[.int .i64 0, .int .i64 0, .int .i64 0, .int .u32 0, .int .u16 0], .bool false]) (by simp [results, Tryd.results5, go_sem, P8]) rfl ⟨by rw [HFD.out]; rfl, hw8⟩
end Go.Proofs.YtfnlakpjepjhbaaDoor

/- Package ftp: Find of a 227. -/
namespace Go.Proofs.YtfnlakpjepjhbaaDoor
open Go.RowKit Go.Shelf
set_option maxRecDepth 100000
set_option linter.unusedVariables false
set_option linter.unusedSimpArgs false

def tEnd : ByteArray := ⟨#[41]⟩
/-- Where what is past the bracket begins. -/
def p40 (zs : List Int) (p : Nat) : Nat := ((p : Int) + (pst zs p 40 + 1)).toNat
def fd3 (zs : List Int) (p : Nat) : Value := if pst zs p 40 < 0 then fdN else match sixO zs (p40 zs p) with
  | none => fdN
  | some x => if wat x.1 4 ≠ 0 ∧ tkB zs x.2 tEnd = true then fdY 3 (p40 zs p) x.2 (wat4 x.1 0) (wat x.1 4) else fdN

set_option maxHeartbeats 4000000 in
theorem find_k3 (sv : Value) (back : Bool) (bb off cp : Nat) (zs : List Int) (w : World) (hl : zs.length ≤ 1000) (hI : Rd w.heap.size w (.slice (some ⟨bb, off, none⟩) zs.length cp) zs) (hz : Mt.By zs) (hcp : zs.length < cp) (hk : (kdV zs 0 back).1 = 3) (hp4 : (kdV zs 0 back).2 ≤ zs.length) (HL : ∀ W, Later w W → Calls Tryd.prog 13 #[sv] W fun e w' => e = .returned (.slice (some ⟨bb, off, none⟩) zs.length cp) ∧ Later W w') :
    Calls Tryd.prog 5 #[sv, .bool back] w fun e w' => e = .returned (fd3 zs (kdV zs 0 back).2) ∧ Below w.heap.size w w' := by
  have HL' := hide HL
  clear HL
  go_enter Tryd.func5, Tryd.ntmps5
  go_wp2
  refine wp_scope_jumps 0 (fun a W => GU w.heap.size w a W ∧ fd3 zs (kdV zs 0 back).2 = fdN) (fun _ _ => 0) rfl ?_ ?_
  · have l1 : Later w (w.alloc (.cells #[.int .i64 0, .int .i64 0, .int .i64 0, .int .u32 0, .int .u16 0] 31)) := later_allocR _ _
    have R1 := hide (heap_alloc_new w (.cells #[.int .i64 0, .int .i64 0, .int .i64 0, .int .u32 0, .int .u16 0] 31))
    go_wp2_with fail
    refine (HL'.out _ l1).mono ?_
    rintro e w2 ⟨rfl, l2⟩
    have R2 := hide ((l2.block w.heap.size (Array.getElem?_eq_some_iff.1 R1.out).1).trans R1.out)
    have B3 := hide (show RB (w2.alloc (.cells (rrc (.slice (some ⟨bb, off, none⟩) zs.length cp) ⟨0, 0, 0, 0, 0, 0⟩) 49)) w2.heap.size (.slice (some ⟨bb, off, none⟩) zs.length cp) ⟨0, 0, 0, 0, 0, 0⟩ from heap_alloc_new w2 _)
    have l3 := later_allocR w2 (.cells (rrc (.slice (some ⟨bb, off, none⟩) zs.length cp) ⟨0, 0, 0, 0, 0, 0⟩) 49)
    have L2 := l1.trans l2
    have hlt : w.heap.size < w2.heap.size := Nat.lt_of_lt_of_le (Array.getElem?_eq_some_iff.1 R1.out).1 l2.size
    go_upto_region 2 with fail
    rw [show (w2.alloc (.cells (rrc (.slice (some ⟨bb, off, none⟩) zs.length cp) ⟨0, 0, 0, 0, 0, 0⟩) 49)) = w2.alloc (.cells #[.slice (some ⟨bb, off, none⟩) zs.length cp, .int .i64 0, .int .i64 0, .int .i64 0, .int .i64 0, .int .u32 0, .int .u16 0] 49) from rfl] at B3 l3
    generalize w2.alloc _ = w3 at *
    generalize w2.heap.size = rb at *
    have L3 : Below w.heap.size w w3 := L2.trans l3
    have hrb : w.heap.size < rb := hlt
    have HK := hide (kind_any rb bb off cp w.heap.size zs back _ w3 B3.out (hI.below L3) hl (Nat.zero_le _) L3.size (by omega))
    rw [show (Rr.at0 ⟨0, 0, 0, 0, 0, 0⟩) = 0 from rfl, hk] at HK
    generalize hp4e : (kdV zs 0 back).2 = p4 at *
    have EP := hide hp4e
    clear hp4e
    have R3 := hide ((l3.block w.heap.size (Array.getElem?_eq_some_iff.1 R2.out).1).trans R2.out)
    go_wp2_with fail
    refine HK.out.mono ?_
    rintro e w4 ⟨rfl, o4, b4⟩
    have B4 := hide b4
    have o4' : But (fun g => g = rb) w3 w4 := o4
    have R4 := hide ((o4'.block w.heap.size (Array.getElem?_eq_some_iff.1 R3.out).1 (by omega)).trans R3.out)
    have L4 : Below w.heap.size w w4 := L3.trans (o4'.below L3.size (fun k hk e => by omega))
    clear b4 o4
    have hlt4 : rb < w4.heap.size := (Array.getElem?_eq_some_iff.1 B4.out).1
    have kB := block_cell B4.out
    have fB := block_frozen B4.out
    unfold rrc atR at kB
    have B5 := hide (heap_set1 B4.out 2 (.int .i64 3))
    have b5 : But (fun q => q = rb) w4 (w4.setCell ⟨rb, 2, none⟩ (.int .i64 3)) := But.setCell (E := fun q => q = rb) (But.refl _ _) (p := ⟨rb, 2, none⟩) rfl _
    go_upto_region 3 with fail
    generalize w4.setCell ⟨rb, 2, none⟩ _ = w5 at *
    clear kB fB
    have B5' : w5.heap[rb]? = some (.cells #[.slice (some ⟨bb, off, none⟩) zs.length cp, .int .i64 (p4 : Int), .int .i64 3, .int .i64 0, .int .i64 0, .int .u32 0, .int .u16 0] 49 (0, 0)) := by have := B5.out; simp [rrc, atR] at this; exact this
    have kB := block_cell B5'
    have R5 := hide ((b5.block w.heap.size (by omega) (by omega)).trans R4.out)
    have L5 : Below w.heap.size w w5 := L4.trans (b5.below L4.size (fun k hk e => by omega))
    have hI5 : Rd w.heap.size w5 (.slice (some ⟨bb, off, none⟩) zs.length cp) zs := hI.below L5
    have hlt5 : rb < w5.heap.size := (Array.getElem?_eq_some_iff.1 B5').1
    have HPA := hide (past_any rb bb off cp w.heap.size zs 40 ⟨p4, 3, 0, 0, 0, 0⟩ w5 B5' hI5 hl hcp hp4 L5.size (by omega))
    have hpr := pst_rng 40 hp4
    have HP5 : Hid (((p4 : Int) + (pst zs p4 40 + 1)).toNat = p40 zs p4) := rfl
    simp only [show (Rr.at0 ⟨p4, 3, 0, 0, 0, 0⟩) = p4 from rfl, HP5.out] at HPA
    have hp5 : p40 zs p4 ≤ zs.length := by unfold p40; omega
    obtain ⟨p5, hp5e⟩ : ∃ p5, p40 zs p4 = p5 := ⟨_, rfl⟩
    rw [hp5e] at HPA hp5
    have E5 := hide hp5e
    clear hp5e HP5 kB
    by_cases hps : 0 ≤ pst zs p4 40
    case neg =>
      have t0 : decide (0 ≤ pst zs p4 40) = false := by simp; omega
      have HPS := hide hps
      rw [t0] at HPA
      clear hps t0 hpr
      have kB := block_cell B5'
      go_wp2_with fail
      refine HPA.out.mono ?_
      rintro e w6 ⟨rfl, o6, b6⟩
      have o6' : But (fun g => g = rb) w5 w6 := o6
      have R6 := hide ((o6'.block w.heap.size (by omega) (by omega)).trans R5.out)
      have L6 : Below w.heap.size w w6 := L5.trans (o6'.below L5.size (fun k hk e => by omega))
      clear kB b6 o6
      go_wp2_with fail
      go_step3
      exact ⟨rfl, ⟨_, _, _, _, _, _, _, _, _, _, _, _, _, _, _, _, _, _, _, _, _, _, _, _, _, _, _, _, _, _, _, _, _, _, _, _, _, _, _, _, _, _, _, _, _, _, _, _, _, _, _, _, _, _, _, _, _, _, _, _, _, _, _, _, _, _, _, _, _, _, _, rfl, R6.out, L6, Nat.le_refl _⟩, by rw [EP.out]; unfold fd3; exact if_pos (by have := HPS.out; omega)⟩
    have t0 : decide (0 ≤ pst zs p4 40) = true := by simp; omega
    have HPS : Hid (¬ pst zs p4 40 < 0) := by show ¬ _; omega
    rw [t0] at HPA
    clear hps t0 hpr
    have kB := block_cell B5'
    go_wp2_with fail
    refine HPA.out.mono ?_
    rintro e w6 ⟨rfl, o6, b6⟩
    have o6' : But (fun g => g = rb) w5 w6 := o6
    have R6 := hide ((o6'.block w.heap.size (by omega) (by omega)).trans R5.out)
    have L6 : Below w.heap.size w w6 := L5.trans (o6'.below L5.size (fun k hk e => by omega))
    have b6' : RB w6 rb (.slice (some ⟨bb, off, none⟩) zs.length cp) ⟨p5, 3, 0, 0, 0, 0⟩ := b6
    have HS := hide (six_any rb bb off cp w.heap.size zs hz ⟨p5, 3, 0, 0, 0, 0⟩ w6 b6' (hI.below L6) hl hp5 L6.size (by omega))
    have hlt6 : rb < w6.heap.size := (Array.getElem?_eq_some_iff.1 b6').1
    clear kB b6 o6 b6'
    go_wp2_with fail
    refine HS.out.mono ?_
    rintro e w7 ⟨o7, ⟨hno, rfl⟩ | ⟨x, hx, rfl, hxl, b7⟩⟩
    · have R7 := hide ((o7.block w.heap.size (by omega) (by omega)).trans R6.out)
      have L7 : Below w.heap.size w w7 := L6.trans (o7.below L6.size (fun k hk e => by omega))
      go_wp2_with fail
      go_step3
      exact ⟨rfl, ⟨_, _, _, _, _, _, _, _, _, _, _, _, _, _, _, _, _, _, _, _, _, _, _, _, _, _, _, _, _, _, _, _, _, _, _, _, _, _, _, _, _, _, _, _, _, _, _, _, _, _, _, _, _, _, _, _, _, _, _, _, _, _, _, _, _, _, _, _, _, _, _, rfl, R7.out, L7, Nat.le_refl _⟩, by rw [EP.out]; unfold fd3; rw [if_neg (by have := HPS.out; omega), E5.out, hno]⟩
    have R7 := hide ((o7.block w.heap.size (by omega) (by omega)).trans R6.out)
    have L7 : Below w.heap.size w w7 := L6.trans (o7.below L6.size (fun k hk e => by omega))
    have HX := hide hx
    by_cases hw0 : wat x.1 4 = 0
    · have t0 : decide (wat x.1 4 = 0) = true := by simp [hw0]
      have HW := hide hw0
      clear hw0 hx
      rw [t0]
      go_wp2_with fail
      go_step3
      exact ⟨rfl, ⟨_, _, _, _, _, _, _, _, _, _, _, _, _, _, _, _, _, _, _, _, _, _, _, _, _, _, _, _, _, _, _, _, _, _, _, _, _, _, _, _, _, _, _, _, _, _, _, _, _, _, _, _, _, _, _, _, _, _, _, _, _, _, _, _, _, _, _, _, _, _, _, rfl, R7.out, L7, Nat.le_refl _⟩, by rw [EP.out]; unfold fd3; rw [if_neg (by have := HPS.out; omega), E5.out, HX.out]; exact if_neg (fun h => h.1 HW.out)⟩
    have t0 : decide (wat x.1 4 = 0) = false := by simp [hw0]
    have HW := hide hw0
    clear hw0 hx
    rw [t0]
    have HTK := hide (take_any rb bb off cp w.heap.size zs tEnd (sixR ⟨p5, 3, 0, 0, 0, 0⟩ x.1 x.2) w7 b7 (hI.below L7) hl (by decide) hxl L7.size)
    rw [show (sixR ⟨p5, 3, 0, 0, 0, 0⟩ x.1 x.2).at0 = x.2 from rfl] at HTK
    have hlt7 : rb < w7.heap.size := (Array.getElem?_eq_some_iff.1 b7).1
    clear b7 t0
    cases htk : tkB zs x.2 tEnd with
    | false =>
      rw [htk, if_neg (by simp)] at HTK
      have HT := hide htk
      clear htk
      unfold tEnd at HTK
      go_wp2_with fail
      refine HTK.out.mono ?_
      rintro e w8 ⟨rfl, o8, b8⟩
      have o8' : But (fun g => g = rb) w7 w8 := o8
      have R8 := hide ((o8'.block w.heap.size (by omega) (by omega)).trans R7.out)
      have L8 : Below w.heap.size w w8 := L7.trans (o8'.below L7.size (fun k hk e => by omega))
      clear o8 b8
      go_wp2_with fail
      go_step3
      exact ⟨rfl, ⟨_, _, _, _, _, _, _, _, _, _, _, _, _, _, _, _, _, _, _, _, _, _, _, _, _, _, _, _, _, _, _, _, _, _, _, _, _, _, _, _, _, _, _, _, _, _, _, _, _, _, _, _, _, _, _, _, _, _, _, _, _, _, _, _, _, _, _, _, _, _, _, rfl, R8.out, L8, Nat.le_refl _⟩, by rw [EP.out]; unfold fd3; rw [if_neg (by have := HPS.out; omega), E5.out, HX.out]; exact if_neg (fun h => by rw [HT.out] at h; exact absurd h.2 (by decide))⟩
    | true =>
      rw [htk, if_pos rfl] at HTK
      have HT := hide htk
      clear htk
      unfold tEnd at HTK
      go_wp2_with fail
      refine HTK.out.mono ?_
      rintro e w8 ⟨rfl, o8, b8⟩
      have o8' : But (fun g => g = rb) w7 w8 := o8
      have R8 := hide ((o8'.block w.heap.size (by omega) (by omega)).trans R7.out)
      have L8 : Below w.heap.size w w8 := L7.trans (o8'.below L7.size (fun k hk e => by omega))
      have kB := block_cell b8
      unfold rrc sixR atR at kB
      have kR := block_cell R8.out
      have fR := block_frozen R8.out
      go_wp2_with fail
      simp only [Exit.jump]
      generalize hV : (((((w8.setCell ⟨w.heap.size, 0, none⟩ _).setCell ⟨w.heap.size, 1, none⟩ _).setCell ⟨w.heap.size, 2, none⟩ _).setCell ⟨w.heap.size, 3, none⟩ _).setCell ⟨w.heap.size, 4, none⟩ _) = V8
      have hV9 : V8 = putRow w8 w.heap.size 0 [.int .i64 3, .int .i64 (p5 : Int), .int .i64 (x.2 : Int), .int .u32 (wat4 x.1 0), .int .u16 (wat x.1 4)] := hV.symm
      have hb8 : But (fun b => b = w.heap.size) w8 V8 := by rw [hV9]; exact putRow_but (E := fun b => b = w.heap.size) (n := w.heap.size) rfl _ _ _ _ (But.refl _ _)
      have p8 := putRow_all [.int .i64 3, .int .i64 (p5 : Int), .int .i64 (x.2 : Int), .int .u32 (wat4 x.1 0), .int .u16 (wat x.1 4)] R8.out rfl
      rw [← hV9] at p8
      clear hV hV9 kR fR kB
      have P8 := block_cell p8
      have hw8 : Below w.heap.size w V8 := L8.trans (hb8.below L8.size (fun k h e => by omega))
      exact bodyPost_ret (v := fdY 3 p5 x.2 (wat4 x.1 0) (wat x.1 4)) (by unfold fdY; simp [results, Tryd.results5, go_sem, P8]) rfl ⟨by rw [EP.out]; unfold fd3; rw [if_neg (by have := HPS.out; omega), E5.out, HX.out]; exact congrArg _ (if_pos ⟨HW.out, HT.out⟩).symm, hw8⟩
  · rintro a' W ⟨⟨u0, u1, u2, u3, u5, u6, u7, u8, u9, u10, u11, u12, u13, u14, u15, u16, u17, u18, u19, u20, u21, u22, u23, u24, u25, u26, u27, u28, u29, u30, u31, u32, u33, u34, u35, u36, u37, u38, u39, u40, u41, u42, u43, u44, u45, u46, u47, u48, u49, u50, u51, u52, u53, u54, u55, u56, u57, u58, u59, u60, u61, u62, u63, u64, u65, u66, u67, u68, u69, u70, u71, rfl, hR, hb, hle⟩, hfd⟩
    have HFD := hide hfd
    clear hfd
    have kR := block_cell hR
    have fR := block_frozen hR
    have HR := hide hR
    clear hR
    go_wp2
    simp only [Exit.jump]
    generalize hV : (((((W.setCell ⟨w.heap.size, 0, none⟩ _).setCell ⟨w.heap.size, 1, none⟩ _).setCell ⟨w.heap.size, 2, none⟩ _).setCell ⟨w.heap.size, 3, none⟩ _).setCell ⟨w.heap.size, 4, none⟩ _) = V8
    have hV9 : V8 = putRow W w.heap.size 0 [.int .i64 0, .int .i64 0, .int .i64 0, .int .u32 0, .int .u16 0] := hV.symm
    have hb8 : But (fun b => b = w.heap.size) W V8 := by rw [hV9]; exact putRow_but (E := fun b => b = w.heap.size) (n := w.heap.size) rfl _ _ _ _ (But.refl _ _)
    have p8 := putRow_all [.int .i64 0, .int .i64 0, .int .i64 0, .int .u32 0, .int .u16 0] HR.out rfl
    rw [← hV9] at p8
    clear hV hV9 kR fR
    have P8 := block_cell p8
    have hw8 : Below w.heap.size w V8 := hb.trans (hb8.below hb.size (fun k h e => by omega))
    exact bodyPost_ret (v := .tuple #[.agg #[.int .i64 0, .int .i64 0, .int .i64 0, .int .u32 0, .int .u16 0], .bool false]) (by simp [results, Tryd.results5, go_sem, P8]) rfl ⟨by rw [HFD.out]; rfl, hw8⟩
end Go.Proofs.YtfnlakpjepjhbaaDoor

/- Package ftp: Find of a 229. -/
namespace Go.Proofs.YtfnlakpjepjhbaaDoor
open Go.RowKit Go.Shelf
set_option maxRecDepth 100000
set_option linter.unusedVariables false
set_option linter.unusedSimpArgs false

def tBars : ByteArray := ⟨#[124, 124, 124]⟩
def tEnd4 : ByteArray := ⟨#[124, 41]⟩
def fd4 (zs : List Int) (p : Nat) : Value := if pst zs p 40 < 0 then fdN else if tkB zs (p40 zs p) tBars = false then fdN else if portB zs (p40 zs p + 3) = false then fdN else if tkB zs (dgZ zs (p40 zs p + 3)) tEnd4 = false then fdN else fdY 4 ((p40 zs p + 3 : Nat) : Int) (dgZ zs (p40 zs p + 3) : Nat) 0 (portV zs (p40 zs p + 3))

set_option maxHeartbeats 4000000 in
theorem find_k4 (sv : Value) (back : Bool) (bb off cp : Nat) (zs : List Int) (w : World) (hl : zs.length ≤ 1000) (hI : Rd w.heap.size w (.slice (some ⟨bb, off, none⟩) zs.length cp) zs) (hz : Mt.By zs) (hcp : zs.length < cp) (hk : (kdV zs 0 back).1 = 4) (hp4 : (kdV zs 0 back).2 ≤ zs.length) (HL : ∀ W, Later w W → Calls Tryd.prog 13 #[sv] W fun e w' => e = .returned (.slice (some ⟨bb, off, none⟩) zs.length cp) ∧ Later W w') :
    Calls Tryd.prog 5 #[sv, .bool back] w fun e w' => e = .returned (fd4 zs (kdV zs 0 back).2) ∧ Below w.heap.size w w' := by
  have HL' := hide HL
  clear HL
  go_enter Tryd.func5, Tryd.ntmps5
  go_wp2
  refine wp_scope_jumps 0 (fun a W => GU w.heap.size w a W ∧ fd4 zs (kdV zs 0 back).2 = fdN) (fun _ _ => 0) rfl ?_ ?_
  · have l1 : Later w (w.alloc (.cells #[.int .i64 0, .int .i64 0, .int .i64 0, .int .u32 0, .int .u16 0] 31)) := later_allocR _ _
    have R1 := hide (heap_alloc_new w (.cells #[.int .i64 0, .int .i64 0, .int .i64 0, .int .u32 0, .int .u16 0] 31))
    go_wp2_with fail
    refine (HL'.out _ l1).mono ?_
    rintro e w2 ⟨rfl, l2⟩
    have R2 := hide ((l2.block w.heap.size (Array.getElem?_eq_some_iff.1 R1.out).1).trans R1.out)
    have B3 := hide (show RB (w2.alloc (.cells (rrc (.slice (some ⟨bb, off, none⟩) zs.length cp) ⟨0, 0, 0, 0, 0, 0⟩) 49)) w2.heap.size (.slice (some ⟨bb, off, none⟩) zs.length cp) ⟨0, 0, 0, 0, 0, 0⟩ from heap_alloc_new w2 _)
    have l3 := later_allocR w2 (.cells (rrc (.slice (some ⟨bb, off, none⟩) zs.length cp) ⟨0, 0, 0, 0, 0, 0⟩) 49)
    have L2 := l1.trans l2
    have hlt : w.heap.size < w2.heap.size := Nat.lt_of_lt_of_le (Array.getElem?_eq_some_iff.1 R1.out).1 l2.size
    go_upto_region 2 with fail
    rw [show (w2.alloc (.cells (rrc (.slice (some ⟨bb, off, none⟩) zs.length cp) ⟨0, 0, 0, 0, 0, 0⟩) 49)) = w2.alloc (.cells #[.slice (some ⟨bb, off, none⟩) zs.length cp, .int .i64 0, .int .i64 0, .int .i64 0, .int .i64 0, .int .u32 0, .int .u16 0] 49) from rfl] at B3 l3
    generalize w2.alloc _ = w3 at *
    generalize w2.heap.size = rb at *
    have L3 : Below w.heap.size w w3 := L2.trans l3
    have hrb : w.heap.size < rb := hlt
    have HK := hide (kind_any rb bb off cp w.heap.size zs back _ w3 B3.out (hI.below L3) hl (Nat.zero_le _) L3.size (by omega))
    rw [show (Rr.at0 ⟨0, 0, 0, 0, 0, 0⟩) = 0 from rfl, hk] at HK
    generalize hp4e : (kdV zs 0 back).2 = p4 at *
    have EP := hide hp4e
    clear hp4e
    have R3 := hide ((l3.block w.heap.size (Array.getElem?_eq_some_iff.1 R2.out).1).trans R2.out)
    go_wp2_with fail
    refine HK.out.mono ?_
    rintro e w4 ⟨rfl, o4, b4⟩
    have B4 := hide b4
    have o4' : But (fun g => g = rb) w3 w4 := o4
    have R4 := hide ((o4'.block w.heap.size (Array.getElem?_eq_some_iff.1 R3.out).1 (by omega)).trans R3.out)
    have L4 : Below w.heap.size w w4 := L3.trans (o4'.below L3.size (fun k hk e => by omega))
    clear b4 o4
    have hlt4 : rb < w4.heap.size := (Array.getElem?_eq_some_iff.1 B4.out).1
    have kB := block_cell B4.out
    have fB := block_frozen B4.out
    unfold rrc atR at kB
    have B5 := hide (heap_set1 B4.out 2 (.int .i64 4))
    have b5 : But (fun q => q = rb) w4 (w4.setCell ⟨rb, 2, none⟩ (.int .i64 4)) := But.setCell (E := fun q => q = rb) (But.refl _ _) (p := ⟨rb, 2, none⟩) rfl _
    go_upto_region 3 with fail
    generalize w4.setCell ⟨rb, 2, none⟩ _ = w5 at *
    clear kB fB
    have B5' : w5.heap[rb]? = some (.cells #[.slice (some ⟨bb, off, none⟩) zs.length cp, .int .i64 (p4 : Int), .int .i64 4, .int .i64 0, .int .i64 0, .int .u32 0, .int .u16 0] 49 (0, 0)) := by have := B5.out; simp [rrc, atR] at this; exact this
    have kB := block_cell B5'
    have R5 := hide ((b5.block w.heap.size (by omega) (by omega)).trans R4.out)
    have L5 : Below w.heap.size w w5 := L4.trans (b5.below L4.size (fun k hk e => by omega))
    have hI5 : Rd w.heap.size w5 (.slice (some ⟨bb, off, none⟩) zs.length cp) zs := hI.below L5
    have hlt5 : rb < w5.heap.size := (Array.getElem?_eq_some_iff.1 B5').1
    have HPA := hide (past_any rb bb off cp w.heap.size zs 40 ⟨p4, 4, 0, 0, 0, 0⟩ w5 B5' hI5 hl hcp hp4 L5.size (by omega))
    have hpr := pst_rng 40 hp4
    have HP5 : Hid (((p4 : Int) + (pst zs p4 40 + 1)).toNat = p40 zs p4) := rfl
    simp only [show (Rr.at0 ⟨p4, 4, 0, 0, 0, 0⟩) = p4 from rfl, HP5.out] at HPA
    have hp5 : p40 zs p4 ≤ zs.length := by unfold p40; omega
    obtain ⟨p5, hp5e⟩ : ∃ p5, p40 zs p4 = p5 := ⟨_, rfl⟩
    rw [hp5e] at HPA hp5
    have E5 := hide hp5e
    clear hp5e HP5 kB
    by_cases hps : 0 ≤ pst zs p4 40
    case neg =>
      have t0 : decide (0 ≤ pst zs p4 40) = false := by simp; omega
      have HPS := hide hps
      rw [t0] at HPA
      clear hps t0 hpr
      have kB := block_cell B5'
      go_wp2_with fail
      refine HPA.out.mono ?_
      rintro e w6 ⟨rfl, o6, b6⟩
      have o6' : But (fun g => g = rb) w5 w6 := o6
      have R6 := hide ((o6'.block w.heap.size (by omega) (by omega)).trans R5.out)
      have L6 : Below w.heap.size w w6 := L5.trans (o6'.below L5.size (fun k hk e => by omega))
      clear kB b6 o6
      go_wp2_with fail
      go_step3
      exact ⟨rfl, ⟨_, _, _, _, _, _, _, _, _, _, _, _, _, _, _, _, _, _, _, _, _, _, _, _, _, _, _, _, _, _, _, _, _, _, _, _, _, _, _, _, _, _, _, _, _, _, _, _, _, _, _, _, _, _, _, _, _, _, _, _, _, _, _, _, _, _, _, _, _, _, _, rfl, R6.out, L6, Nat.le_refl _⟩, by rw [EP.out]; unfold fd4; exact if_pos (by have := HPS.out; omega)⟩
    have t0 : decide (0 ≤ pst zs p4 40) = true := by simp; omega
    have HPS : Hid (¬ pst zs p4 40 < 0) := by show ¬ _; omega
    rw [t0] at HPA
    clear hps t0 hpr
    have kB := block_cell B5'
    go_wp2_with fail
    refine HPA.out.mono ?_
    rintro e w6 ⟨rfl, o6, b6⟩
    have o6' : But (fun g => g = rb) w5 w6 := o6
    have R6 := hide ((o6'.block w.heap.size (by omega) (by omega)).trans R5.out)
    have L6 : Below w.heap.size w w6 := L5.trans (o6'.below L5.size (fun k hk e => by omega))
    have b6' : RB w6 rb (.slice (some ⟨bb, off, none⟩) zs.length cp) ⟨p5, 4, 0, 0, 0, 0⟩ := b6
    have HT1 := hide (take_any rb bb off cp w.heap.size zs tBars ⟨p5, 4, 0, 0, 0, 0⟩ w6 b6' (hI.below L6) hl (by decide) hp5 L6.size)
    rw [show (Rr.at0 ⟨p5, 4, 0, 0, 0, 0⟩) = p5 from rfl, show tBars.size = 3 from rfl] at HT1
    have hlt6 : rb < w6.heap.size := (Array.getElem?_eq_some_iff.1 b6').1
    clear kB b6 o6 b6'
    cases ht1 : tkB zs p5 tBars with
    | false =>
      rw [ht1, if_neg (by simp)] at HT1
      have H1 := hide ht1
      clear ht1
      unfold tBars at HT1
      go_wp2_with fail
      refine HT1.out.mono ?_
      rintro e w7 ⟨rfl, o7, b7⟩
      have o7' : But (fun g => g = rb) w6 w7 := o7
      have R7 := hide ((o7'.block w.heap.size (by omega) (by omega)).trans R6.out)
      have L7 : Below w.heap.size w w7 := L6.trans (o7'.below L6.size (fun k hk e => by omega))
      clear o7 b7
      go_wp2_with fail
      go_step3
      exact ⟨rfl, ⟨_, _, _, _, _, _, _, _, _, _, _, _, _, _, _, _, _, _, _, _, _, _, _, _, _, _, _, _, _, _, _, _, _, _, _, _, _, _, _, _, _, _, _, _, _, _, _, _, _, _, _, _, _, _, _, _, _, _, _, _, _, _, _, _, _, _, _, _, _, _, _, rfl, R7.out, L7, Nat.le_refl _⟩, by rw [EP.out]; unfold fd4; rw [if_neg (by have := HPS.out; omega), E5.out]; exact if_pos H1.out⟩
    | true =>
    have h53 : p5 + 3 ≤ zs.length := by unfold tkB at ht1; simp only [Bool.and_eq_true, decide_eq_true_eq] at ht1; exact ht1.1
    rw [ht1, if_pos rfl] at HT1
    have H1 := hide ht1
    clear ht1
    unfold tBars at HT1
    go_wp2_with fail
    refine HT1.out.mono ?_
    rintro e w7 ⟨rfl, o7, b7⟩
    have o7' : But (fun g => g = rb) w6 w7 := o7
    have R7 := hide ((o7'.block w.heap.size (by omega) (by omega)).trans R6.out)
    have L7 : Below w.heap.size w w7 := L6.trans (o7'.below L6.size (fun k hk e => by omega))
    have b7' : RB w7 rb (.slice (some ⟨bb, off, none⟩) zs.length cp) ⟨p5 + 3, 4, 0, 0, 0, 0⟩ := b7
    have HLO := hide (lone_any rb bb off cp w.heap.size zs hz ⟨p5 + 3, 4, 0, 0, 0, 0⟩ w7 b7' (hI.below L7) hl h53 L7.size (by omega))
    have hlt7 : rb < w7.heap.size := (Array.getElem?_eq_some_iff.1 b7').1
    rw [show (Rr.at0 ⟨p5 + 3, 4, 0, 0, 0, 0⟩) = p5 + 3 from rfl, show lonR zs ⟨p5 + 3, 4, 0, 0, 0, 0⟩ = ⟨dgZ zs (p5 + 3), 4, ((p5 + 3 : Nat) : Int), (dgZ zs (p5 + 3) : Int), 0, portV zs (p5 + 3)⟩ from rfl] at HLO
    have hdz : dgZ zs (p5 + 3) ≤ zs.length := (dgZ_le h53).2
    clear o7 b7 b7'
    obtain ⟨dz, hdze⟩ : ∃ z, dgZ zs (p5 + 3) = z := ⟨_, rfl⟩
    obtain ⟨pv, hpve⟩ : ∃ z, portV zs (p5 + 3) = z := ⟨_, rfl⟩
    rw [hdze, hpve] at HLO
    rw [hdze] at hdz
    have ED := hide hdze
    have EV := hide hpve
    clear hdze hpve
    cases hpb : portB zs (p5 + 3) with
    | false =>
      rw [hpb] at HLO
      have H2 := hide hpb
      clear hpb
      go_wp2_with fail
      refine HLO.out.mono ?_
      rintro e w8 ⟨rfl, o8, b8⟩
      have o8' : But (fun g => g = rb) w7 w8 := o8
      have R8 := hide ((o8'.block w.heap.size (by omega) (by omega)).trans R7.out)
      have L8 : Below w.heap.size w w8 := L7.trans (o8'.below L7.size (fun k hk e => by omega))
      clear o8 b8
      go_wp2_with fail
      go_step3
      exact ⟨rfl, ⟨_, _, _, _, _, _, _, _, _, _, _, _, _, _, _, _, _, _, _, _, _, _, _, _, _, _, _, _, _, _, _, _, _, _, _, _, _, _, _, _, _, _, _, _, _, _, _, _, _, _, _, _, _, _, _, _, _, _, _, _, _, _, _, _, _, _, _, _, _, _, _, rfl, R8.out, L8, Nat.le_refl _⟩, by rw [EP.out]; unfold fd4; rw [if_neg (by have := HPS.out; omega), E5.out]; rw [if_neg (by rw [H1.out]; simp)]; exact if_pos H2.out⟩
    | true =>
    rw [hpb] at HLO
    have H2 := hide hpb
    clear hpb
    go_wp2_with fail
    refine HLO.out.mono ?_
    rintro e w8 ⟨rfl, o8, b8⟩
    have o8' : But (fun g => g = rb) w7 w8 := o8
    have R8 := hide ((o8'.block w.heap.size (by omega) (by omega)).trans R7.out)
    have L8 : Below w.heap.size w w8 := L7.trans (o8'.below L7.size (fun k hk e => by omega))
    have hlt8 : rb < w8.heap.size := (Array.getElem?_eq_some_iff.1 b8).1
    have HT3 := hide (take_any rb bb off cp w.heap.size zs tEnd4 ⟨dz, 4, ((p5 + 3 : Nat) : Int), (dz : Int), 0, pv⟩ w8 b8 (hI.below L8) hl (by decide) hdz L8.size)
    rw [show (Rr.at0 ⟨dz, 4, ((p5 + 3 : Nat) : Int), (dz : Int), 0, pv⟩) = dz from rfl] at HT3
    clear o8 b8
    cases htk : tkB zs dz tEnd4 with
    | false =>
      rw [htk, if_neg (by simp)] at HT3
      have H3 := hide htk
      clear htk
      unfold tEnd4 at HT3
      go_wp2_with fail
      refine HT3.out.mono ?_
      rintro e w9 ⟨rfl, o9, b9⟩
      have o9' : But (fun g => g = rb) w8 w9 := o9
      have R9 := hide ((o9'.block w.heap.size (by omega) (by omega)).trans R8.out)
      have L9 : Below w.heap.size w w9 := L8.trans (o9'.below L8.size (fun k hk e => by omega))
      clear o9 b9
      go_wp2_with fail
      go_step3
      exact ⟨rfl, ⟨_, _, _, _, _, _, _, _, _, _, _, _, _, _, _, _, _, _, _, _, _, _, _, _, _, _, _, _, _, _, _, _, _, _, _, _, _, _, _, _, _, _, _, _, _, _, _, _, _, _, _, _, _, _, _, _, _, _, _, _, _, _, _, _, _, _, _, _, _, _, _, rfl, R9.out, L9, Nat.le_refl _⟩, by rw [EP.out]; unfold fd4; rw [if_neg (by have := HPS.out; omega), E5.out]; rw [if_neg (by rw [H1.out]; simp), if_neg (by rw [H2.out]; simp), ED.out]; exact if_pos H3.out⟩
    | true =>
      rw [htk, if_pos rfl] at HT3
      have H3 := hide htk
      clear htk
      unfold tEnd4 at HT3
      go_wp2_with fail
      refine HT3.out.mono ?_
      rintro e w9 ⟨rfl, o9, b9⟩
      have o9' : But (fun g => g = rb) w8 w9 := o9
      have R9 := hide ((o9'.block w.heap.size (by omega) (by omega)).trans R8.out)
      have L9 : Below w.heap.size w w9 := L8.trans (o9'.below L8.size (fun k hk e => by omega))
      have kB := block_cell b9
      unfold rrc atR at kB
      have kR := block_cell R9.out
      have fR := block_frozen R9.out
      go_wp2_with fail
      simp only [Exit.jump]
      generalize hV : (((((w9.setCell ⟨w.heap.size, 0, none⟩ _).setCell ⟨w.heap.size, 1, none⟩ _).setCell ⟨w.heap.size, 2, none⟩ _).setCell ⟨w.heap.size, 3, none⟩ _).setCell ⟨w.heap.size, 4, none⟩ _) = V8
      have hV9 : V8 = putRow w9 w.heap.size 0 [.int .i64 4, .int .i64 ((p5 + 3 : Nat) : Int), .int .i64 (dz : Int), .int .u32 0, .int .u16 pv] := hV.symm
      have hb8 : But (fun b => b = w.heap.size) w9 V8 := by rw [hV9]; exact putRow_but (E := fun b => b = w.heap.size) (n := w.heap.size) rfl _ _ _ _ (But.refl _ _)
      have p8 := putRow_all [.int .i64 4, .int .i64 ((p5 + 3 : Nat) : Int), .int .i64 (dz : Int), .int .u32 0, .int .u16 pv] R9.out rfl
      rw [← hV9] at p8
      clear hV hV9 kR fR kB
      have P8 := block_cell p8
      have hw8 : Below w.heap.size w V8 := L9.trans (hb8.below L9.size (fun k h e => by omega))
      exact bodyPost_ret (v := fdY 4 ((p5 + 3 : Nat) : Int) dz 0 pv) (by unfold fdY; simp [results, Tryd.results5, go_sem, P8]) rfl ⟨by rw [EP.out]; unfold fd4; rw [if_neg (by have := HPS.out; omega), E5.out, if_neg (by rw [H1.out]; simp), if_neg (by rw [H2.out]; simp), ED.out, if_neg (by rw [H3.out]; simp), EV.out], hw8⟩
  · rintro a' W ⟨⟨u0, u1, u2, u3, u5, u6, u7, u8, u9, u10, u11, u12, u13, u14, u15, u16, u17, u18, u19, u20, u21, u22, u23, u24, u25, u26, u27, u28, u29, u30, u31, u32, u33, u34, u35, u36, u37, u38, u39, u40, u41, u42, u43, u44, u45, u46, u47, u48, u49, u50, u51, u52, u53, u54, u55, u56, u57, u58, u59, u60, u61, u62, u63, u64, u65, u66, u67, u68, u69, u70, u71, rfl, hR, hb, hle⟩, hfd⟩
    have HFD := hide hfd
    clear hfd
    have kR := block_cell hR
    have fR := block_frozen hR
    have HR := hide hR
    clear hR
    go_wp2
    simp only [Exit.jump]
    generalize hV : (((((W.setCell ⟨w.heap.size, 0, none⟩ _).setCell ⟨w.heap.size, 1, none⟩ _).setCell ⟨w.heap.size, 2, none⟩ _).setCell ⟨w.heap.size, 3, none⟩ _).setCell ⟨w.heap.size, 4, none⟩ _) = V8
    have hV9 : V8 = putRow W w.heap.size 0 [.int .i64 0, .int .i64 0, .int .i64 0, .int .u32 0, .int .u16 0] := hV.symm
    have hb8 : But (fun b => b = w.heap.size) W V8 := by rw [hV9]; exact putRow_but (E := fun b => b = w.heap.size) (n := w.heap.size) rfl _ _ _ _ (But.refl _ _)
    have p8 := putRow_all [.int .i64 0, .int .i64 0, .int .i64 0, .int .u32 0, .int .u16 0] HR.out rfl
    rw [← hV9] at p8
    clear hV hV9 kR fR
    have P8 := block_cell p8
    have hw8 : Below w.heap.size w V8 := hb.trans (hb8.below hb.size (fun k h e => by omega))
    exact bodyPost_ret (v := .tuple #[.agg #[.int .i64 0, .int .i64 0, .int .i64 0, .int .u32 0, .int .u16 0], .bool false]) (by simp [results, Tryd.results5, go_sem, P8]) rfl ⟨by rw [HFD.out]; rfl, hw8⟩
end Go.Proofs.YtfnlakpjepjhbaaDoor

/- Package ftp: Find, of any bytes. -/
namespace Go.Proofs.YtfnlakpjepjhbaaDoor
open Go.RowKit Go.Shelf
set_option maxRecDepth 100000
set_option linter.unusedVariables false
set_option linter.unusedSimpArgs false

/-- What a line names, without its end. -/
def fnd (zs : List Int) (back : Bool) : Value := if (kdV zs 0 back).1 = 1 then fd1 zs (kdV zs 0 back).2 else if (kdV zs 0 back).1 = 2 then fd2 zs (kdV zs 0 back).2 else if (kdV zs 0 back).1 = 3 then fd3 zs (kdV zs 0 back).2 else if (kdV zs 0 back).1 = 4 then fd4 zs (kdV zs 0 back).2 else fdN
/-- What bytes name. -/
def fndB (zs : List Int) (back : Bool) : Value := if oneL zs = true then fnd (zs.take (zs.length - 2)) back else fdN
theorem kdV_rng (zs : List Int) (back : Bool) : ((kdV zs 0 back).1 = 0 ∨ (kdV zs 0 back).1 = 1 ∨ (kdV zs 0 back).1 = 2 ∨ (kdV zs 0 back).1 = 3 ∨ (kdV zs 0 back).1 = 4) ∧ (kdV zs 0 back).2 ≤ zs.length := by
  unfold kdV
  have h1 : tkB zs 0 tPort = true → 5 ≤ zs.length := fun h => by have := tkB_le h; simpa [tPort, ByteArray.size] using this
  have h2 : tkB zs 0 tEprt = true → 5 ≤ zs.length := fun h => by have := tkB_le h; simpa [tEprt, ByteArray.size] using this
  have h3 : tkB zs 0 t227 = true → 4 ≤ zs.length := fun h => by have := tkB_le h; simpa [t227, ByteArray.size] using this
  have h4 : tkB zs 0 t229 = true → 4 ≤ zs.length := fun h => by have := tkB_le h; simpa [t229, ByteArray.size] using this
  split
  · split
    · rename_i h; exact ⟨by simp, by have := h1 h; omega⟩
    · split
      · rename_i h; exact ⟨by simp, by have := h2 h; omega⟩
      · exact ⟨by simp, by simp⟩
  · split
    · rename_i h; exact ⟨by simp, by have := h3 h; omega⟩
    · split
      · rename_i h; exact ⟨by simp, by have := h4 h; omega⟩
      · exact ⟨by simp, by simp⟩

theorem find_line (sv : Value) (back : Bool) (bb off cp : Nat) (zs : List Int) (w : World) (hl : zs.length ≤ 1000) (hI : Rd w.heap.size w (.slice (some ⟨bb, off, none⟩) zs.length cp) zs) (hz : Mt.By zs) (hcp : zs.length < cp) (HL : ∀ W, Later w W → Calls Tryd.prog 13 #[sv] W fun e w' => e = .returned (.slice (some ⟨bb, off, none⟩) zs.length cp) ∧ Later W w') :
    Calls Tryd.prog 5 #[sv, .bool back] w fun e w' => e = .returned (fnd zs back) ∧ Below w.heap.size w w' := by
  obtain ⟨hk, hp⟩ := kdV_rng zs back
  unfold fnd
  rcases hk with hk | hk | hk | hk | hk
  · rw [if_neg (by omega), if_neg (by omega), if_neg (by omega), if_neg (by omega)]
    exact find_k0 sv back bb off cp zs w hl hI hk HL
  · rw [if_pos hk]
    exact find_k1 sv back bb off cp zs w hl hI hz (by omega) hk hp HL
  · rw [if_neg (by omega), if_pos hk]
    exact find_k2 sv back bb off cp zs w hl hI hz (by omega) hk hp HL
  · rw [if_neg (by omega), if_neg (by omega), if_pos hk]
    exact find_k3 sv back bb off cp zs w hl hI hz hcp hk hp HL
  · rw [if_neg (by omega), if_neg (by omega), if_neg (by omega), if_pos hk]
    exact find_k4 sv back bb off cp zs w hl hI hz hcp hk hp HL
theorem oneL_len {zs : List Int} (h : oneL zs = true) : 2 ≤ zs.length ∧ zs.length ≤ 128 := by
  unfold oneL endB at h
  simp at h
  omega

theorem find_any (sv : Value) (zs : List Int) (back : Bool) (w : World) (hT : TabR w) (hB : Mt.By zs) (hI : Rd w.heap.size w sv zs) :
    Calls Tryd.prog 5 #[sv, .bool back] w fun e w' => e = .returned (fndB zs back) ∧ Below w.heap.size w w' := by
  rcases hI with ⟨a, c, rfl, rfl, hc⟩ | ⟨bb, off, cp, rfl, hne, hl, hm, hb, hcell⟩
  · rw [show fndB [] back = fdN from rfl]
    exact find_nil _ back w (fun W _ => lineOf_nil a c W)
  · have hI : Rd w.heap.size w (.slice (some ⟨bb, off, none⟩) zs.length cp) zs := .inr ⟨bb, off, cp, rfl, hne, hl, hm, hb, hcell⟩
    cases h1 : oneL zs with
    | false =>
      rw [show fndB zs back = fdN from by unfold fndB; rw [if_neg (by rw [h1]; simp)]]
      exact find_nil _ back w (fun W l => (lineOf_some bb off cp zs W (hT.later l) hB (hI.later l)).mono fun e w' h => ⟨by rw [h.1, lineV_no h1], h.2⟩)
    | true =>
      obtain ⟨h2, h128⟩ := oneL_len h1
      have hl2 : (zs.take (zs.length - 2)).length = zs.length - 2 := by rw [List.length_take]; omega
      rw [show fndB zs back = fnd (zs.take (zs.length - 2)) back from by unfold fndB; rw [if_pos h1]]
      refine find_line _ back bb off cp (zs.take (zs.length - 2)) w (by omega) ?_ (hB.take _) (by omega) (fun W l => ?_)
      · rw [hl2]; exact hI.take _ (by omega)
      · rw [hl2]
        exact (lineOf_some bb off cp zs W (hT.later l) hB (hI.later l)).mono fun e w' h => ⟨by rw [h.1, lineV_yes h1], h.2⟩
end Go.Proofs.YtfnlakpjepjhbaaDoor

/- Package ftp: numbers as text. -/
namespace Go.Proofs.YtfnlakpjepjhbaaDoor
open Go.RowKit Go.Shelf
set_option maxRecDepth 100000
set_option linter.unusedVariables false
set_option linter.unusedSimpArgs false

/-- A string's bytes as numbers. -/
def nmsB (s : ByteArray) : List Int := s.data.toList.map fun b => (b.toNat : Int)
theorem nmsB_len (s : ByteArray) : (nmsB s).length = s.size := by unfold nmsB; rw [List.length_map, Array.length_toList]; rfl
theorem nmsB_by (s : ByteArray) : Mt.By (nmsB s) := fun z hz => by
  simp only [nmsB, List.mem_map] at hz
  obtain ⟨b, _, rfl⟩ := hz
  have := b.toNat_lt
  omega
theorem conv_later (w : World) (e : TypeId) (s : ByteArray) : Later w (Lib.bytesWorld w e s) :=
  ⟨rfl, rfl, rfl, by rw [Lib.bytesWorld_size]; omega, fun i hi => Lib.bytesWorld_at_old w e s i hi⟩
theorem conv_rdS (w : World) (e : TypeId) (s : ByteArray) (hs : s.size ≤ 140737488355328) : Rd (Lib.bytesWorld w e s).heap.size (Lib.bytesWorld w e s) (.slice (some ⟨w.heap.size, 0, none⟩) s.size (grownCap w s.size 0 e)) (nmsB s) := by
  have hc := grownCap_le_maxLen w s.size 0 e (by unfold maxLen; omega)
  unfold maxLen at hc
  by_cases h0 : s.size = 0
  · rw [h0] at hc ⊢
    exact .inl ⟨_, _, rfl, List.eq_nil_of_length_eq_zero ((nmsB_len s).trans h0), by omega, fun h => by cases h⟩
  · refine .inr ⟨w.heap.size, 0, _, by rw [nmsB_len], fun h => h0 (by rw [← nmsB_len, h]; rfl), by rw [nmsB_len]; exact grownCap_ge _ _ _ _, by omega, by rw [Lib.bytesWorld_size]; omega, fun j hj => ?_⟩
    rw [nmsB_len] at hj
    rw [Nat.zero_add, Lib.bytesWorld_cell w e s j hj]
    have hj' : j < s.data.toList.length := by rw [Array.length_toList]; exact hj
    simp only [nmsB, List.getElem?_map, List.getD, List.getElem?_eq_getElem hj', Option.map_some, Option.getD_some]
/-- The library's table of powers of ten. -/
def TabI (w : World) : Prop := Lib.TabIs Tryd.prog w "internal/strconv.uint64pow10" .u64 Lib.pow10Tab
theorem TabI.later {A B : World} (h : TabI A) (b : Later A B) : TabI B := by
  unfold TabI Lib.TabIs World.var? at *
  cases hg : Tryd.prog.globalNamed "internal/strconv.uint64pow10" with
  | none => simp [hg] at h
  | some g =>
    simp only [hg, Option.bind_some] at h ⊢
    have hlt : g < A.heap.size := by
      rcases Nat.lt_or_ge g A.heap.size with h' | h'
      · exact h'
      · simp [Array.getElem?_eq_none h'] at h
    rw [b.block g hlt]
    exact h
/-- A number's digits. -/
def decB (n : Nat) : ByteArray := ⟨(Lib.decDigits n).toArray⟩
theorem itoa_any (n : Nat) (w : World) (hT : TabI w) (hn : n ≤ 1000000) :
    Calls Tryd.prog 11 #[.int .i64 (n : Int)] w fun e w' => e = .returned (.string (decB n)) ∧ Below w.heap.size w w' := by
  refine (Any.strconv_Itoa itoaL (n : Int) (by omega) (by omega) w hT).mono ?_
  rintro e w' ⟨rfl, k, os, rfl⟩
  refine ⟨?_, Lib.below_grow _ _ (Nat.le_refl _) _ _⟩
  unfold Lib.itoa decB
  rw [if_neg (by omega)]
  rfl
theorem nDig_le : ∀ (k n : Nat), n < 10 ^ k → 1 ≤ k → (Lib.decDigits n).length ≤ k
  | 0, n, _, h => by omega
  | k + 1, n, h, _ => by
    rw [Lib.decDigits]
    split
    · simp
    · rw [List.length_append, List.length_singleton]
      have hk : 1 ≤ k := by
        rcases Nat.eq_zero_or_pos k with rfl | h'
        · simp at h; omega
        · exact h'
      have := nDig_le k (n / 10) (by rw [Nat.pow_succ] at h; omega) hk
      omega
theorem decB_size (n : Nat) (h : n ≤ 65535) : (decB n).size ≤ 5 := by
  have := nDig_le 5 n (by omega) (by omega)
  simpa [decB, ByteArray.size] using this

set_option maxHeartbeats 4000000 in
theorem text_4 (a : Int) (n : Nat) (w : World) (hT : TabI w) (hn : n ≤ 65535) :
    Calls Tryd.prog 4 #[.int .i64 4, .int .u32 a, .int .u16 (n : Int)] w fun e w' => ∃ x c, e = .returned (.slice x (nmsB (decB n)).length c) ∧ Rd w'.heap.size w' (.slice x (nmsB (decB n)).length c) (nmsB (decB n)) ∧ Below w.heap.size w w' := by
  have HI := hide (itoa_any n w hT (by omega))
  have hs := decB_size n hn
  have hcv := fun W => Lib.run_convert_string_bytes (P := Tryd.prog) W 9 26 5 (decB n) Tryd.underlying9 Tryd.underlying26 Tryd.underlying5
  have HR := hide (fun W => conv_rdS W 5 (decB n) (by omega))
  have HLn := hide (nmsB_len (decB n))
  generalize decB n = s at *
  have HS := hide hs
  clear hs
  go_enter Tryd.func4, Tryd.ntmps4
  go_wp2_with fail
  refine HI.out.mono ?_
  rintro e w1 ⟨rfl, b1⟩
  go_wp2_with fail
  go_ret
  rw [HLn.out]
  exact ⟨_, _, rfl, HR.out w1, Later.trans b1 (conv_later w1 _ s)⟩

/-- A line, and what it names. -/
def zsL : List Int := [80, 79, 82, 84, 32, 49, 48, 44, 48, 44, 48, 44, 50, 44, 52, 44, 49, 13, 10]
theorem fnd_zsL : fndB zsL false = fdY 1 5 17 167772162 1025 := by kernel_rfl
theorem zsL_by : Mt.By zsL := by
  have h : ∀ z ∈ zsL, 0 ≤ z ∧ z ≤ 255 := by decide
  exact h
theorem dec7 : decB 7 = ⟨#[55]⟩ := by unfold decB; rw [Lib.decDigits, dif_pos (by decide)]; rfl
theorem rd_mark (l : List Int) (e : TypeId) (m : Nat × Nat) (w : World) (hne : l ≠ []) (hm : l.length ≤ 1000) : Rd (w.alloc (.cells (l.map (Value.int .u8)).toArray e m)).heap.size (w.alloc (.cells (l.map (Value.int .u8)).toArray e m)) (.slice (some ⟨w.heap.size, 0, none⟩) l.length l.length) l := by
  refine .inr ⟨w.heap.size, 0, l.length, rfl, hne, Nat.le_refl _, by omega, by simp, fun j hj => ?_⟩
  rw [Nat.zero_add, World.cell?_alloc_mark w _ _ _ j, List.getElem?_toArray, List.getElem?_map, List.getElem?_eq_getElem hj]
  rfl

end Go.Proofs.YtfnlakpjepjhbaaDoor

/- The library's tables that package ftp's road meets, as a row lists them. -/
namespace Go.Proofs.YtfnlakpjepjhbaaDoor
open Go.ChangeShapes Go.WideShapes Go.ChangeAt Go.RowKit Go.Lib Go.Shelf
set_option maxRecDepth 100000
set_option linter.unusedVariables false

/-- The tables, as the rows list them. -/
def laid5 : List (String × DataW Unit) := [("math/bits.deBruijn32tab", Rows.laid_math_bits_deBruijn32tab), ("math/bits.deBruijn64tab", Rows.laid_math_bits_deBruijn64tab), ("internal/strconv.uint64pow10", Rows.laid_internal_strconv_uint64pow10), ("unicode/utf8.acceptRanges", Rows.laid_unicode_utf8_acceptRanges), ("unicode/utf8.first", Rows.laid_unicode_utf8_first)]
def u8ren : Ren := ⟨fun n => n, fun | 5 => 5 | 119 => 136 | 138 => 138 | 139 => 139 | n => n, fun | 3 => 2 | 4 => 3 | n => n⟩
theorem u8types : U8Types Tryd.prog u8ren := { t5 := Tryd.underlying5, t119 := Tryd.underlying136, t138 := Tryd.underlying138, t139 := Tryd.underlying139 }
theorem u8extra : U8Extra Tryd.prog u8ren := ⟨by kernel_rfl, by kernel_rfl, by kernel_rfl, by kernel_rfl, by kernel_rfl, by kernel_rfl, by kernel_rfl⟩
theorem pow_ty : (Tryd.prog.globals[1]?).map (·.type) = some 127 := by kernel_rfl
theorem pow_nm : Tryd.prog.globalNamed "internal/strconv.uint64pow10" = some 1 := by kernel_rfl
theorem pow_c1 : Tryd.prog.cellsOf 107 = 1 := by kernel_rfl
theorem pow_c2 : Tryd.prog.cellsOf 127 = 20 := by kernel_rfl
theorem pow_eq : (Rows.laid_internal_strconv_uint64pow10 : DataW Unit) = tabData .u64 pow10Tab := by kernel_rfl

theorem tabs_of_laid {W : World} (h : laidMetH Tryd.prog laid5 W) : Lib.Utf8Tabs (runeL_ren.g 2) (runeL_ren.g 3) W ∧ TabI W := by
  have h' : laidMet Tryd.prog laid5 W := h
  refine ⟨?_, ?_⟩
  · have h3 := laidMet.reads h' (n := "unicode/utf8.first") (d := Rows.laid_unicode_utf8_first) (.tail _ (.tail _ (.tail _ (.tail _ (.head _)))))
    have h4 := laidMet.reads h' (n := "unicode/utf8.acceptRanges") (d := Rows.laid_unicode_utf8_acceptRanges) (.tail _ (.tail _ (.tail _ (.head _))))
    rw [show Rows.laid_unicode_utf8_first = firstData from Go.Pinned.utf8First_eq] at h3
    rw [show (Rows.laid_unicode_utf8_acceptRanges : DataW Unit) = acceptData by kernel_rfl] at h4
    exact utf8Tabs_of_readsT u8types u8extra h3 h4
  · have h3 := laidMet.reads h' (n := "internal/strconv.uint64pow10") (d := Rows.laid_internal_strconv_uint64pow10) (.tail _ (.tail _ (.head _)))
    rw [pow_eq] at h3
    obtain ⟨g, t, cs, fuel, p, hg, hty, hvar, hd⟩ := h3
    obtain rfl := Option.some.inj (pow_nm.symm.trans hg)
    obtain rfl := Option.some.inj (pow_ty.symm.trans hty)
    have hcs := cells_of_tab Tryd.underlying127 Tryd.underlying107 pow_c1 pow_c2 hd
    unfold TabI Lib.TabIs
    rw [hvar, ← hcs]
theorem maxlen_of_shaped {W : World} (h : W.ShapedOpen Tryd.prog) : ∃ m : Int, W.cell? ⟨0, 0, none⟩ = some (.int .i64 m) := by
  obtain ⟨cs, hc, hs, hr⟩ := h.1 0 #[.int .i64 0] 3 (by decide +kernel) (by kernel_rfl)
  obtain ⟨ts, hts, _, hcell⟩ := hr (by kernel_rfl)
  obtain rfl : [3] = ts := Option.some.inj ((show Tryd.prog.cellTypes Tryd.prog.depth 3 = some [3] by kernel_rfl).symm.trans hts)
  have h1 : cs.size = 1 := hs
  obtain ⟨v, hv⟩ : ∃ v, cs[0]? = some v := ⟨cs[0]'(by omega), Array.getElem?_eq_getElem (by omega)⟩
  obtain ⟨u, hu, hok⟩ := hcell 0 v hv
  obtain rfl : 3 = u := by simpa using hu
  unfold Cell.ok at hok
  rw [Tryd.underlying3] at hok
  cases v with
  | int k n =>
    simp only at hok
    obtain ⟨rfl, _⟩ := hok
    exact ⟨n, by rw [block_cell hc]; exact hv⟩
  | _ => simp at hok

/-- A world for the witness: the tables hold what their initialisers lay. -/
noncomputable def laidWorld5 (os : Os) : World :=
  let w0 := World.holding Tryd.prog os ⟨#[], #[], []⟩
  let put (h : Array Obj) (g : Nat) (cs : Array Value) : Array Obj := h.modify g fun
    | .cells _ t frozen => .cells cs t frozen
    | o => o
  let h1 := put w0.heap 2 (Lib.firstTab.map fun z => Value.int .u8 z).toArray
  let h2 := put h1 3 ((List.range 16).flatMap fun i => [Value.int .u8 (Lib.accLo i), Value.int .u8 (Lib.accHi i)]).toArray
  let h3 := put h2 1 (Lib.pow10Tab.map fun z => Value.int .u64 z).toArray
  let h4 := put h3 5 (Lib.deBruijn64tab.map fun (z : Nat) => Value.int .u8 (z : Int)).toArray
  let h5 := put h4 4 (Lib.deBruijn32tab.map fun (z : Nat) => Value.int .u8 (z : Int)).toArray
  { w0 with heap := h5 }
theorem laid_met5 (os : Os) (args : Array Value) : laidMet Tryd.prog laid5 ((laidWorld5 os).forCall (fun _ _ => 0) ⟨#[], args, []⟩).memory :=
  (LaidIn.of_run (l := laid5) [4, 5, 1, 3, 2] 8 (by kernel_rfl) (by kernel_rfl) (by kernel_rfl) (by kernel_rfl)).met
end Go.Proofs.YtfnlakpjepjhbaaDoor

/- How an argument that is a packet reads. -/
namespace Go.Proofs.YtfnlakpjepjhbaaDoor
open Go.ChangeShapes Go.WideShapes Go.ChangeAt Go.RowKit Go.Joins
set_option maxRecDepth 100000

theorem array9 {α : Type} {cs : Array α} (h : cs.size = 9) : ∃ c0 c1 c2 c3 c4 c5 c6 c7 c8, cs = #[c0, c1, c2, c3, c4, c5, c6, c7, c8] := by
  obtain ⟨l⟩ := cs
  match l, h with
  | [c0, c1, c2, c3, c4, c5, c6, c7, c8], _ => exact ⟨c0, c1, c2, c3, c4, c5, c6, c7, c8, rfl⟩
theorem list9 {α : Type} {l : List α} (h : l.length = 9) : ∃ c0 c1 c2 c3 c4 c5 c6 c7 c8, l = [c0, c1, c2, c3, c4, c5, c6, c7, c8] := by
  match l, h with
  | [c0, c1, c2, c3, c4, c5, c6, c7, c8], _ => exact ⟨c0, c1, c2, c3, c4, c5, c6, c7, c8, rfl⟩

/-- A field that is a slice of bytes. -/
theorem open_bytes {H : Type} {enc : TypeId × Value → H} {W : World} {n : Nat} {c : Value} {y : DataW H × List MemPlace} (h : DataW.trod enc Tryd.prog W 0 (fun _ => true) true n 26 [c] = some y) :
    ∃ zs, Mt.By zs ∧ Rd W.heap.size W c zs ∧ ((DataW.weights Tryd.prog 26 y.1).all (· ≤ reachBytes) = true → zs.length ≤ 140737488351232) := by
  obtain ⟨a, l, cp, hc⟩ := slice_form Tryd.underlying26 h
  cases hc
  rcases open_ints Tryd.underlying26 Tryd.underlying5 (by kernel_rfl) h with ⟨hcs, _⟩ | ⟨x, l', c', zs, hcs, _, hl, hm, hz, hx, hcell, hwz⟩
  · simp at hcs
    obtain ⟨rfl, rfl, rfl⟩ := hcs
    exact ⟨[], Mt.By.nil, .inl ⟨_, _, rfl, rfl, by omega, fun _ => rfl⟩, fun _ => by simp⟩
  · simp at hcs
    obtain ⟨rfl, rfl, rfl⟩ := hcs
    rw [if_pos rfl] at hz
    obtain ⟨ys, hB, hI⟩ := rd_of_row x l cp zs hl (by simpa [maxLen] using hm) hz hcell hwz W.heap.size (fun h => row_block x zs hcell (by omega))
    refine ⟨ys, hB, hI, fun hw => ?_⟩
    obtain ⟨a', cap', e', h1, _⟩ := hI.slice
    cases e'
    subst hx
    have hb : Tryd.prog.bytesOf 5 = 1 := by kernel_rfl
    simp only [DataW.weights, Tryd.underlying26, List.all_cons, Bool.and_eq_true, hb, reachBytes] at hw
    have h2 := hw.1
    simp [lits] at h2
    omega

end Go.Proofs.YtfnlakpjepjhbaaDoor
