/- Several texts in one. -/
import Derived.Test.YtohflohdbkamnaaGreatDoorX2
import Derived.Test.YtohflohdbkamnaaGreatDoorX11
import Derived.Deep.DeepCutAuto
import Derived.MapKept
import Derived.Test.YtohflohdbkamnaaGreatDoorX10
import Derived.Laws.IdiomRangeMap
import Derived.Maps.RangeRun
/- Package gate: a flow that may not begin: from outside uncalled, from inside without a rule. -/

namespace Go.Proofs.YtohflohdbkamnaaGreatDoor
open Go.RowKit Go.Shelf
set_option maxRecDepth 100000
set_option linter.unusedVariables false
set_option linter.unusedSimpArgs false

theorem peek_none (base gb : Nat) (ve : Value) (p x d a b now : Int) (W : World) (h : BL 174 base W gb ve []) :
    Calls Tryz.prog 234 #[.pointer (some ⟨gb, 0, none⟩), .agg #[.int .u8 p, .int .u32 x, .int .u32 d, .int .u16 a, .int .u16 b], .int .i64 now] W fun e w' => e = .returned (.tuple #[.agg #[.int .u8 0, .int .u32 0, .int .u32 0, .int .u16 0, .int .u16 0, .int .u32 0, .int .u16 0, .int .i64 0, .int .i64 0], .bool false]) ∧ Later W w' := peek12_any base gb ve [] ⟨p, x, d, a, b⟩ now W h (by simp)
theorem dnat_none (base gr : Nat) (vr : Value) (ls : List Ru) (p d b : Int) (W : World) (h : RL 166 base W gr vr ls) (hn : ∀ y ∈ ls, y.kind ≠ 2) :
    Calls Tryz.prog 237 #[.pointer (some ⟨gr, 0, none⟩), .int .u8 p, .int .u32 d, .int .u16 b] W fun e w' => e = .returned (.tuple #[.agg #[.int .i64 0, .int .u8 0, .int .u32 0, .int .i64 0, .int .u32 0, .int .u16 0, .int .u32 0, .int .u16 0], .bool false]) ∧ Later W w' := by
  have hf := fnd_no (p := dnB p d b) (l := ls) (fun y hy => by unfold dnB; simp [hn y hy])
  have := dnat_any base (some ⟨gr, 0, none⟩) ls p d b W (.inr ⟨gr, vr, rfl, h⟩)
  rw [hf.1, hf.2] at this
  exact this
theorem masq_none (base gr : Nat) (vr : Value) (ls : List Ru) (x : Int) (W : World) (h : RL 166 base W gr vr ls) (hok : okL ls) (hx : 0 ≤ x ∧ x ≤ 4294967295) (hn : ∀ y ∈ ls, y.kind ≠ 1) :
    Calls Tryz.prog 230 #[.pointer (some ⟨gr, 0, none⟩), .int .u32 x] W fun e w' => e = .returned (.tuple #[.agg #[.int .i64 0, .int .u8 0, .int .u32 0, .int .i64 0, .int .u32 0, .int .u16 0, .int .u32 0, .int .u16 0], .bool false]) ∧ Later W w' := by
  have hf := fnd_no (p := mqB x) (l := ls) (fun y hy => by unfold mqB; simp [hn y hy])
  have := masq_any base (some ⟨gr, 0, none⟩) ls x W (.inr ⟨gr, vr, rfl, h⟩) hok hx
  rw [hf.1, hf.2] at this
  exact this

set_option maxRecDepth 100000 in
set_option maxHeartbeats 8000000 in
theorem beginOutside_none (base g : Nat) (s : Gs) (tos id ttl pr src dst : Int) (keep : Bool) (so sd : Value) (side : Int) (p x d a b : Int) (w : World) (h : GI base w g s) (hn : ∀ y ∈ s.ls, y.kind ≠ 2) :
    Calls Tryz.prog 186 #[.agg #[.pointer (some ⟨g, 0, none⟩), .int .u8 tos, .int .u16 id, .bool keep, .int .u8 ttl, .int .u8 pr, .int .u32 src, .int .u32 dst, so, sd, .int .i64 side], .agg #[.int .u8 p, .int .u32 x, .int .u32 d, .int .u16 a, .int .u16 b]] w fun e w' => Gvn e ∧ Later w w' := by
  obtain ⟨l0, c0, c1⟩ := alloc2 w (.cells #[.pointer (some ⟨g, 0, none⟩), .int .u8 tos, .int .u16 id, .bool keep, .int .u8 ttl, .int .u8 pr, .int .u32 src, .int .u32 dst, so, sd, .int .i64 side] 111) (.cells #[.int .u8 p, .int .u32 x, .int .u32 d, .int .u16 a, .int .u16 b] 69)
  have C0 := hide c0
  have C1 := hide c1
  have CG := hide (later_keep l0 h.gc)
  have HPK := hide (fun W (l : Later w W) => peek_none base s.gb s.ve p x d a b s.now W (h.bl.later l))
  have HDN := hide (fun W (l : Later w W) => dnat_none base s.gr s.vr s.ls p d b W (h.rl.later l) hn)
  clear c0 c1 hn h
  go_enter Tryz.func186, Tryz.ntmps186
  go_upto_region 1 with fail
  generalize (w.alloc (.cells #[.pointer (some ⟨g, 0, none⟩), .int .u8 tos, .int .u16 id, .bool keep, .int .u8 ttl, .int .u8 pr, .int .u32 src, .int .u32 dst, so, sd, .int .i64 side] 111)).alloc (.cells #[.int .u8 p, .int .u32 x, .int .u32 d, .int .u16 a, .int .u16 b] 69) = w1 at *
  generalize w.heap.size = gx at C0 C1 ⊢
  have LW0 : Later w w1 := l0
  go_cut [5, 6] (fun v c wx => (∃ gn, v = .pointer (some ⟨gn, 0, none⟩)) ∧ c = .bool false ∧ Hid (Later w1 wx))
  case first =>
    refine wp_calmG ?_
    refine anyU_begin (R1 := Later) (R2 := fun _ _ => True) (D := [16]) 18 rfl (by kernel_rfl) ?_
    have ld : Later w1 w1.drew := Later.drew w1
    generalize w1.drew = Wd at *
    have LWd : Later w Wd := LW0.trans ld
    have q0 : ∀ v1, Later Wd v1 → ∀ j, v1.cell? ⟨gx, j, none⟩ = #[.pointer (some ⟨g, 0, none⟩), .int .u8 tos, .int .u16 id, .bool keep, .int .u8 ttl, .int .u8 pr, .int .u32 src, .int .u32 dst, so, sd, .int .i64 side][j]? := fun v1 hv => block_cell (later_keep (ld.trans hv) C0.out)
    have q1 : ∀ v1, Later Wd v1 → ∀ j, v1.cell? ⟨gx + 1, j, none⟩ = #[.int .u8 p, .int .u32 x, .int .u32 d, .int .u16 a, .int .u16 b][j]? := fun v1 hv => block_cell (later_keep (ld.trans hv) C1.out)
    have q2 : ∀ v1, Later Wd v1 → ∀ j, v1.cell? ⟨g, j, none⟩ = (gtc s).toArray[j]? := fun v1 hv => block_cell (later_keep (ld.trans hv) CG.out)
    unfold gtc at q2
    refine anyU_val Later.pre 0 [1, 2, 3, 4, 11, 12, 13, 14, 16, 17] rfl (by rfl) (by rfl) (by kernel_rfl) (by kernel_rfl) (by kernel_rfl) (by kernel_rfl) (by kernel_rfl) (fun _ _ _ _ h => by cases h.1) (by rfl) ?_; apply Exists.intro; refine ⟨fun v1 hv1 => ?_, ?_⟩; (· (go_simp; rfl)); simp only [Act.put, List.setIfInBounds_toArray, List.set_cons_zero, List.set_cons_succ]
    refine anyU_val Later.pre 1 [2, 3, 4, 11, 12, 13, 14, 16, 17] rfl (by rfl) (by rfl) (by kernel_rfl) (by kernel_rfl) (by kernel_rfl) (by kernel_rfl) (by kernel_rfl) (fun _ _ _ _ h => by cases h.1) (by rfl) ?_; apply Exists.intro; refine ⟨fun v1 hv1 => ?_, ?_⟩; (· (go_simp; rfl)); simp only [Act.put, List.setIfInBounds_toArray, List.set_cons_zero, List.set_cons_succ]
    refine anyU_val Later.pre 2 [3, 4, 11, 12, 13, 14, 16, 17] rfl (by rfl) (by rfl) (by kernel_rfl) (by kernel_rfl) (by kernel_rfl) (by kernel_rfl) (by kernel_rfl) (fun _ _ _ _ h => by cases h.1) (by rfl) ?_; apply Exists.intro; refine ⟨fun v1 hv1 => ?_, ?_⟩; (· (go_simp; rfl)); simp only [Act.put, List.setIfInBounds_toArray, List.set_cons_zero, List.set_cons_succ]
    refine anyU_val Later.pre 3 [4, 11, 12, 13, 14, 16, 17] rfl (by rfl) (by rfl) (by kernel_rfl) (by kernel_rfl) (by kernel_rfl) (by kernel_rfl) (by kernel_rfl) (fun _ _ _ _ h => by cases h.1) (by rfl) ?_; apply Exists.intro; refine ⟨fun v1 hv1 => ?_, ?_⟩; (· (go_simp; rfl)); simp only [Act.put, List.setIfInBounds_toArray, List.set_cons_zero, List.set_cons_succ]
    refine anyU_val Later.pre 4 [11, 12, 13, 14, 16, 17] rfl (by rfl) (by rfl) (by kernel_rfl) (by kernel_rfl) (by kernel_rfl) (by kernel_rfl) (by kernel_rfl) (fun _ _ _ _ h => by cases h.1) (by rfl) ?_; apply Exists.intro; refine ⟨fun v1 hv1 => ?_, ?_⟩; (· (go_simp; rfl)); simp only [Act.put, List.setIfInBounds_toArray, List.set_cons_zero, List.set_cons_succ]
    refine anyU_val Later.pre 5 [11, 12, 13, 14, 16, 17] rfl (by rfl) (by rfl) (by kernel_rfl) (by kernel_rfl) (by kernel_rfl) (by kernel_rfl) (by kernel_rfl) (fun _ _ _ _ h => by cases h.1) (by rfl) ?_; apply Exists.intro; refine ⟨fun v1 hv1 => ?_, ?_⟩; (· (go_simp; rfl)); simp only [Act.put, List.setIfInBounds_toArray, List.set_cons_zero, List.set_cons_succ]
    refine anyU_val Later.pre 6 [7, 8, 9, 10, 11, 12, 13, 14, 16, 17] rfl (by rfl) (by rfl) (by kernel_rfl) (by kernel_rfl) (by kernel_rfl) (by kernel_rfl) (by kernel_rfl) (fun _ _ _ _ h => by cases h.1) (by rfl) ?_; apply Exists.intro; refine ⟨fun v1 hv1 => ?_, ?_⟩; (· (go_simp; rfl)); simp only [Act.put, List.setIfInBounds_toArray, List.set_cons_zero, List.set_cons_succ]
    refine anyU_val Later.pre 7 [8, 9, 10, 11, 12, 13, 14, 16, 17] rfl (by rfl) (by rfl) (by kernel_rfl) (by kernel_rfl) (by kernel_rfl) (by kernel_rfl) (by kernel_rfl) (fun _ _ _ _ h => by cases h.1) (by rfl) ?_; apply Exists.intro; refine ⟨fun v1 hv1 => ?_, ?_⟩; (· (go_simp; rfl)); simp only [Act.put, List.setIfInBounds_toArray, List.set_cons_zero, List.set_cons_succ]
    refine anyU_val Later.pre 8 [9, 10, 11, 12, 13, 14, 16, 17] rfl (by rfl) (by rfl) (by kernel_rfl) (by kernel_rfl) (by kernel_rfl) (by kernel_rfl) (by kernel_rfl) (fun _ _ _ _ h => by cases h.1) (by rfl) ?_; apply Exists.intro; refine ⟨fun v1 hv1 => ?_, ?_⟩; (· (go_simp; rfl)); simp only [Act.put, List.setIfInBounds_toArray, List.set_cons_zero, List.set_cons_succ]
    refine anyU_val Later.pre 9 [10, 11, 12, 13, 14, 16, 17] rfl (by rfl) (by rfl) (by kernel_rfl) (by kernel_rfl) (by kernel_rfl) (by kernel_rfl) (by kernel_rfl) (fun _ _ _ _ h => by cases h.1) (by rfl) ?_; apply Exists.intro; refine ⟨fun v1 hv1 => ?_, ?_⟩; (· (go_simp; rfl)); simp only [Act.put, List.setIfInBounds_toArray, List.set_cons_zero, List.set_cons_succ]
    refine anyU_val Later.pre 10 [11, 12, 13, 14, 16, 17] rfl (by rfl) (by rfl) (by kernel_rfl) (by kernel_rfl) (by kernel_rfl) (by kernel_rfl) (by kernel_rfl) (fun _ _ _ _ h => by cases h.1) (by rfl) ?_; apply Exists.intro; refine ⟨fun v1 hv1 => ?_, ?_⟩; (· (go_simp; rfl)); simp only [Act.put, List.setIfInBounds_toArray, List.set_cons_zero, List.set_cons_succ]
    clear q0 q1 q2
    refine anyU_two 11 15 rfl rfl (by kernel_rfl) (by rfl) (by rfl) ?ca ?al
    case ca =>
      refine wp_enter 234 #[.pointer (some ⟨s.gb, 0, none⟩), .agg #[.int .u8 p, .int .u32 x, .int .u32 d, .int .u16 a, .int .u16 b], .int .i64 s.now] (by go_simp) ?_
      refine (HPK.out Wd LWd).mono ?_
      rintro e W1 ⟨rfl, l1⟩
      refine ⟨Rj_out (by rfl) l1, ?_⟩
      simp only [Act.put, List.setIfInBounds_toArray, List.set_cons_zero, List.set_cons_succ]
      refine anyU_val Later.pre 12 [13, 14, 16, 17] rfl (by rfl) (by rfl) (by kernel_rfl) (by kernel_rfl) (by kernel_rfl) (by kernel_rfl) (by kernel_rfl) (fun _ _ _ _ h => by cases h.1) (by rfl) ?_; apply Exists.intro; refine ⟨fun v1 hv1 => ?_, ?_⟩; (· (go_simp; rfl)); simp only [Act.put, List.setIfInBounds_toArray, List.set_cons_zero, List.set_cons_succ]
      refine anyU_val Later.pre 13 [16, 17] rfl (by rfl) (by rfl) (by kernel_rfl) (by kernel_rfl) (by kernel_rfl) (by kernel_rfl) (by kernel_rfl) (fun _ _ _ _ h => by cases h.1) (by rfl) ?_; apply Exists.intro; refine ⟨fun v1 hv1 => ?_, ?_⟩; (· (go_simp; rfl)); simp only [Act.put, List.setIfInBounds_toArray, List.set_cons_zero, List.set_cons_succ]
      have HSZ := (ld.trans l1).size
      refine anyU_two 14 15 rfl rfl (by kernel_rfl) (by rfl) (by rfl) ?xt1415 ?yt1415
      case xt1415 =>
        refine wp_value (w' := W1) (.bool false) (by go_simp) ?_
        refine ⟨Rj_out (by rfl) (Later.refl _), ?_⟩
        simp only [Act.put, List.setIfInBounds_toArray, List.set_cons_zero, List.set_cons_succ]
        refine anyU_one 15 rfl (by kernel_rfl) (by rfl) ?_
        have la := later_allocG W1 (.cells #[.int .u8 0, .int .u32 0, .int .u32 0, .int .u16 0, .int .u16 0, .int .u32 0, .int .u16 0, .int .i64 0, .int .i64 0] 136)
        have HA0 := heap_alloc_new W1 (.cells #[.int .u8 0, .int .u32 0, .int .u32 0, .int .u16 0, .int .u16 0, .int .u32 0, .int .u16 0, .int .i64 0, .int .i64 0] 136)
        unfold Oper.wp
        go_simp
        refine ⟨Rj_out (by rfl) la, ?_⟩
        change wpAnyU _ _ _ _ _ _ _ _ _ _ (W1.alloc (.cells #[.int .u8 0, .int .u32 0, .int .u32 0, .int .u16 0, .int .u16 0, .int .u32 0, .int .u16 0, .int .i64 0, .int .i64 0] 136))
        have hgn : w1.heap.size ≤ W1.heap.size := HSZ
        generalize W1.alloc (.cells #[.int .u8 0, .int .u32 0, .int .u32 0, .int .u16 0, .int .u16 0, .int .u32 0, .int .u16 0, .int .i64 0, .int .i64 0] 136) = W5 at *
        generalize W1.heap.size = gn at *
        have HA := HA0
        have LL := ld.trans (l1.trans la)
        refine anyU_one 16 rfl (by kernel_rfl) (by rfl) ?_
        have kA := block_cell HA
        have fA := block_frozen HA
        unfold Oper.wp
        go_simp
        refine ⟨Rj_in (by rfl) trivial, ?_⟩
        clear kA fA
        generalize hV : (((((((((W5.setCell ⟨gn, 0, none⟩ _).setCell ⟨gn, 1, none⟩ _).setCell ⟨gn, 2, none⟩ _).setCell ⟨gn, 3, none⟩ _).setCell ⟨gn, 4, none⟩ _).setCell ⟨gn, 5, none⟩ _).setCell ⟨gn, 6, none⟩ _).setCell ⟨gn, 7, none⟩ _).setCell ⟨gn, 8, none⟩ _) = V8
        have hV9 : V8 = putRow W5 gn 0 [.int .u8 0, .int .u32 0, .int .u32 0, .int .u16 0, .int .u16 0, .int .u32 0, .int .u16 0, .int .i64 0, .int .i64 0] := hV.symm
        have hb8 : But (fun b => b = gn) W5 V8 := by rw [hV9]; exact putRow_but (E := fun b => b = gn) (n := gn) rfl _ _ _ _ (But.refl _ _)
        have p8 := putRow_all [.int .u8 0, .int .u32 0, .int .u32 0, .int .u16 0, .int .u16 0, .int .u32 0, .int .u16 0, .int .i64 0, .int .i64 0] HA rfl
        rw [← hV9] at p8
        have PP := hide p8
        clear hV hV9 p8
        have BB := hide (Below.trans LL (hb8.below LL.size (fun k h e => by omega)))
        refine anyU_one 17 rfl (by kernel_rfl) (by rfl) ?_
        refine wp_value (w' := V8) (.bool false) (by go_simp) ?_
        refine ⟨Rj_out (by rfl) (Later.refl _), ?_⟩
        simp only [Act.put, List.setIfInBounds_toArray, List.set_cons_zero, List.set_cons_succ]
        refine anyU_done (by kernel_rfl) ?_
        refine ⟨rfl, ?_⟩
        go_wp2_with fail
        go_meet
        case rel => exact ⟨⟨gn, rfl⟩, rfl, BB⟩
      case yt1415 =>
        have la := later_allocG W1 (.cells #[.int .u8 0, .int .u32 0, .int .u32 0, .int .u16 0, .int .u16 0, .int .u32 0, .int .u16 0, .int .i64 0, .int .i64 0] 136)
        have HA0 := heap_alloc_new W1 (.cells #[.int .u8 0, .int .u32 0, .int .u32 0, .int .u16 0, .int .u16 0, .int .u32 0, .int .u16 0, .int .i64 0, .int .i64 0] 136)
        unfold Oper.wp
        go_simp
        refine ⟨Rj_out (by rfl) la, ?_⟩
        change wpAnyU _ _ _ _ _ _ _ _ _ _ (W1.alloc (.cells #[.int .u8 0, .int .u32 0, .int .u32 0, .int .u16 0, .int .u16 0, .int .u32 0, .int .u16 0, .int .i64 0, .int .i64 0] 136))
        have hgn : w1.heap.size ≤ W1.heap.size := HSZ
        generalize W1.alloc (.cells #[.int .u8 0, .int .u32 0, .int .u32 0, .int .u16 0, .int .u16 0, .int .u32 0, .int .u16 0, .int .i64 0, .int .i64 0] 136) = W5 at *
        generalize W1.heap.size = gn at *
        have HA := HA0
        have LL := ld.trans (l1.trans la)
        refine anyU_two 14 16 rfl rfl (by kernel_rfl) (by rfl) (by rfl) ?xt1416 ?yt1416
        case xt1416 =>
          refine wp_value (w' := W5) (.bool false) (by go_simp) ?_
          refine ⟨Rj_out (by rfl) (Later.refl _), ?_⟩
          simp only [Act.put, List.setIfInBounds_toArray, List.set_cons_zero, List.set_cons_succ]
          refine anyU_one 16 rfl (by kernel_rfl) (by rfl) ?_
          have kA := block_cell HA
          have fA := block_frozen HA
          unfold Oper.wp
          go_simp
          refine ⟨Rj_in (by rfl) trivial, ?_⟩
          clear kA fA
          generalize hV : (((((((((W5.setCell ⟨gn, 0, none⟩ _).setCell ⟨gn, 1, none⟩ _).setCell ⟨gn, 2, none⟩ _).setCell ⟨gn, 3, none⟩ _).setCell ⟨gn, 4, none⟩ _).setCell ⟨gn, 5, none⟩ _).setCell ⟨gn, 6, none⟩ _).setCell ⟨gn, 7, none⟩ _).setCell ⟨gn, 8, none⟩ _) = V8
          have hV9 : V8 = putRow W5 gn 0 [.int .u8 0, .int .u32 0, .int .u32 0, .int .u16 0, .int .u16 0, .int .u32 0, .int .u16 0, .int .i64 0, .int .i64 0] := hV.symm
          have hb8 : But (fun b => b = gn) W5 V8 := by rw [hV9]; exact putRow_but (E := fun b => b = gn) (n := gn) rfl _ _ _ _ (But.refl _ _)
          have p8 := putRow_all [.int .u8 0, .int .u32 0, .int .u32 0, .int .u16 0, .int .u16 0, .int .u32 0, .int .u16 0, .int .i64 0, .int .i64 0] HA rfl
          rw [← hV9] at p8
          have PP := hide p8
          clear hV hV9 p8
          have BB := hide (Below.trans LL (hb8.below LL.size (fun k h e => by omega)))
          refine anyU_one 17 rfl (by kernel_rfl) (by rfl) ?_
          refine wp_value (w' := V8) (.bool false) (by go_simp) ?_
          refine ⟨Rj_out (by rfl) (Later.refl _), ?_⟩
          simp only [Act.put, List.setIfInBounds_toArray, List.set_cons_zero, List.set_cons_succ]
          refine anyU_done (by kernel_rfl) ?_
          refine ⟨rfl, ?_⟩
          go_wp2_with fail
          go_meet
          case rel => exact ⟨⟨gn, rfl⟩, rfl, BB⟩
        case yt1416 =>
          have kA := block_cell HA
          have fA := block_frozen HA
          unfold Oper.wp
          go_simp
          refine ⟨Rj_in (by rfl) trivial, ?_⟩
          clear kA fA
          generalize hV : (((((((((W5.setCell ⟨gn, 0, none⟩ _).setCell ⟨gn, 1, none⟩ _).setCell ⟨gn, 2, none⟩ _).setCell ⟨gn, 3, none⟩ _).setCell ⟨gn, 4, none⟩ _).setCell ⟨gn, 5, none⟩ _).setCell ⟨gn, 6, none⟩ _).setCell ⟨gn, 7, none⟩ _).setCell ⟨gn, 8, none⟩ _) = V8
          have hV9 : V8 = putRow W5 gn 0 [.int .u8 0, .int .u32 0, .int .u32 0, .int .u16 0, .int .u16 0, .int .u32 0, .int .u16 0, .int .i64 0, .int .i64 0] := hV.symm
          have hb8 : But (fun b => b = gn) W5 V8 := by rw [hV9]; exact putRow_but (E := fun b => b = gn) (n := gn) rfl _ _ _ _ (But.refl _ _)
          have p8 := putRow_all [.int .u8 0, .int .u32 0, .int .u32 0, .int .u16 0, .int .u16 0, .int .u32 0, .int .u16 0, .int .i64 0, .int .i64 0] HA rfl
          rw [← hV9] at p8
          have PP := hide p8
          clear hV hV9 p8
          have BB := hide (Below.trans LL (hb8.below LL.size (fun k h e => by omega)))
          refine anyU_one 14 rfl (by kernel_rfl) (by rfl) ?_
          refine wp_value (w' := V8) (.bool false) (by go_simp) ?_
          refine ⟨Rj_out (by rfl) (Later.refl _), ?_⟩
          simp only [Act.put, List.setIfInBounds_toArray, List.set_cons_zero, List.set_cons_succ]
          refine anyU_one 17 rfl (by kernel_rfl) (by rfl) ?_
          refine wp_value (w' := V8) (.bool false) (by go_simp) ?_
          refine ⟨Rj_out (by rfl) (Later.refl _), ?_⟩
          simp only [Act.put, List.setIfInBounds_toArray, List.set_cons_zero, List.set_cons_succ]
          refine anyU_done (by kernel_rfl) ?_
          refine ⟨rfl, ?_⟩
          go_wp2_with fail
          go_meet
          case rel => exact ⟨⟨gn, rfl⟩, rfl, BB⟩
    case al =>
      have HSZ := ld.size
      have la := later_allocG Wd (.cells #[.int .u8 0, .int .u32 0, .int .u32 0, .int .u16 0, .int .u16 0, .int .u32 0, .int .u16 0, .int .i64 0, .int .i64 0] 136)
      have HA0 := heap_alloc_new Wd (.cells #[.int .u8 0, .int .u32 0, .int .u32 0, .int .u16 0, .int .u16 0, .int .u32 0, .int .u16 0, .int .i64 0, .int .i64 0] 136)
      unfold Oper.wp
      go_simp
      refine ⟨Rj_out (by rfl) la, ?_⟩
      change wpAnyU _ _ _ _ _ _ _ _ _ _ (Wd.alloc (.cells #[.int .u8 0, .int .u32 0, .int .u32 0, .int .u16 0, .int .u16 0, .int .u32 0, .int .u16 0, .int .i64 0, .int .i64 0] 136))
      have hgn : w1.heap.size ≤ Wd.heap.size := HSZ
      generalize Wd.alloc (.cells #[.int .u8 0, .int .u32 0, .int .u32 0, .int .u16 0, .int .u16 0, .int .u32 0, .int .u16 0, .int .i64 0, .int .i64 0] 136) = W3 at *
      generalize Wd.heap.size = gn at *
      refine anyU_one 11 rfl (by kernel_rfl) (by rfl) ?_
      refine wp_enter 234 #[.pointer (some ⟨s.gb, 0, none⟩), .agg #[.int .u8 p, .int .u32 x, .int .u32 d, .int .u16 a, .int .u16 b], .int .i64 s.now] (by go_simp) ?_
      refine (HPK.out W3 (LWd.trans la)).mono ?_
      rintro e W5 ⟨rfl, l1⟩
      refine ⟨Rj_out (by rfl) l1, ?_⟩
      simp only [Act.put, List.setIfInBounds_toArray, List.set_cons_zero, List.set_cons_succ]
      refine anyU_val Later.pre 12 [13, 14, 16, 17] rfl (by rfl) (by rfl) (by kernel_rfl) (by kernel_rfl) (by kernel_rfl) (by kernel_rfl) (by kernel_rfl) (fun _ _ _ _ h => by cases h.1) (by rfl) ?_; apply Exists.intro; refine ⟨fun v1 hv1 => ?_, ?_⟩; (· (go_simp; rfl)); simp only [Act.put, List.setIfInBounds_toArray, List.set_cons_zero, List.set_cons_succ]
      refine anyU_val Later.pre 13 [16, 17] rfl (by rfl) (by rfl) (by kernel_rfl) (by kernel_rfl) (by kernel_rfl) (by kernel_rfl) (by kernel_rfl) (fun _ _ _ _ h => by cases h.1) (by rfl) ?_; apply Exists.intro; refine ⟨fun v1 hv1 => ?_, ?_⟩; (· (go_simp; rfl)); simp only [Act.put, List.setIfInBounds_toArray, List.set_cons_zero, List.set_cons_succ]
      have HA := later_keep l1 HA0
      have LL := ld.trans (la.trans l1)
      refine anyU_two 14 16 rfl rfl (by kernel_rfl) (by rfl) (by rfl) ?xt1416 ?yt1416
      case xt1416 =>
        refine wp_value (w' := W5) (.bool false) (by go_simp) ?_
        refine ⟨Rj_out (by rfl) (Later.refl _), ?_⟩
        simp only [Act.put, List.setIfInBounds_toArray, List.set_cons_zero, List.set_cons_succ]
        refine anyU_one 16 rfl (by kernel_rfl) (by rfl) ?_
        have kA := block_cell HA
        have fA := block_frozen HA
        unfold Oper.wp
        go_simp
        refine ⟨Rj_in (by rfl) trivial, ?_⟩
        clear kA fA
        generalize hV : (((((((((W5.setCell ⟨gn, 0, none⟩ _).setCell ⟨gn, 1, none⟩ _).setCell ⟨gn, 2, none⟩ _).setCell ⟨gn, 3, none⟩ _).setCell ⟨gn, 4, none⟩ _).setCell ⟨gn, 5, none⟩ _).setCell ⟨gn, 6, none⟩ _).setCell ⟨gn, 7, none⟩ _).setCell ⟨gn, 8, none⟩ _) = V8
        have hV9 : V8 = putRow W5 gn 0 [.int .u8 0, .int .u32 0, .int .u32 0, .int .u16 0, .int .u16 0, .int .u32 0, .int .u16 0, .int .i64 0, .int .i64 0] := hV.symm
        have hb8 : But (fun b => b = gn) W5 V8 := by rw [hV9]; exact putRow_but (E := fun b => b = gn) (n := gn) rfl _ _ _ _ (But.refl _ _)
        have p8 := putRow_all [.int .u8 0, .int .u32 0, .int .u32 0, .int .u16 0, .int .u16 0, .int .u32 0, .int .u16 0, .int .i64 0, .int .i64 0] HA rfl
        rw [← hV9] at p8
        have PP := hide p8
        clear hV hV9 p8
        have BB := hide (Below.trans LL (hb8.below LL.size (fun k h e => by omega)))
        refine anyU_one 17 rfl (by kernel_rfl) (by rfl) ?_
        refine wp_value (w' := V8) (.bool false) (by go_simp) ?_
        refine ⟨Rj_out (by rfl) (Later.refl _), ?_⟩
        simp only [Act.put, List.setIfInBounds_toArray, List.set_cons_zero, List.set_cons_succ]
        refine anyU_done (by kernel_rfl) ?_
        refine ⟨rfl, ?_⟩
        go_wp2_with fail
        go_meet
        case rel => exact ⟨⟨gn, rfl⟩, rfl, BB⟩
      case yt1416 =>
        have kA := block_cell HA
        have fA := block_frozen HA
        unfold Oper.wp
        go_simp
        refine ⟨Rj_in (by rfl) trivial, ?_⟩
        clear kA fA
        generalize hV : (((((((((W5.setCell ⟨gn, 0, none⟩ _).setCell ⟨gn, 1, none⟩ _).setCell ⟨gn, 2, none⟩ _).setCell ⟨gn, 3, none⟩ _).setCell ⟨gn, 4, none⟩ _).setCell ⟨gn, 5, none⟩ _).setCell ⟨gn, 6, none⟩ _).setCell ⟨gn, 7, none⟩ _).setCell ⟨gn, 8, none⟩ _) = V8
        have hV9 : V8 = putRow W5 gn 0 [.int .u8 0, .int .u32 0, .int .u32 0, .int .u16 0, .int .u16 0, .int .u32 0, .int .u16 0, .int .i64 0, .int .i64 0] := hV.symm
        have hb8 : But (fun b => b = gn) W5 V8 := by rw [hV9]; exact putRow_but (E := fun b => b = gn) (n := gn) rfl _ _ _ _ (But.refl _ _)
        have p8 := putRow_all [.int .u8 0, .int .u32 0, .int .u32 0, .int .u16 0, .int .u16 0, .int .u32 0, .int .u16 0, .int .i64 0, .int .i64 0] HA rfl
        rw [← hV9] at p8
        have PP := hide p8
        clear hV hV9 p8
        have BB := hide (Below.trans LL (hb8.below LL.size (fun k h e => by omega)))
        refine anyU_one 14 rfl (by kernel_rfl) (by rfl) ?_
        refine wp_value (w' := V8) (.bool false) (by go_simp) ?_
        refine ⟨Rj_out (by rfl) (Later.refl _), ?_⟩
        simp only [Act.put, List.setIfInBounds_toArray, List.set_cons_zero, List.set_cons_succ]
        refine anyU_one 17 rfl (by kernel_rfl) (by rfl) ?_
        refine wp_value (w' := V8) (.bool false) (by go_simp) ?_
        refine ⟨Rj_out (by rfl) (Later.refl _), ?_⟩
        simp only [Act.put, List.setIfInBounds_toArray, List.set_cons_zero, List.set_cons_succ]
        refine anyU_done (by kernel_rfl) ?_
        refine ⟨rfl, ?_⟩
        go_wp2_with fail
        go_meet
        case rel => exact ⟨⟨gn, rfl⟩, rfl, BB⟩
  case rest =>
    obtain ⟨⟨gn, rfl⟩, rfl, HL2⟩ := hcut
    obtain ⟨w2, hw2⟩ : ∃ w2, w2 = wc := ⟨_, rfl⟩
    subst hw2
    have L2 := HL2.out
    have D0 := hide (later_keep L2 C0.out)
    have D1 := hide (later_keep L2 C1.out)
    have DG := hide (later_keep L2 CG.out)
    have LW2 : Later w w2 := LW0.trans L2
    clear C0 C1 CG LW0 HL2 HPK
    go_upto_region 6 with fail
    have LW0 := LW2
    go_cut [8, 9] (fun v c wx => (∃ gn, v = .pointer (some ⟨gn, 0, none⟩)) ∧ c = .bool false ∧ Hid (Later w2 wx))
    case first =>
      refine wp_calmG ?_
      refine anyU_begin (R1 := Later) (R2 := fun _ _ => True) (D := [16]) 18 rfl (by kernel_rfl) ?_
      have ld : Later w2 w2.drew := Later.drew w2
      generalize w2.drew = Wd at *
      have LWd : Later w Wd := LW0.trans ld
      have q0 : ∀ v1, Later Wd v1 → ∀ j, v1.cell? ⟨gx, j, none⟩ = #[.pointer (some ⟨g, 0, none⟩), .int .u8 tos, .int .u16 id, .bool keep, .int .u8 ttl, .int .u8 pr, .int .u32 src, .int .u32 dst, so, sd, .int .i64 side][j]? := fun v1 hv => block_cell (later_keep (ld.trans hv) D0.out)
      have q1 : ∀ v1, Later Wd v1 → ∀ j, v1.cell? ⟨gx + 1, j, none⟩ = #[.int .u8 p, .int .u32 x, .int .u32 d, .int .u16 a, .int .u16 b][j]? := fun v1 hv => block_cell (later_keep (ld.trans hv) D1.out)
      have q2 : ∀ v1, Later Wd v1 → ∀ j, v1.cell? ⟨g, j, none⟩ = (gtc s).toArray[j]? := fun v1 hv => block_cell (later_keep (ld.trans hv) DG.out)
      unfold gtc at q2
      refine anyU_val Later.pre 0 [1, 2, 3, 4, 11, 12, 13, 14, 16, 17] rfl (by rfl) (by rfl) (by kernel_rfl) (by kernel_rfl) (by kernel_rfl) (by kernel_rfl) (by kernel_rfl) (fun _ _ _ _ h => by cases h.1) (by rfl) ?_; apply Exists.intro; refine ⟨fun v1 hv1 => ?_, ?_⟩; (· (go_simp; rfl)); simp only [Act.put, List.setIfInBounds_toArray, List.set_cons_zero, List.set_cons_succ]
      refine anyU_val Later.pre 1 [2, 3, 4, 11, 12, 13, 14, 16, 17] rfl (by rfl) (by rfl) (by kernel_rfl) (by kernel_rfl) (by kernel_rfl) (by kernel_rfl) (by kernel_rfl) (fun _ _ _ _ h => by cases h.1) (by rfl) ?_; apply Exists.intro; refine ⟨fun v1 hv1 => ?_, ?_⟩; (· (go_simp; rfl)); simp only [Act.put, List.setIfInBounds_toArray, List.set_cons_zero, List.set_cons_succ]
      refine anyU_val Later.pre 2 [3, 4, 11, 12, 13, 14, 16, 17] rfl (by rfl) (by rfl) (by kernel_rfl) (by kernel_rfl) (by kernel_rfl) (by kernel_rfl) (by kernel_rfl) (fun _ _ _ _ h => by cases h.1) (by rfl) ?_; apply Exists.intro; refine ⟨fun v1 hv1 => ?_, ?_⟩; (· (go_simp; rfl)); simp only [Act.put, List.setIfInBounds_toArray, List.set_cons_zero, List.set_cons_succ]
      refine anyU_val Later.pre 3 [4, 11, 12, 13, 14, 16, 17] rfl (by rfl) (by rfl) (by kernel_rfl) (by kernel_rfl) (by kernel_rfl) (by kernel_rfl) (by kernel_rfl) (fun _ _ _ _ h => by cases h.1) (by rfl) ?_; apply Exists.intro; refine ⟨fun v1 hv1 => ?_, ?_⟩; (· (go_simp; rfl)); simp only [Act.put, List.setIfInBounds_toArray, List.set_cons_zero, List.set_cons_succ]
      refine anyU_val Later.pre 4 [11, 12, 13, 14, 16, 17] rfl (by rfl) (by rfl) (by kernel_rfl) (by kernel_rfl) (by kernel_rfl) (by kernel_rfl) (by kernel_rfl) (fun _ _ _ _ h => by cases h.1) (by rfl) ?_; apply Exists.intro; refine ⟨fun v1 hv1 => ?_, ?_⟩; (· (go_simp; rfl)); simp only [Act.put, List.setIfInBounds_toArray, List.set_cons_zero, List.set_cons_succ]
      refine anyU_val Later.pre 5 [6, 11, 12, 13, 14, 16, 17] rfl (by rfl) (by rfl) (by kernel_rfl) (by kernel_rfl) (by kernel_rfl) (by kernel_rfl) (by kernel_rfl) (fun _ _ _ _ h => by cases h.1) (by rfl) ?_; apply Exists.intro; refine ⟨fun v1 hv1 => ?_, ?_⟩; (· (go_simp; rfl)); simp only [Act.put, List.setIfInBounds_toArray, List.set_cons_zero, List.set_cons_succ]
      refine anyU_val Later.pre 6 [11, 12, 13, 14, 16, 17] rfl (by rfl) (by rfl) (by kernel_rfl) (by kernel_rfl) (by kernel_rfl) (by kernel_rfl) (by kernel_rfl) (fun _ _ _ _ h => by cases h.1) (by rfl) ?_; apply Exists.intro; refine ⟨fun v1 hv1 => ?_, ?_⟩; (· (go_simp; rfl)); simp only [Act.put, List.setIfInBounds_toArray, List.set_cons_zero, List.set_cons_succ]
      refine anyU_val Later.pre 7 [8, 11, 12, 13, 14, 16, 17] rfl (by rfl) (by rfl) (by kernel_rfl) (by kernel_rfl) (by kernel_rfl) (by kernel_rfl) (by kernel_rfl) (fun _ _ _ _ h => by cases h.1) (by rfl) ?_; apply Exists.intro; refine ⟨fun v1 hv1 => ?_, ?_⟩; (· (go_simp; rfl)); simp only [Act.put, List.setIfInBounds_toArray, List.set_cons_zero, List.set_cons_succ]
      refine anyU_val Later.pre 8 [11, 12, 13, 14, 16, 17] rfl (by rfl) (by rfl) (by kernel_rfl) (by kernel_rfl) (by kernel_rfl) (by kernel_rfl) (by kernel_rfl) (fun _ _ _ _ h => by cases h.1) (by rfl) ?_; apply Exists.intro; refine ⟨fun v1 hv1 => ?_, ?_⟩; (· (go_simp; rfl)); simp only [Act.put, List.setIfInBounds_toArray, List.set_cons_zero, List.set_cons_succ]
      refine anyU_val Later.pre 9 [10, 11, 12, 13, 14, 16, 17] rfl (by rfl) (by rfl) (by kernel_rfl) (by kernel_rfl) (by kernel_rfl) (by kernel_rfl) (by kernel_rfl) (fun _ _ _ _ h => by cases h.1) (by rfl) ?_; apply Exists.intro; refine ⟨fun v1 hv1 => ?_, ?_⟩; (· (go_simp; rfl)); simp only [Act.put, List.setIfInBounds_toArray, List.set_cons_zero, List.set_cons_succ]
      refine anyU_val Later.pre 10 [11, 12, 13, 14, 16, 17] rfl (by rfl) (by rfl) (by kernel_rfl) (by kernel_rfl) (by kernel_rfl) (by kernel_rfl) (by kernel_rfl) (fun _ _ _ _ h => by cases h.1) (by rfl) ?_; apply Exists.intro; refine ⟨fun v1 hv1 => ?_, ?_⟩; (· (go_simp; rfl)); simp only [Act.put, List.setIfInBounds_toArray, List.set_cons_zero, List.set_cons_succ]
      clear q0 q1 q2
      refine anyU_two 11 15 rfl rfl (by kernel_rfl) (by rfl) (by rfl) ?ca ?al
      case ca =>
        refine wp_enter 237 #[.pointer (some ⟨s.gr, 0, none⟩), .int .u8 p, .int .u32 d, .int .u16 b] (by go_simp) ?_
        refine (HDN.out Wd LWd).mono ?_
        rintro e W1 ⟨rfl, l1⟩
        refine ⟨Rj_out (by rfl) l1, ?_⟩
        simp only [Act.put, List.setIfInBounds_toArray, List.set_cons_zero, List.set_cons_succ]
        refine anyU_val Later.pre 12 [13, 14, 16, 17] rfl (by rfl) (by rfl) (by kernel_rfl) (by kernel_rfl) (by kernel_rfl) (by kernel_rfl) (by kernel_rfl) (fun _ _ _ _ h => by cases h.1) (by rfl) ?_; apply Exists.intro; refine ⟨fun v1 hv1 => ?_, ?_⟩; (· (go_simp; rfl)); simp only [Act.put, List.setIfInBounds_toArray, List.set_cons_zero, List.set_cons_succ]
        refine anyU_val Later.pre 13 [16, 17] rfl (by rfl) (by rfl) (by kernel_rfl) (by kernel_rfl) (by kernel_rfl) (by kernel_rfl) (by kernel_rfl) (fun _ _ _ _ h => by cases h.1) (by rfl) ?_; apply Exists.intro; refine ⟨fun v1 hv1 => ?_, ?_⟩; (· (go_simp; rfl)); simp only [Act.put, List.setIfInBounds_toArray, List.set_cons_zero, List.set_cons_succ]
        have HSZ := (ld.trans l1).size
        refine anyU_two 14 15 rfl rfl (by kernel_rfl) (by rfl) (by rfl) ?xt1415 ?yt1415
        case xt1415 =>
          refine wp_value (w' := W1) (.bool false) (by go_simp) ?_
          refine ⟨Rj_out (by rfl) (Later.refl _), ?_⟩
          simp only [Act.put, List.setIfInBounds_toArray, List.set_cons_zero, List.set_cons_succ]
          refine anyU_one 15 rfl (by kernel_rfl) (by rfl) ?_
          have la := later_allocG W1 (.cells #[.int .i64 0, .int .u8 0, .int .u32 0, .int .i64 0, .int .u32 0, .int .u16 0, .int .u32 0, .int .u16 0] 28)
          have HA0 := heap_alloc_new W1 (.cells #[.int .i64 0, .int .u8 0, .int .u32 0, .int .i64 0, .int .u32 0, .int .u16 0, .int .u32 0, .int .u16 0] 28)
          unfold Oper.wp
          go_simp
          refine ⟨Rj_out (by rfl) la, ?_⟩
          change wpAnyU _ _ _ _ _ _ _ _ _ _ (W1.alloc (.cells #[.int .i64 0, .int .u8 0, .int .u32 0, .int .i64 0, .int .u32 0, .int .u16 0, .int .u32 0, .int .u16 0] 28))
          have hgn : w2.heap.size ≤ W1.heap.size := HSZ
          generalize W1.alloc (.cells #[.int .i64 0, .int .u8 0, .int .u32 0, .int .i64 0, .int .u32 0, .int .u16 0, .int .u32 0, .int .u16 0] 28) = W5 at *
          generalize W1.heap.size = gn at *
          have HA := HA0
          have LL := ld.trans (l1.trans la)
          refine anyU_one 16 rfl (by kernel_rfl) (by rfl) ?_
          have kA := block_cell HA
          have fA := block_frozen HA
          unfold Oper.wp
          go_simp
          refine ⟨Rj_in (by rfl) trivial, ?_⟩
          clear kA fA
          generalize hV : ((((((((W5.setCell ⟨gn, 0, none⟩ _).setCell ⟨gn, 1, none⟩ _).setCell ⟨gn, 2, none⟩ _).setCell ⟨gn, 3, none⟩ _).setCell ⟨gn, 4, none⟩ _).setCell ⟨gn, 5, none⟩ _).setCell ⟨gn, 6, none⟩ _).setCell ⟨gn, 7, none⟩ _) = V8
          have hV9 : V8 = putRow W5 gn 0 [.int .i64 0, .int .u8 0, .int .u32 0, .int .i64 0, .int .u32 0, .int .u16 0, .int .u32 0, .int .u16 0] := hV.symm
          have hb8 : But (fun b => b = gn) W5 V8 := by rw [hV9]; exact putRow_but (E := fun b => b = gn) (n := gn) rfl _ _ _ _ (But.refl _ _)
          have p8 := putRow_all [.int .i64 0, .int .u8 0, .int .u32 0, .int .i64 0, .int .u32 0, .int .u16 0, .int .u32 0, .int .u16 0] HA rfl
          rw [← hV9] at p8
          have PP := hide p8
          clear hV hV9 p8
          have BB := hide (Below.trans LL (hb8.below LL.size (fun k h e => by omega)))
          refine anyU_one 17 rfl (by kernel_rfl) (by rfl) ?_
          refine wp_value (w' := V8) (.bool false) (by go_simp) ?_
          refine ⟨Rj_out (by rfl) (Later.refl _), ?_⟩
          simp only [Act.put, List.setIfInBounds_toArray, List.set_cons_zero, List.set_cons_succ]
          refine anyU_done (by kernel_rfl) ?_
          refine ⟨rfl, ?_⟩
          go_wp2_with fail
          go_meet
          case rel => exact ⟨⟨gn, rfl⟩, rfl, BB⟩
        case yt1415 =>
          have la := later_allocG W1 (.cells #[.int .i64 0, .int .u8 0, .int .u32 0, .int .i64 0, .int .u32 0, .int .u16 0, .int .u32 0, .int .u16 0] 28)
          have HA0 := heap_alloc_new W1 (.cells #[.int .i64 0, .int .u8 0, .int .u32 0, .int .i64 0, .int .u32 0, .int .u16 0, .int .u32 0, .int .u16 0] 28)
          unfold Oper.wp
          go_simp
          refine ⟨Rj_out (by rfl) la, ?_⟩
          change wpAnyU _ _ _ _ _ _ _ _ _ _ (W1.alloc (.cells #[.int .i64 0, .int .u8 0, .int .u32 0, .int .i64 0, .int .u32 0, .int .u16 0, .int .u32 0, .int .u16 0] 28))
          have hgn : w2.heap.size ≤ W1.heap.size := HSZ
          generalize W1.alloc (.cells #[.int .i64 0, .int .u8 0, .int .u32 0, .int .i64 0, .int .u32 0, .int .u16 0, .int .u32 0, .int .u16 0] 28) = W5 at *
          generalize W1.heap.size = gn at *
          have HA := HA0
          have LL := ld.trans (l1.trans la)
          refine anyU_two 14 16 rfl rfl (by kernel_rfl) (by rfl) (by rfl) ?xt1416 ?yt1416
          case xt1416 =>
            refine wp_value (w' := W5) (.bool false) (by go_simp) ?_
            refine ⟨Rj_out (by rfl) (Later.refl _), ?_⟩
            simp only [Act.put, List.setIfInBounds_toArray, List.set_cons_zero, List.set_cons_succ]
            refine anyU_one 16 rfl (by kernel_rfl) (by rfl) ?_
            have kA := block_cell HA
            have fA := block_frozen HA
            unfold Oper.wp
            go_simp
            refine ⟨Rj_in (by rfl) trivial, ?_⟩
            clear kA fA
            generalize hV : ((((((((W5.setCell ⟨gn, 0, none⟩ _).setCell ⟨gn, 1, none⟩ _).setCell ⟨gn, 2, none⟩ _).setCell ⟨gn, 3, none⟩ _).setCell ⟨gn, 4, none⟩ _).setCell ⟨gn, 5, none⟩ _).setCell ⟨gn, 6, none⟩ _).setCell ⟨gn, 7, none⟩ _) = V8
            have hV9 : V8 = putRow W5 gn 0 [.int .i64 0, .int .u8 0, .int .u32 0, .int .i64 0, .int .u32 0, .int .u16 0, .int .u32 0, .int .u16 0] := hV.symm
            have hb8 : But (fun b => b = gn) W5 V8 := by rw [hV9]; exact putRow_but (E := fun b => b = gn) (n := gn) rfl _ _ _ _ (But.refl _ _)
            have p8 := putRow_all [.int .i64 0, .int .u8 0, .int .u32 0, .int .i64 0, .int .u32 0, .int .u16 0, .int .u32 0, .int .u16 0] HA rfl
            rw [← hV9] at p8
            have PP := hide p8
            clear hV hV9 p8
            have BB := hide (Below.trans LL (hb8.below LL.size (fun k h e => by omega)))
            refine anyU_one 17 rfl (by kernel_rfl) (by rfl) ?_
            refine wp_value (w' := V8) (.bool false) (by go_simp) ?_
            refine ⟨Rj_out (by rfl) (Later.refl _), ?_⟩
            simp only [Act.put, List.setIfInBounds_toArray, List.set_cons_zero, List.set_cons_succ]
            refine anyU_done (by kernel_rfl) ?_
            refine ⟨rfl, ?_⟩
            go_wp2_with fail
            go_meet
            case rel => exact ⟨⟨gn, rfl⟩, rfl, BB⟩
          case yt1416 =>
            have kA := block_cell HA
            have fA := block_frozen HA
            unfold Oper.wp
            go_simp
            refine ⟨Rj_in (by rfl) trivial, ?_⟩
            clear kA fA
            generalize hV : ((((((((W5.setCell ⟨gn, 0, none⟩ _).setCell ⟨gn, 1, none⟩ _).setCell ⟨gn, 2, none⟩ _).setCell ⟨gn, 3, none⟩ _).setCell ⟨gn, 4, none⟩ _).setCell ⟨gn, 5, none⟩ _).setCell ⟨gn, 6, none⟩ _).setCell ⟨gn, 7, none⟩ _) = V8
            have hV9 : V8 = putRow W5 gn 0 [.int .i64 0, .int .u8 0, .int .u32 0, .int .i64 0, .int .u32 0, .int .u16 0, .int .u32 0, .int .u16 0] := hV.symm
            have hb8 : But (fun b => b = gn) W5 V8 := by rw [hV9]; exact putRow_but (E := fun b => b = gn) (n := gn) rfl _ _ _ _ (But.refl _ _)
            have p8 := putRow_all [.int .i64 0, .int .u8 0, .int .u32 0, .int .i64 0, .int .u32 0, .int .u16 0, .int .u32 0, .int .u16 0] HA rfl
            rw [← hV9] at p8
            have PP := hide p8
            clear hV hV9 p8
            have BB := hide (Below.trans LL (hb8.below LL.size (fun k h e => by omega)))
            refine anyU_one 14 rfl (by kernel_rfl) (by rfl) ?_
            refine wp_value (w' := V8) (.bool false) (by go_simp) ?_
            refine ⟨Rj_out (by rfl) (Later.refl _), ?_⟩
            simp only [Act.put, List.setIfInBounds_toArray, List.set_cons_zero, List.set_cons_succ]
            refine anyU_one 17 rfl (by kernel_rfl) (by rfl) ?_
            refine wp_value (w' := V8) (.bool false) (by go_simp) ?_
            refine ⟨Rj_out (by rfl) (Later.refl _), ?_⟩
            simp only [Act.put, List.setIfInBounds_toArray, List.set_cons_zero, List.set_cons_succ]
            refine anyU_done (by kernel_rfl) ?_
            refine ⟨rfl, ?_⟩
            go_wp2_with fail
            go_meet
            case rel => exact ⟨⟨gn, rfl⟩, rfl, BB⟩
      case al =>
        have HSZ := ld.size
        have la := later_allocG Wd (.cells #[.int .i64 0, .int .u8 0, .int .u32 0, .int .i64 0, .int .u32 0, .int .u16 0, .int .u32 0, .int .u16 0] 28)
        have HA0 := heap_alloc_new Wd (.cells #[.int .i64 0, .int .u8 0, .int .u32 0, .int .i64 0, .int .u32 0, .int .u16 0, .int .u32 0, .int .u16 0] 28)
        unfold Oper.wp
        go_simp
        refine ⟨Rj_out (by rfl) la, ?_⟩
        change wpAnyU _ _ _ _ _ _ _ _ _ _ (Wd.alloc (.cells #[.int .i64 0, .int .u8 0, .int .u32 0, .int .i64 0, .int .u32 0, .int .u16 0, .int .u32 0, .int .u16 0] 28))
        have hgn : w2.heap.size ≤ Wd.heap.size := HSZ
        generalize Wd.alloc (.cells #[.int .i64 0, .int .u8 0, .int .u32 0, .int .i64 0, .int .u32 0, .int .u16 0, .int .u32 0, .int .u16 0] 28) = W3 at *
        generalize Wd.heap.size = gn at *
        refine anyU_one 11 rfl (by kernel_rfl) (by rfl) ?_
        refine wp_enter 237 #[.pointer (some ⟨s.gr, 0, none⟩), .int .u8 p, .int .u32 d, .int .u16 b] (by go_simp) ?_
        refine (HDN.out W3 (LWd.trans la)).mono ?_
        rintro e W5 ⟨rfl, l1⟩
        refine ⟨Rj_out (by rfl) l1, ?_⟩
        simp only [Act.put, List.setIfInBounds_toArray, List.set_cons_zero, List.set_cons_succ]
        refine anyU_val Later.pre 12 [13, 14, 16, 17] rfl (by rfl) (by rfl) (by kernel_rfl) (by kernel_rfl) (by kernel_rfl) (by kernel_rfl) (by kernel_rfl) (fun _ _ _ _ h => by cases h.1) (by rfl) ?_; apply Exists.intro; refine ⟨fun v1 hv1 => ?_, ?_⟩; (· (go_simp; rfl)); simp only [Act.put, List.setIfInBounds_toArray, List.set_cons_zero, List.set_cons_succ]
        refine anyU_val Later.pre 13 [16, 17] rfl (by rfl) (by rfl) (by kernel_rfl) (by kernel_rfl) (by kernel_rfl) (by kernel_rfl) (by kernel_rfl) (fun _ _ _ _ h => by cases h.1) (by rfl) ?_; apply Exists.intro; refine ⟨fun v1 hv1 => ?_, ?_⟩; (· (go_simp; rfl)); simp only [Act.put, List.setIfInBounds_toArray, List.set_cons_zero, List.set_cons_succ]
        have HA := later_keep l1 HA0
        have LL := ld.trans (la.trans l1)
        refine anyU_two 14 16 rfl rfl (by kernel_rfl) (by rfl) (by rfl) ?xt1416 ?yt1416
        case xt1416 =>
          refine wp_value (w' := W5) (.bool false) (by go_simp) ?_
          refine ⟨Rj_out (by rfl) (Later.refl _), ?_⟩
          simp only [Act.put, List.setIfInBounds_toArray, List.set_cons_zero, List.set_cons_succ]
          refine anyU_one 16 rfl (by kernel_rfl) (by rfl) ?_
          have kA := block_cell HA
          have fA := block_frozen HA
          unfold Oper.wp
          go_simp
          refine ⟨Rj_in (by rfl) trivial, ?_⟩
          clear kA fA
          generalize hV : ((((((((W5.setCell ⟨gn, 0, none⟩ _).setCell ⟨gn, 1, none⟩ _).setCell ⟨gn, 2, none⟩ _).setCell ⟨gn, 3, none⟩ _).setCell ⟨gn, 4, none⟩ _).setCell ⟨gn, 5, none⟩ _).setCell ⟨gn, 6, none⟩ _).setCell ⟨gn, 7, none⟩ _) = V8
          have hV9 : V8 = putRow W5 gn 0 [.int .i64 0, .int .u8 0, .int .u32 0, .int .i64 0, .int .u32 0, .int .u16 0, .int .u32 0, .int .u16 0] := hV.symm
          have hb8 : But (fun b => b = gn) W5 V8 := by rw [hV9]; exact putRow_but (E := fun b => b = gn) (n := gn) rfl _ _ _ _ (But.refl _ _)
          have p8 := putRow_all [.int .i64 0, .int .u8 0, .int .u32 0, .int .i64 0, .int .u32 0, .int .u16 0, .int .u32 0, .int .u16 0] HA rfl
          rw [← hV9] at p8
          have PP := hide p8
          clear hV hV9 p8
          have BB := hide (Below.trans LL (hb8.below LL.size (fun k h e => by omega)))
          refine anyU_one 17 rfl (by kernel_rfl) (by rfl) ?_
          refine wp_value (w' := V8) (.bool false) (by go_simp) ?_
          refine ⟨Rj_out (by rfl) (Later.refl _), ?_⟩
          simp only [Act.put, List.setIfInBounds_toArray, List.set_cons_zero, List.set_cons_succ]
          refine anyU_done (by kernel_rfl) ?_
          refine ⟨rfl, ?_⟩
          go_wp2_with fail
          go_meet
          case rel => exact ⟨⟨gn, rfl⟩, rfl, BB⟩
        case yt1416 =>
          have kA := block_cell HA
          have fA := block_frozen HA
          unfold Oper.wp
          go_simp
          refine ⟨Rj_in (by rfl) trivial, ?_⟩
          clear kA fA
          generalize hV : ((((((((W5.setCell ⟨gn, 0, none⟩ _).setCell ⟨gn, 1, none⟩ _).setCell ⟨gn, 2, none⟩ _).setCell ⟨gn, 3, none⟩ _).setCell ⟨gn, 4, none⟩ _).setCell ⟨gn, 5, none⟩ _).setCell ⟨gn, 6, none⟩ _).setCell ⟨gn, 7, none⟩ _) = V8
          have hV9 : V8 = putRow W5 gn 0 [.int .i64 0, .int .u8 0, .int .u32 0, .int .i64 0, .int .u32 0, .int .u16 0, .int .u32 0, .int .u16 0] := hV.symm
          have hb8 : But (fun b => b = gn) W5 V8 := by rw [hV9]; exact putRow_but (E := fun b => b = gn) (n := gn) rfl _ _ _ _ (But.refl _ _)
          have p8 := putRow_all [.int .i64 0, .int .u8 0, .int .u32 0, .int .i64 0, .int .u32 0, .int .u16 0, .int .u32 0, .int .u16 0] HA rfl
          rw [← hV9] at p8
          have PP := hide p8
          clear hV hV9 p8
          have BB := hide (Below.trans LL (hb8.below LL.size (fun k h e => by omega)))
          refine anyU_one 14 rfl (by kernel_rfl) (by rfl) ?_
          refine wp_value (w' := V8) (.bool false) (by go_simp) ?_
          refine ⟨Rj_out (by rfl) (Later.refl _), ?_⟩
          simp only [Act.put, List.setIfInBounds_toArray, List.set_cons_zero, List.set_cons_succ]
          refine anyU_one 17 rfl (by kernel_rfl) (by rfl) ?_
          refine wp_value (w' := V8) (.bool false) (by go_simp) ?_
          refine ⟨Rj_out (by rfl) (Later.refl _), ?_⟩
          simp only [Act.put, List.setIfInBounds_toArray, List.set_cons_zero, List.set_cons_succ]
          refine anyU_done (by kernel_rfl) ?_
          refine ⟨rfl, ?_⟩
          go_wp2_with fail
          go_meet
          case rel => exact ⟨⟨gn, rfl⟩, rfl, BB⟩
    case rest =>
      obtain ⟨⟨gm, rfl⟩, rfl, HL3⟩ := hcut
      have L3 := HL3.out
      go_wp2_with fail
      refine (grefuse_yes 3 _).mono ?_
      rintro e w4 ⟨rfl, rfl⟩
      exact ⟨rfl, ⟨3, by decide, rfl⟩, LW2.trans L3⟩

set_option maxRecDepth 100000 in
set_option maxHeartbeats 8000000 in
theorem beginInside_none (base g : Nat) (s : Gs) (tos id ttl pr src dst : Int) (keep : Bool) (so sd : Value) (side : Int) (p x d a b : Int) (w : World) (h : GI base w g s) (hok : okL s.ls) (hx : 0 ≤ x ∧ x ≤ 4294967295) (hn : ∀ y ∈ s.ls, y.kind ≠ 1) :
    Calls Tryz.prog 185 #[.agg #[.pointer (some ⟨g, 0, none⟩), .int .u8 tos, .int .u16 id, .bool keep, .int .u8 ttl, .int .u8 pr, .int .u32 src, .int .u32 dst, so, sd, .int .i64 side], .agg #[.int .u8 p, .int .u32 x, .int .u32 d, .int .u16 a, .int .u16 b]] w fun e w' => Gvn e ∧ Later w w' := by
  obtain ⟨l0, c0, c1⟩ := alloc2 w (.cells #[.pointer (some ⟨g, 0, none⟩), .int .u8 tos, .int .u16 id, .bool keep, .int .u8 ttl, .int .u8 pr, .int .u32 src, .int .u32 dst, so, sd, .int .i64 side] 111) (.cells #[.int .u8 p, .int .u32 x, .int .u32 d, .int .u16 a, .int .u16 b] 69)
  have C0 := hide c0
  have C1 := hide c1
  have CG := hide (later_keep l0 h.gc)
  have HMQ := hide (fun W (l : Later w W) => masq_none base s.gr s.vr s.ls x W (h.rl.later l) hok hx hn)
  clear c0 c1 hn h hok hx
  go_enter Tryz.func185, Tryz.ntmps185
  go_upto_region 1 with fail
  generalize (w.alloc (.cells #[.pointer (some ⟨g, 0, none⟩), .int .u8 tos, .int .u16 id, .bool keep, .int .u8 ttl, .int .u8 pr, .int .u32 src, .int .u32 dst, so, sd, .int .i64 side] 111)).alloc (.cells #[.int .u8 p, .int .u32 x, .int .u32 d, .int .u16 a, .int .u16 b] 69) = w1 at *
  generalize w.heap.size = gx at C0 C1 ⊢
  have LW0 : Later w w1 := l0
  go_cut [5, 6] (fun v c wx => (∃ gn, v = .pointer (some ⟨gn, 0, none⟩)) ∧ c = .bool false ∧ Hid (Later w1 wx))
  case first =>
    refine wp_calmG ?_
    refine anyU_begin (R1 := Later) (R2 := fun _ _ => True) (D := [12]) 14 rfl (by kernel_rfl) ?_
    have ld : Later w1 w1.drew := Later.drew w1
    generalize w1.drew = Wd at *
    have LWd : Later w Wd := LW0.trans ld
    have q0 : ∀ v1, Later Wd v1 → ∀ j, v1.cell? ⟨gx, j, none⟩ = #[.pointer (some ⟨g, 0, none⟩), .int .u8 tos, .int .u16 id, .bool keep, .int .u8 ttl, .int .u8 pr, .int .u32 src, .int .u32 dst, so, sd, .int .i64 side][j]? := fun v1 hv => block_cell (later_keep (ld.trans hv) C0.out)
    have q1 : ∀ v1, Later Wd v1 → ∀ j, v1.cell? ⟨gx + 1, j, none⟩ = #[.int .u8 p, .int .u32 x, .int .u32 d, .int .u16 a, .int .u16 b][j]? := fun v1 hv => block_cell (later_keep (ld.trans hv) C1.out)
    have q2 : ∀ v1, Later Wd v1 → ∀ j, v1.cell? ⟨g, j, none⟩ = (gtc s).toArray[j]? := fun v1 hv => block_cell (later_keep (ld.trans hv) CG.out)
    unfold gtc at q2
    refine anyU_val Later.pre 0 [1, 2, 3, 4, 7, 8, 9, 10, 12, 13] rfl (by rfl) (by rfl) (by kernel_rfl) (by kernel_rfl) (by kernel_rfl) (by kernel_rfl) (by kernel_rfl) (fun _ _ _ _ h => by cases h.1) (by rfl) ?_; apply Exists.intro; refine ⟨fun v1 hv1 => ?_, ?_⟩; (· (go_simp; rfl)); simp only [Act.put, List.setIfInBounds_toArray, List.set_cons_zero, List.set_cons_succ]
    refine anyU_val Later.pre 1 [2, 3, 4, 7, 8, 9, 10, 12, 13] rfl (by rfl) (by rfl) (by kernel_rfl) (by kernel_rfl) (by kernel_rfl) (by kernel_rfl) (by kernel_rfl) (fun _ _ _ _ h => by cases h.1) (by rfl) ?_; apply Exists.intro; refine ⟨fun v1 hv1 => ?_, ?_⟩; (· (go_simp; rfl)); simp only [Act.put, List.setIfInBounds_toArray, List.set_cons_zero, List.set_cons_succ]
    refine anyU_val Later.pre 2 [3, 4, 7, 8, 9, 10, 12, 13] rfl (by rfl) (by rfl) (by kernel_rfl) (by kernel_rfl) (by kernel_rfl) (by kernel_rfl) (by kernel_rfl) (fun _ _ _ _ h => by cases h.1) (by rfl) ?_; apply Exists.intro; refine ⟨fun v1 hv1 => ?_, ?_⟩; (· (go_simp; rfl)); simp only [Act.put, List.setIfInBounds_toArray, List.set_cons_zero, List.set_cons_succ]
    refine anyU_val Later.pre 3 [4, 7, 8, 9, 10, 12, 13] rfl (by rfl) (by rfl) (by kernel_rfl) (by kernel_rfl) (by kernel_rfl) (by kernel_rfl) (by kernel_rfl) (fun _ _ _ _ h => by cases h.1) (by rfl) ?_; apply Exists.intro; refine ⟨fun v1 hv1 => ?_, ?_⟩; (· (go_simp; rfl)); simp only [Act.put, List.setIfInBounds_toArray, List.set_cons_zero, List.set_cons_succ]
    refine anyU_val Later.pre 4 [7, 8, 9, 10, 12, 13] rfl (by rfl) (by rfl) (by kernel_rfl) (by kernel_rfl) (by kernel_rfl) (by kernel_rfl) (by kernel_rfl) (fun _ _ _ _ h => by cases h.1) (by rfl) ?_; apply Exists.intro; refine ⟨fun v1 hv1 => ?_, ?_⟩; (· (go_simp; rfl)); simp only [Act.put, List.setIfInBounds_toArray, List.set_cons_zero, List.set_cons_succ]
    refine anyU_val Later.pre 5 [6, 7, 8, 9, 10, 12, 13] rfl (by rfl) (by rfl) (by kernel_rfl) (by kernel_rfl) (by kernel_rfl) (by kernel_rfl) (by kernel_rfl) (fun _ _ _ _ h => by cases h.1) (by rfl) ?_; apply Exists.intro; refine ⟨fun v1 hv1 => ?_, ?_⟩; (· (go_simp; rfl)); simp only [Act.put, List.setIfInBounds_toArray, List.set_cons_zero, List.set_cons_succ]
    refine anyU_val Later.pre 6 [7, 8, 9, 10, 12, 13] rfl (by rfl) (by rfl) (by kernel_rfl) (by kernel_rfl) (by kernel_rfl) (by kernel_rfl) (by kernel_rfl) (fun _ _ _ _ h => by cases h.1) (by rfl) ?_; apply Exists.intro; refine ⟨fun v1 hv1 => ?_, ?_⟩; (· (go_simp; rfl)); simp only [Act.put, List.setIfInBounds_toArray, List.set_cons_zero, List.set_cons_succ]
    clear q0 q1 q2
    refine anyU_two 7 11 rfl rfl (by kernel_rfl) (by rfl) (by rfl) ?ca ?al
    case ca =>
      refine wp_enter 230 #[.pointer (some ⟨s.gr, 0, none⟩), .int .u32 x] (by go_simp) ?_
      refine (HMQ.out Wd LWd).mono ?_
      rintro e W1 ⟨rfl, l1⟩
      refine ⟨Rj_out (by rfl) l1, ?_⟩
      simp only [Act.put, List.setIfInBounds_toArray, List.set_cons_zero, List.set_cons_succ]
      refine anyU_val Later.pre 8 [9, 10, 12, 13] rfl (by rfl) (by rfl) (by kernel_rfl) (by kernel_rfl) (by kernel_rfl) (by kernel_rfl) (by kernel_rfl) (fun _ _ _ _ h => by cases h.1) (by rfl) ?_; apply Exists.intro; refine ⟨fun v1 hv1 => ?_, ?_⟩; (· (go_simp; rfl)); simp only [Act.put, List.setIfInBounds_toArray, List.set_cons_zero, List.set_cons_succ]
      refine anyU_val Later.pre 9 [12, 13] rfl (by rfl) (by rfl) (by kernel_rfl) (by kernel_rfl) (by kernel_rfl) (by kernel_rfl) (by kernel_rfl) (fun _ _ _ _ h => by cases h.1) (by rfl) ?_; apply Exists.intro; refine ⟨fun v1 hv1 => ?_, ?_⟩; (· (go_simp; rfl)); simp only [Act.put, List.setIfInBounds_toArray, List.set_cons_zero, List.set_cons_succ]
      have HSZ := (ld.trans l1).size
      refine anyU_two 10 11 rfl rfl (by kernel_rfl) (by rfl) (by rfl) ?xt1011 ?yt1011
      case xt1011 =>
        refine wp_value (w' := W1) (.bool false) (by go_simp) ?_
        refine ⟨Rj_out (by rfl) (Later.refl _), ?_⟩
        simp only [Act.put, List.setIfInBounds_toArray, List.set_cons_zero, List.set_cons_succ]
        refine anyU_one 11 rfl (by kernel_rfl) (by rfl) ?_
        have la := later_allocG W1 (.cells #[.int .i64 0, .int .u8 0, .int .u32 0, .int .i64 0, .int .u32 0, .int .u16 0, .int .u32 0, .int .u16 0] 28)
        have HA0 := heap_alloc_new W1 (.cells #[.int .i64 0, .int .u8 0, .int .u32 0, .int .i64 0, .int .u32 0, .int .u16 0, .int .u32 0, .int .u16 0] 28)
        unfold Oper.wp
        go_simp
        refine ⟨Rj_out (by rfl) la, ?_⟩
        change wpAnyU _ _ _ _ _ _ _ _ _ _ (W1.alloc (.cells #[.int .i64 0, .int .u8 0, .int .u32 0, .int .i64 0, .int .u32 0, .int .u16 0, .int .u32 0, .int .u16 0] 28))
        have hgn : w1.heap.size ≤ W1.heap.size := HSZ
        generalize W1.alloc (.cells #[.int .i64 0, .int .u8 0, .int .u32 0, .int .i64 0, .int .u32 0, .int .u16 0, .int .u32 0, .int .u16 0] 28) = W5 at *
        generalize W1.heap.size = gn at *
        have HA := HA0
        have LL := ld.trans (l1.trans la)
        refine anyU_one 12 rfl (by kernel_rfl) (by rfl) ?_
        have kA := block_cell HA
        have fA := block_frozen HA
        unfold Oper.wp
        go_simp
        refine ⟨Rj_in (by rfl) trivial, ?_⟩
        clear kA fA
        generalize hV : ((((((((W5.setCell ⟨gn, 0, none⟩ _).setCell ⟨gn, 1, none⟩ _).setCell ⟨gn, 2, none⟩ _).setCell ⟨gn, 3, none⟩ _).setCell ⟨gn, 4, none⟩ _).setCell ⟨gn, 5, none⟩ _).setCell ⟨gn, 6, none⟩ _).setCell ⟨gn, 7, none⟩ _) = V8
        have hV9 : V8 = putRow W5 gn 0 [.int .i64 0, .int .u8 0, .int .u32 0, .int .i64 0, .int .u32 0, .int .u16 0, .int .u32 0, .int .u16 0] := hV.symm
        have hb8 : But (fun b => b = gn) W5 V8 := by rw [hV9]; exact putRow_but (E := fun b => b = gn) (n := gn) rfl _ _ _ _ (But.refl _ _)
        have p8 := putRow_all [.int .i64 0, .int .u8 0, .int .u32 0, .int .i64 0, .int .u32 0, .int .u16 0, .int .u32 0, .int .u16 0] HA rfl
        rw [← hV9] at p8
        have PP := hide p8
        clear hV hV9 p8
        have BB := hide (Below.trans LL (hb8.below LL.size (fun k h e => by omega)))
        refine anyU_one 13 rfl (by kernel_rfl) (by rfl) ?_
        refine wp_value (w' := V8) (.bool false) (by go_simp) ?_
        refine ⟨Rj_out (by rfl) (Later.refl _), ?_⟩
        simp only [Act.put, List.setIfInBounds_toArray, List.set_cons_zero, List.set_cons_succ]
        refine anyU_done (by kernel_rfl) ?_
        refine ⟨rfl, ?_⟩
        go_wp2_with fail
        go_meet
        case rel => exact ⟨⟨gn, rfl⟩, rfl, BB⟩
      case yt1011 =>
        have la := later_allocG W1 (.cells #[.int .i64 0, .int .u8 0, .int .u32 0, .int .i64 0, .int .u32 0, .int .u16 0, .int .u32 0, .int .u16 0] 28)
        have HA0 := heap_alloc_new W1 (.cells #[.int .i64 0, .int .u8 0, .int .u32 0, .int .i64 0, .int .u32 0, .int .u16 0, .int .u32 0, .int .u16 0] 28)
        unfold Oper.wp
        go_simp
        refine ⟨Rj_out (by rfl) la, ?_⟩
        change wpAnyU _ _ _ _ _ _ _ _ _ _ (W1.alloc (.cells #[.int .i64 0, .int .u8 0, .int .u32 0, .int .i64 0, .int .u32 0, .int .u16 0, .int .u32 0, .int .u16 0] 28))
        have hgn : w1.heap.size ≤ W1.heap.size := HSZ
        generalize W1.alloc (.cells #[.int .i64 0, .int .u8 0, .int .u32 0, .int .i64 0, .int .u32 0, .int .u16 0, .int .u32 0, .int .u16 0] 28) = W5 at *
        generalize W1.heap.size = gn at *
        have HA := HA0
        have LL := ld.trans (l1.trans la)
        refine anyU_two 10 12 rfl rfl (by kernel_rfl) (by rfl) (by rfl) ?xt1012 ?yt1012
        case xt1012 =>
          refine wp_value (w' := W5) (.bool false) (by go_simp) ?_
          refine ⟨Rj_out (by rfl) (Later.refl _), ?_⟩
          simp only [Act.put, List.setIfInBounds_toArray, List.set_cons_zero, List.set_cons_succ]
          refine anyU_one 12 rfl (by kernel_rfl) (by rfl) ?_
          have kA := block_cell HA
          have fA := block_frozen HA
          unfold Oper.wp
          go_simp
          refine ⟨Rj_in (by rfl) trivial, ?_⟩
          clear kA fA
          generalize hV : ((((((((W5.setCell ⟨gn, 0, none⟩ _).setCell ⟨gn, 1, none⟩ _).setCell ⟨gn, 2, none⟩ _).setCell ⟨gn, 3, none⟩ _).setCell ⟨gn, 4, none⟩ _).setCell ⟨gn, 5, none⟩ _).setCell ⟨gn, 6, none⟩ _).setCell ⟨gn, 7, none⟩ _) = V8
          have hV9 : V8 = putRow W5 gn 0 [.int .i64 0, .int .u8 0, .int .u32 0, .int .i64 0, .int .u32 0, .int .u16 0, .int .u32 0, .int .u16 0] := hV.symm
          have hb8 : But (fun b => b = gn) W5 V8 := by rw [hV9]; exact putRow_but (E := fun b => b = gn) (n := gn) rfl _ _ _ _ (But.refl _ _)
          have p8 := putRow_all [.int .i64 0, .int .u8 0, .int .u32 0, .int .i64 0, .int .u32 0, .int .u16 0, .int .u32 0, .int .u16 0] HA rfl
          rw [← hV9] at p8
          have PP := hide p8
          clear hV hV9 p8
          have BB := hide (Below.trans LL (hb8.below LL.size (fun k h e => by omega)))
          refine anyU_one 13 rfl (by kernel_rfl) (by rfl) ?_
          refine wp_value (w' := V8) (.bool false) (by go_simp) ?_
          refine ⟨Rj_out (by rfl) (Later.refl _), ?_⟩
          simp only [Act.put, List.setIfInBounds_toArray, List.set_cons_zero, List.set_cons_succ]
          refine anyU_done (by kernel_rfl) ?_
          refine ⟨rfl, ?_⟩
          go_wp2_with fail
          go_meet
          case rel => exact ⟨⟨gn, rfl⟩, rfl, BB⟩
        case yt1012 =>
          have kA := block_cell HA
          have fA := block_frozen HA
          unfold Oper.wp
          go_simp
          refine ⟨Rj_in (by rfl) trivial, ?_⟩
          clear kA fA
          generalize hV : ((((((((W5.setCell ⟨gn, 0, none⟩ _).setCell ⟨gn, 1, none⟩ _).setCell ⟨gn, 2, none⟩ _).setCell ⟨gn, 3, none⟩ _).setCell ⟨gn, 4, none⟩ _).setCell ⟨gn, 5, none⟩ _).setCell ⟨gn, 6, none⟩ _).setCell ⟨gn, 7, none⟩ _) = V8
          have hV9 : V8 = putRow W5 gn 0 [.int .i64 0, .int .u8 0, .int .u32 0, .int .i64 0, .int .u32 0, .int .u16 0, .int .u32 0, .int .u16 0] := hV.symm
          have hb8 : But (fun b => b = gn) W5 V8 := by rw [hV9]; exact putRow_but (E := fun b => b = gn) (n := gn) rfl _ _ _ _ (But.refl _ _)
          have p8 := putRow_all [.int .i64 0, .int .u8 0, .int .u32 0, .int .i64 0, .int .u32 0, .int .u16 0, .int .u32 0, .int .u16 0] HA rfl
          rw [← hV9] at p8
          have PP := hide p8
          clear hV hV9 p8
          have BB := hide (Below.trans LL (hb8.below LL.size (fun k h e => by omega)))
          refine anyU_one 10 rfl (by kernel_rfl) (by rfl) ?_
          refine wp_value (w' := V8) (.bool false) (by go_simp) ?_
          refine ⟨Rj_out (by rfl) (Later.refl _), ?_⟩
          simp only [Act.put, List.setIfInBounds_toArray, List.set_cons_zero, List.set_cons_succ]
          refine anyU_one 13 rfl (by kernel_rfl) (by rfl) ?_
          refine wp_value (w' := V8) (.bool false) (by go_simp) ?_
          refine ⟨Rj_out (by rfl) (Later.refl _), ?_⟩
          simp only [Act.put, List.setIfInBounds_toArray, List.set_cons_zero, List.set_cons_succ]
          refine anyU_done (by kernel_rfl) ?_
          refine ⟨rfl, ?_⟩
          go_wp2_with fail
          go_meet
          case rel => exact ⟨⟨gn, rfl⟩, rfl, BB⟩
    case al =>
      have HSZ := ld.size
      have la := later_allocG Wd (.cells #[.int .i64 0, .int .u8 0, .int .u32 0, .int .i64 0, .int .u32 0, .int .u16 0, .int .u32 0, .int .u16 0] 28)
      have HA0 := heap_alloc_new Wd (.cells #[.int .i64 0, .int .u8 0, .int .u32 0, .int .i64 0, .int .u32 0, .int .u16 0, .int .u32 0, .int .u16 0] 28)
      unfold Oper.wp
      go_simp
      refine ⟨Rj_out (by rfl) la, ?_⟩
      change wpAnyU _ _ _ _ _ _ _ _ _ _ (Wd.alloc (.cells #[.int .i64 0, .int .u8 0, .int .u32 0, .int .i64 0, .int .u32 0, .int .u16 0, .int .u32 0, .int .u16 0] 28))
      have hgn : w1.heap.size ≤ Wd.heap.size := HSZ
      generalize Wd.alloc (.cells #[.int .i64 0, .int .u8 0, .int .u32 0, .int .i64 0, .int .u32 0, .int .u16 0, .int .u32 0, .int .u16 0] 28) = W3 at *
      generalize Wd.heap.size = gn at *
      refine anyU_one 7 rfl (by kernel_rfl) (by rfl) ?_
      refine wp_enter 230 #[.pointer (some ⟨s.gr, 0, none⟩), .int .u32 x] (by go_simp) ?_
      refine (HMQ.out W3 (LWd.trans la)).mono ?_
      rintro e W5 ⟨rfl, l1⟩
      refine ⟨Rj_out (by rfl) l1, ?_⟩
      simp only [Act.put, List.setIfInBounds_toArray, List.set_cons_zero, List.set_cons_succ]
      refine anyU_val Later.pre 8 [9, 10, 12, 13] rfl (by rfl) (by rfl) (by kernel_rfl) (by kernel_rfl) (by kernel_rfl) (by kernel_rfl) (by kernel_rfl) (fun _ _ _ _ h => by cases h.1) (by rfl) ?_; apply Exists.intro; refine ⟨fun v1 hv1 => ?_, ?_⟩; (· (go_simp; rfl)); simp only [Act.put, List.setIfInBounds_toArray, List.set_cons_zero, List.set_cons_succ]
      refine anyU_val Later.pre 9 [12, 13] rfl (by rfl) (by rfl) (by kernel_rfl) (by kernel_rfl) (by kernel_rfl) (by kernel_rfl) (by kernel_rfl) (fun _ _ _ _ h => by cases h.1) (by rfl) ?_; apply Exists.intro; refine ⟨fun v1 hv1 => ?_, ?_⟩; (· (go_simp; rfl)); simp only [Act.put, List.setIfInBounds_toArray, List.set_cons_zero, List.set_cons_succ]
      have HA := later_keep l1 HA0
      have LL := ld.trans (la.trans l1)
      refine anyU_two 10 12 rfl rfl (by kernel_rfl) (by rfl) (by rfl) ?xt1012 ?yt1012
      case xt1012 =>
        refine wp_value (w' := W5) (.bool false) (by go_simp) ?_
        refine ⟨Rj_out (by rfl) (Later.refl _), ?_⟩
        simp only [Act.put, List.setIfInBounds_toArray, List.set_cons_zero, List.set_cons_succ]
        refine anyU_one 12 rfl (by kernel_rfl) (by rfl) ?_
        have kA := block_cell HA
        have fA := block_frozen HA
        unfold Oper.wp
        go_simp
        refine ⟨Rj_in (by rfl) trivial, ?_⟩
        clear kA fA
        generalize hV : ((((((((W5.setCell ⟨gn, 0, none⟩ _).setCell ⟨gn, 1, none⟩ _).setCell ⟨gn, 2, none⟩ _).setCell ⟨gn, 3, none⟩ _).setCell ⟨gn, 4, none⟩ _).setCell ⟨gn, 5, none⟩ _).setCell ⟨gn, 6, none⟩ _).setCell ⟨gn, 7, none⟩ _) = V8
        have hV9 : V8 = putRow W5 gn 0 [.int .i64 0, .int .u8 0, .int .u32 0, .int .i64 0, .int .u32 0, .int .u16 0, .int .u32 0, .int .u16 0] := hV.symm
        have hb8 : But (fun b => b = gn) W5 V8 := by rw [hV9]; exact putRow_but (E := fun b => b = gn) (n := gn) rfl _ _ _ _ (But.refl _ _)
        have p8 := putRow_all [.int .i64 0, .int .u8 0, .int .u32 0, .int .i64 0, .int .u32 0, .int .u16 0, .int .u32 0, .int .u16 0] HA rfl
        rw [← hV9] at p8
        have PP := hide p8
        clear hV hV9 p8
        have BB := hide (Below.trans LL (hb8.below LL.size (fun k h e => by omega)))
        refine anyU_one 13 rfl (by kernel_rfl) (by rfl) ?_
        refine wp_value (w' := V8) (.bool false) (by go_simp) ?_
        refine ⟨Rj_out (by rfl) (Later.refl _), ?_⟩
        simp only [Act.put, List.setIfInBounds_toArray, List.set_cons_zero, List.set_cons_succ]
        refine anyU_done (by kernel_rfl) ?_
        refine ⟨rfl, ?_⟩
        go_wp2_with fail
        go_meet
        case rel => exact ⟨⟨gn, rfl⟩, rfl, BB⟩
      case yt1012 =>
        have kA := block_cell HA
        have fA := block_frozen HA
        unfold Oper.wp
        go_simp
        refine ⟨Rj_in (by rfl) trivial, ?_⟩
        clear kA fA
        generalize hV : ((((((((W5.setCell ⟨gn, 0, none⟩ _).setCell ⟨gn, 1, none⟩ _).setCell ⟨gn, 2, none⟩ _).setCell ⟨gn, 3, none⟩ _).setCell ⟨gn, 4, none⟩ _).setCell ⟨gn, 5, none⟩ _).setCell ⟨gn, 6, none⟩ _).setCell ⟨gn, 7, none⟩ _) = V8
        have hV9 : V8 = putRow W5 gn 0 [.int .i64 0, .int .u8 0, .int .u32 0, .int .i64 0, .int .u32 0, .int .u16 0, .int .u32 0, .int .u16 0] := hV.symm
        have hb8 : But (fun b => b = gn) W5 V8 := by rw [hV9]; exact putRow_but (E := fun b => b = gn) (n := gn) rfl _ _ _ _ (But.refl _ _)
        have p8 := putRow_all [.int .i64 0, .int .u8 0, .int .u32 0, .int .i64 0, .int .u32 0, .int .u16 0, .int .u32 0, .int .u16 0] HA rfl
        rw [← hV9] at p8
        have PP := hide p8
        clear hV hV9 p8
        have BB := hide (Below.trans LL (hb8.below LL.size (fun k h e => by omega)))
        refine anyU_one 10 rfl (by kernel_rfl) (by rfl) ?_
        refine wp_value (w' := V8) (.bool false) (by go_simp) ?_
        refine ⟨Rj_out (by rfl) (Later.refl _), ?_⟩
        simp only [Act.put, List.setIfInBounds_toArray, List.set_cons_zero, List.set_cons_succ]
        refine anyU_one 13 rfl (by kernel_rfl) (by rfl) ?_
        refine wp_value (w' := V8) (.bool false) (by go_simp) ?_
        refine ⟨Rj_out (by rfl) (Later.refl _), ?_⟩
        simp only [Act.put, List.setIfInBounds_toArray, List.set_cons_zero, List.set_cons_succ]
        refine anyU_done (by kernel_rfl) ?_
        refine ⟨rfl, ?_⟩
        go_wp2_with fail
        go_meet
        case rel => exact ⟨⟨gn, rfl⟩, rfl, BB⟩
  case rest =>
    obtain ⟨⟨gm, rfl⟩, rfl, HL3⟩ := hcut
    have L3 := HL3.out
    go_wp2_with fail
    refine (grefuse_yes 2 _).mono ?_
    rintro e w4 ⟨rfl, rfl⟩
    exact ⟨rfl, ⟨2, by decide, rfl⟩, LW0.trans L3⟩
end Go.Proofs.YtohflohdbkamnaaGreatDoor

/- Package gate: a packet of no flow at a gateway behind which nobody has spoken is given up. -/
namespace Go.Proofs.YtohflohdbkamnaaGreatDoor
open Go.RowKit Go.Shelf
set_option maxRecDepth 100000
set_option linter.unusedVariables false
set_option linter.unusedSimpArgs false

/-- No rule lets a flow begin from that side. -/
def Shut (side : Int) (ls : List Ru) : Prop := (side = 1 ∧ ∀ y ∈ ls, y.kind ≠ 2) ∨ (side = 0 ∧ okL ls ∧ ∀ y ∈ ls, y.kind ≠ 1)
/-- A packet's data and addresses. -/
def PkI (W : World) (sd : Value) (zd : List Int) (src dst : Int) : Prop := Mt.By zd ∧ Rd W.heap.size W sd zd ∧ zd.length ≤ 70000 ∧ (0 ≤ src ∧ src ≤ 4294967295) ∧ (0 ≤ dst ∧ dst ≤ 4294967295)
theorem PkI.later {A B : World} {sd : Value} {zd : List Int} {src dst : Int} (h : PkI A sd zd src dst) (l : Later A B) : PkI B sd zd src dst := ⟨h.1, h.2.1.later l, h.2.2⟩
theorem wat4D {zs : List Int} (hB : Mt.By zs) (k : Nat) : 0 ≤ wat4 zs k ∧ wat4 zs k ≤ 4294967295 := by
  have b1 := wat_bd hB k
  have b2 := wat_bd hB (k + 2)
  unfold wat4
  omega
theorem qiaD {pr : Int} {d : List Int} (hB : Mt.By d) : 0 ≤ qia pr d ∧ qia pr d ≤ 65535 := by
  have h0 := wat_bd hB 0
  have h4 := wat_bd hB 4
  unfold qia
  split
  · exact h0
  split
  · exact h0
  split
  · exact h4
  · omega
theorem qibD {pr : Int} {d : List Int} (hB : Mt.By d) : 0 ≤ qib pr d ∧ qib pr d ≤ 65535 := by
  have h2 := wat_bd hB 2
  have h4 := wat_bd hB 4
  have h6 := wat_bd hB 6
  unfold qib
  split
  · exact h2
  split
  · exact h2
  split
  · exact h4
  · exact h6
theorem ofaD {zs : List Int} (pr : Int) (h : Mt.By zs) : 0 ≤ ofa pr zs ∧ ofa pr zs ≤ 65535 := by
  unfold ofa
  split
  · exact wat_bd h _
  split
  · exact wat_bd h _
  split
  · exact wat_bd h _
  · omega
theorem ofbD {zs : List Int} (pr : Int) (h : Mt.By zs) : 0 ≤ ofb pr zs ∧ ofb pr zs ≤ 65535 := by
  unfold ofb
  split
  · exact wat_bd h _
  split
  · exact wat_bd h _
  split
  · exact wat_bd h _
  · unfold getAt2
    split
    · exact wat_bd h _
    · omega

set_option maxRecDepth 100000 in
set_option maxHeartbeats 16000000 in
theorem begin_none (base g : Nat) (s : Gs) (tos id ttl pr src dst : Int) (keep : Bool) (so sd : Value) (side : Int) (zd : List Int) (p x d a b : Int) (w : World) (h : GI base w g s) (hS : Shut side s.ls) (hP : PkI w sd zd src dst) (hx : 0 ≤ x ∧ x ≤ 4294967295) :
    Calls Tryz.prog 131 #[.agg #[.pointer (some ⟨g, 0, none⟩), .int .u8 tos, .int .u16 id, .bool keep, .int .u8 ttl, .int .u8 pr, .int .u32 src, .int .u32 dst, so, sd, .int .i64 side], .agg #[.int .u8 p, .int .u32 x, .int .u32 d, .int .u16 a, .int .u16 b]] w fun e w' => Gvn e ∧ Later w w' := by
  obtain ⟨l0, c0, c1⟩ := alloc2 w (.cells #[.pointer (some ⟨g, 0, none⟩), .int .u8 tos, .int .u16 id, .bool keep, .int .u8 ttl, .int .u8 pr, .int .u32 src, .int .u32 dst, so, sd, .int .i64 side] 111) (.cells #[.int .u8 p, .int .u32 x, .int .u32 d, .int .u16 a, .int .u16 b] 69)
  have C0 := hide c0
  have C1 := hide c1
  clear c0 c1
  go_enter Tryz.func131, Tryz.ntmps131
  go_upto_region 1 with fail
  generalize (w.alloc (.cells #[.pointer (some ⟨g, 0, none⟩), .int .u8 tos, .int .u16 id, .bool keep, .int .u8 ttl, .int .u8 pr, .int .u32 src, .int .u32 dst, so, sd, .int .i64 side] 111)).alloc (.cells #[.int .u8 p, .int .u32 x, .int .u32 d, .int .u16 a, .int .u16 b] 69) = w1 at *
  generalize w.heap.size = gx at C0 C1 ⊢
  by_cases p6 : p = 6
  · subst p6
    have k0 := block_cell C0.out
    have k1 := block_cell C1.out
    go_wp2_with fail
    refine (flags_some g tos id ttl pr src dst keep so sd side zd w1 hP.1 (hP.2.1.later l0) hP.2.2.1 hP.2.2.2.1 hP.2.2.2.2).mono ?_
    rintro e w2 ⟨⟨f, rfl⟩, l2⟩
    clear k0 k1
    have k0 := block_cell (later_keep l2 C0.out)
    have k1 := block_cell (later_keep l2 C1.out)
    go_wp2_with fail
    refine (begins_any f _).mono ?_
    rintro e w3 ⟨rfl, hw3⟩
    subst hw3
    generalize bgn f = bb
    cases bb with
    | false =>
      go_wp2_with fail
      refine (grefuse_yes 5 _).mono ?_
      rintro e w4 ⟨rfl, rfl⟩
      exact ⟨rfl, ⟨5, by decide, rfl⟩, l0.trans l2⟩
    | true =>
      go_wp2_with fail
      refine (grefuse_no 5 _).mono ?_
      rintro e w4 ⟨rfl, hw4⟩
      subst hw4
      go_wp2_with fail
      refine (grefuse_no 5 _).mono ?_
      rintro e w4 ⟨rfl, hw4⟩
      subst hw4
      go_wp2_with fail
      refine (grefuse_no 3 _).mono ?_
      rintro e w4 ⟨rfl, hw4⟩
      subst hw4
      clear k0 k1
      have k0 := block_cell (later_keep l2 C0.out)
      have k1 := block_cell (later_keep l2 C1.out)
      rcases hS with ⟨rfl, hn⟩ | ⟨rfl, hok, hn⟩
      · go_wp2_with fail
        refine (beginOutside_none base g s tos id ttl pr src dst keep so sd 1 6 x d a b w3 (h.later (l0.trans l2)) hn).mono ?_
        rintro e w9 ⟨⟨c, hc, rfl⟩, l9⟩
        exact ⟨rfl, ⟨c, hc, rfl⟩, l0.trans (Later.trans l2 l9)⟩
      · go_wp2_with fail
        refine (beginInside_none base g s tos id ttl pr src dst keep so sd 0 6 x d a b w3 (h.later (l0.trans l2)) hok hx hn).mono ?_
        rintro e w9 ⟨⟨c, hc, rfl⟩, l9⟩
        exact ⟨rfl, ⟨c, hc, rfl⟩, l0.trans (Later.trans l2 l9)⟩
  by_cases p1 : p = 1
  · subst p1
    have k0 := block_cell C0.out
    have k1 := block_cell C1.out
    go_wp2_with fail
    refine (grefuse_no 5 _).mono ?_
    rintro e w4 ⟨rfl, hw4⟩
    subst hw4
    go_wp2_with fail
    refine (gasks_some g tos id ttl pr src dst keep so sd side zd _ hP.1 (hP.2.1.later l0) hP.2.2.1).mono ?_
    rintro e w2 ⟨⟨f, rfl⟩, l2⟩
    clear k0 k1
    have k0 := block_cell (later_keep l2 C0.out)
    have k1 := block_cell (later_keep l2 C1.out)
    cases f with
    | false =>
      go_wp2_with fail
      refine (grefuse_yes 5 _).mono ?_
      rintro e w4 ⟨rfl, rfl⟩
      exact ⟨rfl, ⟨5, by decide, rfl⟩, l0.trans l2⟩
    | true =>
      go_wp2_with fail
      refine (grefuse_no 5 _).mono ?_
      rintro e w4 ⟨rfl, hw4⟩
      subst hw4
      go_wp2_with fail
      refine (grefuse_no 3 _).mono ?_
      rintro e w4 ⟨rfl, hw4⟩
      subst hw4
      clear k0 k1
      have k0 := block_cell (later_keep l2 C0.out)
      have k1 := block_cell (later_keep l2 C1.out)
      rcases hS with ⟨rfl, hn⟩ | ⟨rfl, hok, hn⟩
      · go_wp2_with fail
        refine (beginOutside_none base g s tos id ttl pr src dst keep so sd 1 1 x d a b w2 (h.later (l0.trans l2)) hn).mono ?_
        rintro e w9 ⟨⟨c, hc, rfl⟩, l9⟩
        exact ⟨rfl, ⟨c, hc, rfl⟩, l0.trans (Later.trans l2 l9)⟩
      · go_wp2_with fail
        refine (beginInside_none base g s tos id ttl pr src dst keep so sd 0 1 x d a b w2 (h.later (l0.trans l2)) hok hx hn).mono ?_
        rintro e w9 ⟨⟨c, hc, rfl⟩, l9⟩
        exact ⟨rfl, ⟨c, hc, rfl⟩, l0.trans (Later.trans l2 l9)⟩
  have t1 : (p == 6) = false := by rw [beq_eq_false_iff_ne]; exact p6
  have t2 : (p == 1) = false := by rw [beq_eq_false_iff_ne]; exact p1
  have k0 := block_cell C0.out
  have k1 := block_cell C1.out
  go_wp2_with fail
  refine (grefuse_no 5 _).mono ?_
  rintro e w4 ⟨rfl, hw4⟩
  subst hw4
  go_wp2_with fail
  refine (grefuse_no 5 _).mono ?_
  rintro e w4 ⟨rfl, hw4⟩
  subst hw4
  by_cases p47 : p = 47
  · have t3 : (p == 47) = true := by simp [p47]
    go_wp2_with fail
    refine (grefuse_yes 3 _).mono ?_
    rintro e w4 ⟨rfl, rfl⟩
    exact ⟨rfl, ⟨3, by decide, rfl⟩, l0⟩
  · have t3 : (p == 47) = false := by rw [beq_eq_false_iff_ne]; exact p47
    go_wp2_with fail
    refine (grefuse_no 3 _).mono ?_
    rintro e w4 ⟨rfl, hw4⟩
    subst hw4
    clear k0 k1
    have lr := Later.refl w1
    have k0 := block_cell (later_keep lr C0.out)
    have k1 := block_cell (later_keep lr C1.out)
    rcases hS with ⟨rfl, hn⟩ | ⟨rfl, hok, hn⟩
    · go_wp2_with fail
      refine (beginOutside_none base g s tos id ttl pr src dst keep so sd 1 p x d a b w1 (h.later (l0.trans lr)) hn).mono ?_
      rintro e w9 ⟨⟨c, hc, rfl⟩, l9⟩
      exact ⟨rfl, ⟨c, hc, rfl⟩, l0.trans (Later.trans lr l9)⟩
    · go_wp2_with fail
      refine (beginInside_none base g s tos id ttl pr src dst keep so sd 0 p x d a b w1 (h.later (l0.trans lr)) hok hx hn).mono ?_
      rintro e w9 ⟨⟨c, hc, rfl⟩, l9⟩
      exact ⟨rfl, ⟨c, hc, rfl⟩, l0.trans (Later.trans lr l9)⟩

set_option maxRecDepth 100000 in
set_option maxHeartbeats 8000000 in
theorem owner_none (base g : Nat) (s : Gs) (tos id ttl pr src dst : Int) (keep : Bool) (so sd : Value) (side : Int) (zd : List Int) (p x d a b : Int) (w : World) (h : GI base w g s) (hS : Shut side s.ls) (hP : PkI w sd zd src dst) (hx : 0 ≤ x ∧ x ≤ 4294967295) (hd : 0 ≤ d ∧ d ≤ 4294967295) (ha : 0 ≤ a ∧ a ≤ 65535) (hb : 0 ≤ b ∧ b ≤ 65535) :
    Calls Tryz.prog 81 #[.agg #[.pointer (some ⟨g, 0, none⟩), .int .u8 tos, .int .u16 id, .bool keep, .int .u8 ttl, .int .u8 pr, .int .u32 src, .int .u32 dst, so, sd, .int .i64 side], .agg #[.int .u8 p, .int .u32 x, .int .u32 d, .int .u16 a, .int .u16 b]] w fun e w' => Gvn e ∧ Later w w' := by
  obtain ⟨l0, c0, c1⟩ := alloc2 w (.cells #[.pointer (some ⟨g, 0, none⟩), .int .u8 tos, .int .u16 id, .bool keep, .int .u8 ttl, .int .u8 pr, .int .u32 src, .int .u32 dst, so, sd, .int .i64 side] 111) (.cells #[.int .u8 p, .int .u32 x, .int .u32 d, .int .u16 a, .int .u16 b] 69)
  have C0 := hide c0
  have C1 := hide c1
  clear c0 c1
  go_enter Tryz.func81, Tryz.ntmps81
  go_upto_region 1 with fail
  generalize (w.alloc (.cells #[.pointer (some ⟨g, 0, none⟩), .int .u8 tos, .int .u16 id, .bool keep, .int .u8 ttl, .int .u8 pr, .int .u32 src, .int .u32 dst, so, sd, .int .i64 side] 111)).alloc (.cells #[.int .u8 p, .int .u32 x, .int .u32 d, .int .u16 a, .int .u16 b] 69) = w1 at *
  generalize w.heap.size = gx at C0 C1 ⊢
  have k0 := block_cell C0.out
  have k1 := block_cell C1.out
  go_wp2_with fail
  refine (lookUp_none base g s p x d a b w1 (h.later l0) hx hd ha hb).mono ?_
  rintro e w2 ⟨rfl, l2⟩
  clear k0 k1
  have k0 := block_cell (later_keep l2 C0.out)
  have k1 := block_cell (later_keep l2 C1.out)
  go_wp2_with fail
  refine (begin_none base g s tos id ttl pr src dst keep so sd side zd p x d a b w2 (h.later (l0.trans l2)) hS (hP.later (l0.trans l2)) hx).mono ?_
  rintro e w9 ⟨⟨c, hc, rfl⟩, l9⟩
  exact ⟨rfl, ⟨c, hc, rfl⟩, l0.trans (Later.trans l2 l9)⟩

set_option maxRecDepth 100000 in
set_option maxHeartbeats 8000000 in
theorem requoted_none (base g : Nat) (s : Gs) (tos id ttl pr src dst : Int) (keep : Bool) (so sd : Value) (side : Int) (zd : List Int) (w : World) (h : GI base w g s) (hT : Tb w) (hP : PkI w sd zd src dst) :
    Calls Tryz.prog 80 #[.agg #[.pointer (some ⟨g, 0, none⟩), .int .u8 tos, .int .u16 id, .bool keep, .int .u8 ttl, .int .u8 pr, .int .u32 src, .int .u32 dst, so, sd, .int .i64 side]] w fun e w' => Gvn e ∧ Later w w' := by
  obtain ⟨l0, c0, c1⟩ := alloc2 w (.cells #[.pointer (some ⟨g, 0, none⟩), .int .u8 tos, .int .u16 id, .bool keep, .int .u8 ttl, .int .u8 pr, .int .u32 src, .int .u32 dst, so, sd, .int .i64 side] 111) (.cells #[.int .u8 0, .int .u16 0, .bool false, .int .u8 0, .int .u8 0, .int .u32 0, .int .u32 0, .slice none 0 0, .slice none 0 0] 78)
  have C0 := hide c0
  clear c0 c1
  have HQ := hide (fun W (l : Later w W) => quoted_any tos id ttl pr src dst keep so sd zd W (hT.later l) hP.1 (hP.2.1.later l) (by have := hP.2.2.1; omega))
  have hB8 := hP.1.drop 8
  have b1 := wat4D hB8 12
  have b2 := wat4D hB8 16
  have hBq : Mt.By (qdt (zd.drop 8)) := (hB8.take _).drop _
  have b3 := qiaD (pr := qpr (zd.drop 8)) hBq
  have b4 := qibD (pr := qpr (zd.drop 8)) hBq
  unfold quv at HQ
  generalize que pr zd = e0 at *
  generalize qpr (zd.drop 8) = qp at *
  generalize wat4 (zd.drop 8) 12 = x at *
  generalize wat4 (zd.drop 8) 16 = d at *
  generalize qia qp (qdt (zd.drop 8)) = a at *
  generalize qib qp (qdt (zd.drop 8)) = b at *
  clear hB8 hBq
  go_enter Tryz.func80, Tryz.ntmps80
  go_upto_region 1 with fail
  generalize (w.alloc (.cells #[.pointer (some ⟨g, 0, none⟩), .int .u8 tos, .int .u16 id, .bool keep, .int .u8 ttl, .int .u8 pr, .int .u32 src, .int .u32 dst, so, sd, .int .i64 side] 111)).alloc _ = w1 at *
  generalize w.heap.size = gx at C0 ⊢
  have k0 := block_cell C0.out
  go_wp2_with fail
  refine (HQ.out w1 l0).mono ?_
  rintro e w2 ⟨l2, rfl⟩
  clear k0 HQ
  by_cases h0 : e0 = 0
  case neg =>
    have t1 : (e0 != 0) = true := by simp [h0]
    have hv : otv e0 qp x d a b = .agg #[.int .u8 0, .int .u32 0, .int .u32 0, .int .u16 0, .int .u16 0] := by unfold otv; rw [if_neg h0]
    rw [hv]
    clear hv h0
    go_upto_region 2 with fail
    have la := later_allocG w2 (.cells #[.int .u8 0, .int .u32 0, .int .u32 0, .int .u16 0, .int .u16 0] 69)
    generalize w2.alloc _ = w3 at *
    go_wp2_with fail
    refine (grefuse_yes 6 _).mono ?_
    rintro e w4 ⟨rfl, rfl⟩
    exact ⟨rfl, ⟨6, by decide, rfl⟩, l0.trans (Later.trans l2 la)⟩
  subst h0
  have hv : otv 0 qp x d a b = .agg #[.int .u8 qp, .int .u32 x, .int .u32 d, .int .u16 a, .int .u16 b] := by unfold otv; rw [if_pos rfl]
  rw [hv]
  clear hv
  go_upto_region 2 with fail
  have la := later_allocG w2 (.cells #[.int .u8 qp, .int .u32 x, .int .u32 d, .int .u16 a, .int .u16 b] 69)
  have C3 := hide (heap_alloc_new w2 (.cells #[.int .u8 qp, .int .u32 x, .int .u32 d, .int .u16 a, .int .u16 b] 69))
  have D0 := hide (later_keep (Later.trans l2 la) C0.out)
  have L3 : Later w (w2.alloc (.cells #[.int .u8 qp, .int .u32 x, .int .u32 d, .int .u16 a, .int .u16 b] 69)) := l0.trans (Later.trans l2 la)
  change Code.wp _ _ _ _ (w2.alloc (.cells #[.int .u8 qp, .int .u32 x, .int .u32 d, .int .u16 a, .int .u16 b] 69))
  generalize w2.alloc (.cells #[.int .u8 qp, .int .u32 x, .int .u32 d, .int .u16 a, .int .u16 b] 69) = w3 at *
  generalize w2.heap.size = g3 at *
  clear C0 l2 la
  have k3 := block_cell C3.out
  by_cases p47 : qp = 47
  · have t3 : (qp == 47) = true := by simp [p47]
    go_wp2_with fail
    refine (grefuse_yes 6 _).mono ?_
    rintro e w4 ⟨rfl, rfl⟩
    exact ⟨rfl, ⟨6, by decide, rfl⟩, L3⟩
  have t3 : (qp == 47) = false := by rw [beq_eq_false_iff_ne]; exact p47
  go_wp2_with fail
  refine (grefuse_no 6 _).mono ?_
  rintro e w4 ⟨rfl, hw4⟩
  subst hw4
  clear k3 t3
  go_upto_region 3 with fail
  refine anyR_begin (R := Later) Later.pre Later.drew 12 rfl (by kernel_rfl) (fun V0 hV0 => ?_)
  have q0 : ∀ v, Later V0 v → ∀ j, v.cell? ⟨gx, j, none⟩ = #[.pointer (some ⟨g, 0, none⟩), .int .u8 tos, .int .u16 id, .bool keep, .int .u8 ttl, .int .u8 pr, .int .u32 src, .int .u32 dst, so, sd, .int .i64 side][j]? := fun v hv => block_cell (later_keep (hV0.trans hv) D0.out)
  have q1 : ∀ v, Later V0 v → ∀ j, v.cell? ⟨g3, j, none⟩ = #[.int .u8 qp, .int .u32 x, .int .u32 d, .int .u16 a, .int .u16 b][j]? := fun v hv => block_cell (later_keep (hV0.trans hv) C3.out)
  refine anyR_val Later.pre 0 rfl (by kernel_rfl) (by kernel_rfl) (by kernel_rfl) (fun _ _ _ _ h => h) rfl ?_; apply Exists.intro; refine ⟨fun v1 hv1 => ?_, ?_⟩; (· (go_simp; rfl)); simp only [Act.put, List.setIfInBounds_toArray, List.set_cons_zero, List.set_cons_succ]
  refine anyR_val Later.pre 1 rfl (by kernel_rfl) (by kernel_rfl) (by kernel_rfl) (fun _ _ _ _ h => h) rfl ?_; apply Exists.intro; refine ⟨fun v1 hv1 => ?_, ?_⟩; (· (go_simp; rfl)); simp only [Act.put, List.setIfInBounds_toArray, List.set_cons_zero, List.set_cons_succ]
  refine anyR_val Later.pre 2 rfl (by kernel_rfl) (by kernel_rfl) (by kernel_rfl) (fun _ _ _ _ h => h) rfl ?_; apply Exists.intro; refine ⟨fun v1 hv1 => ?_, ?_⟩; (· (go_simp; rfl)); simp only [Act.put, List.setIfInBounds_toArray, List.set_cons_zero, List.set_cons_succ]
  clear q0 q1
  refine anyR_take Later.pre 3 (.agg #[.int .u8 qp, .int .u32 d, .int .u32 x, .int .u16 b, .int .u16 a]) rfl (by kernel_rfl) (by kernel_rfl) (by kernel_rfl) (fun _ _ _ h => h) rfl (fun u hu => goes_call 82 #[.agg #[.int .u8 qp, .int .u32 x, .int .u32 d, .int .u16 a, .int .u16 b]] (by go_simp) (reverse_any qp x d a b u)) ?_
  simp only [Act.put, List.setIfInBounds_toArray, List.set_cons_zero, List.set_cons_succ]
  refine anyR_take Later.pre 4 (.tuple #[.pointer none, .bool false, .bool false]) rfl (by kernel_rfl) (by kernel_rfl) (by kernel_rfl) (fun _ _ _ h => h) rfl (fun u hu => goes_call 21 #[.pointer (some ⟨g, 0, none⟩), .agg #[.int .u8 qp, .int .u32 d, .int .u32 x, .int .u16 b, .int .u16 a]] (by go_simp) (lookUp_none base g s qp d x b a u (h.later (L3.trans (hV0.trans hu))) b2 b1 b4 b3)) ?_
  simp only [Act.put, List.setIfInBounds_toArray, List.set_cons_zero, List.set_cons_succ]
  refine anyR_val Later.pre 5 rfl (by kernel_rfl) (by kernel_rfl) (by kernel_rfl) (fun _ _ _ _ h => h) rfl ?_; apply Exists.intro; refine ⟨fun v1 hv1 => ?_, ?_⟩; (· (go_simp; rfl)); simp only [Act.put, List.setIfInBounds_toArray, List.set_cons_zero, List.set_cons_succ]
  refine anyR_val Later.pre 6 rfl (by kernel_rfl) (by kernel_rfl) (by kernel_rfl) (fun _ _ _ _ h => h) rfl ?_; apply Exists.intro; refine ⟨fun v1 hv1 => ?_, ?_⟩; (· (go_simp; rfl)); simp only [Act.put, List.setIfInBounds_toArray, List.set_cons_zero, List.set_cons_succ]
  refine anyR_val Later.pre 7 rfl (by kernel_rfl) (by kernel_rfl) (by kernel_rfl) (fun _ _ _ _ h => h) rfl ?_; apply Exists.intro; refine ⟨fun v1 hv1 => ?_, ?_⟩; (· (go_simp; rfl)); simp only [Act.put, List.setIfInBounds_toArray, List.set_cons_zero, List.set_cons_succ]
  refine anyR_val Later.pre 8 rfl (by kernel_rfl) (by kernel_rfl) (by kernel_rfl) (fun _ _ _ _ h => h) rfl ?_; apply Exists.intro; refine ⟨fun v1 hv1 => ?_, ?_⟩; (· (go_simp; rfl)); simp only [Act.put, List.setIfInBounds_toArray, List.set_cons_zero, List.set_cons_succ]
  refine anyR_val Later.pre 9 rfl (by kernel_rfl) (by kernel_rfl) (by kernel_rfl) (fun _ _ _ _ h => h) rfl ?_; apply Exists.intro; refine ⟨fun v1 hv1 => ?_, ?_⟩; (· (go_simp; rfl)); simp only [Act.put, List.setIfInBounds_toArray, List.set_cons_zero, List.set_cons_succ]
  refine anyR_val Later.pre 10 rfl (by kernel_rfl) (by kernel_rfl) (by kernel_rfl) (fun _ _ _ _ h => h) rfl ?_; apply Exists.intro; refine ⟨fun v1 hv1 => ?_, ?_⟩; (· (go_simp; rfl)); simp only [Act.put, List.setIfInBounds_toArray, List.set_cons_zero, List.set_cons_succ]
  refine anyR_val Later.pre 11 rfl (by kernel_rfl) (by kernel_rfl) (by kernel_rfl) (fun _ _ _ _ h => h) rfl ?_; apply Exists.intro; refine ⟨fun v1 hv1 => ?_, ?_⟩; (· (go_simp; rfl)); simp only [Act.put, List.setIfInBounds_toArray, List.set_cons_zero, List.set_cons_succ]
  refine anyR_done (by kernel_rfl) (fun V9 hV9 => ?_)
  go_wp2_with fail
  refine (grefuse_yes 3 _).mono ?_
  rintro e w4 ⟨rfl, rfl⟩
  exact ⟨rfl, ⟨3, by decide, rfl⟩, L3.trans (hV0.trans hV9)⟩

set_option maxRecDepth 100000 in
set_option maxHeartbeats 8000000 in
theorem changed_none (base g : Nat) (s : Gs) (tos id ttl pr src dst : Int) (keep : Bool) (so sd : Value) (side : Int) (zd : List Int) (w : World) (h : GI base w g s) (hT : Tb w) (hS : Shut side s.ls) (hP : PkI w sd zd src dst) :
    Calls Tryz.prog 45 #[.agg #[.pointer (some ⟨g, 0, none⟩), .int .u8 tos, .int .u16 id, .bool keep, .int .u8 ttl, .int .u8 pr, .int .u32 src, .int .u32 dst, so, sd, .int .i64 side]] w fun e w' => Gvn e ∧ Later w w' := by
  obtain ⟨l0, c0, c1⟩ := alloc2 w (.cells #[.pointer (some ⟨g, 0, none⟩), .int .u8 tos, .int .u16 id, .bool keep, .int .u8 ttl, .int .u8 pr, .int .u32 src, .int .u32 dst, so, sd, .int .i64 side] 111) (.cells #[.int .u8 0, .int .u16 0, .bool false, .int .u8 0, .int .u8 0, .int .u32 0, .int .u32 0, .slice none 0 0, .slice none 0 0] 78)
  have C0 := hide c0
  clear c0 c1
  have HQ := hide (fun W (l : Later w W) => of_any tos id ttl pr src dst keep so sd zd W (hT.later l) hP.1 (hP.2.1.later l) (by have := hP.2.2.1; omega) hP.2.2.2.1 hP.2.2.2.2)
  have b3 := ofaD pr hP.1
  have b4 := ofbD pr hP.1
  generalize ofe pr src dst zd = e0 at *
  generalize ofa pr zd = a at *
  generalize ofb pr zd = b at *
  go_enter Tryz.func45, Tryz.ntmps45
  go_upto_region 1 with fail
  generalize (w.alloc (.cells #[.pointer (some ⟨g, 0, none⟩), .int .u8 tos, .int .u16 id, .bool keep, .int .u8 ttl, .int .u8 pr, .int .u32 src, .int .u32 dst, so, sd, .int .i64 side] 111)).alloc _ = w1 at *
  generalize w.heap.size = gx at C0 ⊢
  have k0 := block_cell C0.out
  go_wp2_with fail
  refine (HQ.out w1 l0).mono ?_
  rintro e w2 ⟨l2, rfl⟩
  clear k0 HQ
  by_cases h0 : e0 = 0
  case neg =>
    have t1 : (e0 != 0) = true := by simp [h0]
    have hv : otv e0 pr src dst a b = .agg #[.int .u8 0, .int .u32 0, .int .u32 0, .int .u16 0, .int .u16 0] := by unfold otv; rw [if_neg h0]
    rw [hv]
    clear hv h0
    go_upto_region 2 with fail
    have la := later_allocG w2 (.cells #[.int .u8 0, .int .u32 0, .int .u32 0, .int .u16 0, .int .u16 0] 69)
    have D0 := hide (later_keep (Later.trans l2 la) C0.out)
    have L3 : Later w (w2.alloc (.cells #[.int .u8 0, .int .u32 0, .int .u32 0, .int .u16 0, .int .u16 0] 69)) := l0.trans (Later.trans l2 la)
    change Code.wp _ _ _ _ (w2.alloc (.cells #[.int .u8 0, .int .u32 0, .int .u32 0, .int .u16 0, .int .u16 0] 69))
    generalize w2.alloc (.cells #[.int .u8 0, .int .u32 0, .int .u32 0, .int .u16 0, .int .u16 0] 69) = w3 at *
    generalize w2.heap.size = g3 at *
    have k0 := block_cell D0.out
    by_cases h12 : e0 = 12
    · have t2 : (e0 == 12) = true := by simp [h12]
      go_wp2_with fail
      refine (requoted_none base g s tos id ttl pr src dst keep so sd side zd w3 (h.later L3) (hT.later L3) (hP.later L3)).mono ?_
      rintro e w9 ⟨⟨c, hc, rfl⟩, l9⟩
      exact ⟨rfl, ⟨c, hc, rfl⟩, L3.trans l9⟩
    · have t2 : (e0 == 12) = false := by rw [beq_eq_false_iff_ne]; exact h12
      go_wp2_with fail
      refine (grefuse_yes 1 _).mono ?_
      rintro e w4 ⟨rfl, rfl⟩
      exact ⟨rfl, ⟨1, by decide, rfl⟩, L3⟩
  subst h0
  have hv : otv 0 pr src dst a b = .agg #[.int .u8 pr, .int .u32 src, .int .u32 dst, .int .u16 a, .int .u16 b] := by unfold otv; rw [if_pos rfl]
  rw [hv]
  clear hv
  go_upto_region 2 with fail
  have la := later_allocG w2 (.cells #[.int .u8 pr, .int .u32 src, .int .u32 dst, .int .u16 a, .int .u16 b] 69)
  have C3 := hide (heap_alloc_new w2 (.cells #[.int .u8 pr, .int .u32 src, .int .u32 dst, .int .u16 a, .int .u16 b] 69))
  have D0 := hide (later_keep (Later.trans l2 la) C0.out)
  have L3 : Later w (w2.alloc (.cells #[.int .u8 pr, .int .u32 src, .int .u32 dst, .int .u16 a, .int .u16 b] 69)) := l0.trans (Later.trans l2 la)
  change Code.wp _ _ _ _ (w2.alloc (.cells #[.int .u8 pr, .int .u32 src, .int .u32 dst, .int .u16 a, .int .u16 b] 69))
  generalize w2.alloc (.cells #[.int .u8 pr, .int .u32 src, .int .u32 dst, .int .u16 a, .int .u16 b] 69) = w3 at *
  generalize w2.heap.size = g3 at *
  clear C0 l2 la
  have k0 := block_cell D0.out
  have k3 := block_cell C3.out
  go_wp2_with fail
  refine (grefuse_no 1 _).mono ?_
  rintro e w4 ⟨rfl, hw4⟩
  subst hw4
  go_wp2_with fail
  refine (owner_none base g s tos id ttl pr src dst keep so sd side zd pr src dst a b w3 (h.later L3) hS (hP.later L3) hP.2.2.2.1 hP.2.2.2.2 b3 b4).mono ?_
  rintro e w9 ⟨⟨c, hc, rfl⟩, l9⟩
  exact ⟨rfl, ⟨c, hc, rfl⟩, L3.trans l9⟩
end Go.Proofs.YtohflohdbkamnaaGreatDoor

/- Package gate: what becomes of a packet at a gateway behind which nobody has spoken. -/
namespace Go.Proofs.YtohflohdbkamnaaGreatDoor
open Go.RowKit Go.Shelf
set_option maxRecDepth 100000
set_option linter.unusedVariables false
set_option linter.unusedSimpArgs false

/-- It is dropped. -/
def OcQ (e : Ending) : Prop := ∃ c : Int, (1 ≤ c ∧ c ≤ 7) ∧ e = .returned (.agg (oc c).toArray)

set_option maxRecDepth 100000 in
set_option maxHeartbeats 8000000 in
theorem handle_none (base g : Nat) (s : Gs) (side : Int) (sb : Value) (zs : List Int) (w : World) (h : GI base w g s) (hT : Tb w) (hS : Shut side s.ls) (hB : Mt.By zs) (hI : Rd w.heap.size w sb zs) (hl : zs.length ≤ 60000) :
    Calls Tryz.prog 19 #[.pointer (some ⟨g, 0, none⟩), .int .i64 side, sb] w fun e w' => OcQ e ∧ Later w w' := by
  have hmf : ∀ (fn : Fn) (first cap : Array Value) (w : World), (Instr.makeFunc fn first cap).run Tryz.prog w = .ok (.func fn first cap) w := fun _ _ _ _ => rfl
  obtain ⟨a, cap, rfl, hl1, hm1⟩ := hI.slice
  have l0 := later_allocG w (.cells (oc 0).toArray 34)
  have C0 := hide (heap_alloc_new w (.cells (oc 0).toArray 34))
  have HP := hide (parse_any _ zs _ hB (by omega) (hI.later l0))
  have HG := hide h
  go_enter_defers Tryz.func19, Tryz.ntmps19
  go_wp2_with fail
  change Calls _ _ _ (w.alloc (.cells (oc 0).toArray 34)) _
  generalize hw1 : w.alloc (.cells (oc 0).toArray 34) = w1 at *
  clear hw1
  refine HP.out.mono ?_
  rintro e w2 ⟨l2, ⟨h1, rfl⟩ | ⟨h1, so, sd, rfl, hOo, hOd⟩⟩
  · have la := later_allocG w2 (.cells zc.toArray 78)
    have D0 := later_keep (Later.trans l2 la) C0.out
    have t1 : (rde false zs != 0) = true := by simp [h1]
    have L3 : Later w (w2.alloc (.cells zc.toArray 78)) := l0.trans (Later.trans l2 la)
    generalize rde false zs = e0 at *
    clear h1
    go_upto_region 3 with fail
    change Code.wp _ _ _ _ (w2.alloc (.cells zc.toArray 78))
    generalize w2.alloc (.cells zc.toArray 78) = w3 at *
    go_wp2_with fail
    refine (grefuse_yes 1 _).mono ?_
    rintro e w4 ⟨rfl, rfl⟩
    exact gdoor_refused _ w.heap.size w.heap.size 1 _ _ _ w3 D0 (Nat.le_refl _) rfl (fun w' hb' => ⟨⟨1, by decide, rfl⟩, Below.trans L3 hb'⟩)
  · obtain ⟨oa, ocp, rfl, _, _⟩ := hOo.slice
    obtain ⟨da, dcp, rfl, _, _⟩ := hOd.slice
    have hBd : Mt.By ((zs.take (ral false zs).toNat).drop (hl4 zs).toNat) := (hB.take _).drop _
    have hld : ((zs.take (ral false zs).toNat).drop (hl4 zs).toNat).length ≤ 70000 := by rw [List.length_drop, List.length_take]; omega
    have b1 := wat4D hB 12
    have b2 := wat4D hB 16
    generalize (zs.take (ral false zs).toNat).drop (hl4 zs).toNat = zd at *
    generalize (zs.take (hl4 zs).toNat).drop 20 = zo at *
    unfold pkt
    generalize zs[1]?.getD 0 = tos at *
    generalize wat zs 4 = id at *
    generalize decide (16384 ≤ wat zs 6 % 32768) = keep at *
    generalize zs[8]?.getD 0 = ttl at *
    generalize zs[9]?.getD 0 = pr at *
    generalize wat4 zs 12 = src at *
    generalize wat4 zs 16 = dst at *
    have la := later_allocG w2 (.cells #[.int .u8 tos, .int .u16 id, .bool keep, .int .u8 ttl, .int .u8 pr, .int .u32 src, .int .u32 dst, .slice oa zo.length ocp, .slice da zd.length dcp] 78)
    have CP := hide (heap_alloc_new w2 (.cells #[.int .u8 tos, .int .u16 id, .bool keep, .int .u8 ttl, .int .u8 pr, .int .u32 src, .int .u32 dst, .slice oa zo.length ocp, .slice da zd.length dcp] 78))
    have D0 := later_keep (Later.trans l2 la) C0.out
    have L3 : Later w (w2.alloc (.cells #[.int .u8 tos, .int .u16 id, .bool keep, .int .u8 ttl, .int .u8 pr, .int .u32 src, .int .u32 dst, .slice oa zo.length ocp, .slice da zd.length dcp] 78)) := l0.trans (Later.trans l2 la)
    have HPK := hide (show PkI _ (.slice da zd.length dcp) zd src dst from ⟨hBd, hOd.rd.later la, hld, b1, b2⟩)
    have HD0 := hide D0
    clear D0
    go_upto_region 3 with fail
    change Code.wp _ _ _ _ (w2.alloc (.cells #[.int .u8 tos, .int .u16 id, .bool keep, .int .u8 ttl, .int .u8 pr, .int .u32 src, .int .u32 dst, .slice oa zo.length ocp, .slice da zd.length dcp] 78))
    generalize w2.alloc (.cells #[.int .u8 tos, .int .u16 id, .bool keep, .int .u8 ttl, .int .u8 pr, .int .u32 src, .int .u32 dst, .slice oa zo.length ocp, .slice da zd.length dcp] 78) = w3 at *
    generalize w2.heap.size = gp at *
    have kp := block_cell CP.out
    by_cases ht2 : ttl < 2
    · go_wp2_with fail
      refine (grefuse_yes 1 _).mono ?_
      rintro e w4 ⟨rfl, rfl⟩
      exact gdoor_refused _ w.heap.size w.heap.size 1 _ _ _ w3 HD0.out (Nat.le_refl _) rfl (fun w' hb' => ⟨⟨1, by decide, rfl⟩, Below.trans L3 hb'⟩)
    · go_wp2_with fail
      refine (grefuse_no 1 _).mono ?_
      rintro e w4 ⟨rfl, hw4⟩
      subst hw4
      go_wp2_with fail
      refine (changed_none base g s tos id ttl pr src dst keep _ _ side zd w3 (HG.out.later L3) (hT.later L3) hS HPK.out).mono ?_
      rintro e w9 ⟨⟨c, hc, rfl⟩, l9⟩
      exact gdoor_refused _ w.heap.size w.heap.size c _ _ _ w9 (later_keep l9 HD0.out) (Nat.le_refl _) rfl (fun w' hb' => ⟨⟨c, hc, rfl⟩, Below.trans (L3.trans l9) hb'⟩)
end Go.Proofs.YtohflohdbkamnaaGreatDoor

/- Package gate: time goes on at a gateway behind which nobody has spoken; a packet comes to it. -/
namespace Go.Proofs.YtohflohdbkamnaaGreatDoor
open Go.RowKit Go.Shelf
set_option maxRecDepth 100000
set_option linter.unusedVariables false
set_option linter.unusedSimpArgs false

theorem giveExpected_none (p : Value) (a : Option Addr) (cap : Nat) (w : World) : Calls Tryz.prog 23 #[p, .slice a 0 cap] w fun e w' => e = .returned (.tuple #[]) ∧ w' = w := by
  go_enter Tryz.func23, Tryz.ntmps23
  go_upto_region 1 with fail
  go_loopw [8] (fun iv wr => iv = .int .i64 0 ∧ wr = w) (fun _ _ => 0)
  case atStart => exact ⟨rfl, rfl⟩
  case round =>
    obtain ⟨rfl, hw⟩ := hrel
    go_wp2_with fail
    go_end0
    exact ⟨rfl, rfl⟩

/-- Rows of a type stay, where what changes is of another one. -/
theorem ownG_but {W W' : World} {base : Nat} {e t : TypeId} {size : Nat} {v : Value} {n : Nat} {xs : List Value} (h : W.ownsRow base e size v n xs) {g : Nat} (hb : But (fun b => b = g) W W') {cur : Array Value} {f : Nat × Nat} (hg : W.heap[g]? = some (.cells cur t f)) (hne : e ≠ t) : W'.ownsRow base e size v n xs := by
  obtain ⟨h1, h2 | ⟨b, cap, cur', e', hb', hh, r⟩⟩ := h
  · exact ⟨h1, .inl h2⟩
  · refine ⟨h1, .inr ⟨b, cap, cur', e', hb', (hb.block b (Array.getElem?_eq_some_iff.1 hh).1 (fun eq => ?_)).trans hh, r⟩⟩
    have eq' : b = g := eq
    rw [eq', hg] at hh
    cases hh
    exact hne rfl
theorem TB.butG {base bt : Nat} {W W' : World} {lim cnt trn : Int} {ls : Nat → List Rw} (h : TB base W bt lim cnt trn ls) {g : Nat} (hb : But (fun b => b = g) W W') {t : TypeId} {cur : Array Value} {f : Nat × Nat} (hg : W.heap[g]? = some (.cells cur t f)) (h1 : t ≠ 123) (h2 : 126 ≠ t) : TB base W' bt lim cnt trn ls := by
  obtain ⟨vs, q1, q2, q3, q4, q5⟩ := h
  refine ⟨vs, q1, q2, (hb.block bt (Array.getElem?_eq_some_iff.1 q3).1 (fun eq => ?_)).trans q3, fun i hi => ownG_but (q4 i hi) hb hg h2, q5⟩
  have eq' : bt = g := eq
  rw [eq', hg] at q3
  cases q3
  exact h1 rfl
theorem cellsG_but {W W' : World} {g b : Nat} {o : Obj} (hb : But (fun b => b = g) W W') (h : W.heap[b]? = some o) {cur : Array Value} {t : TypeId} {f : Nat × Nat} (hg : W.heap[g]? = some (.cells cur t f)) (hne : o ≠ .cells cur t f) : W'.heap[b]? = some o :=
  (hb.block b (Array.getElem?_eq_some_iff.1 h).1 (fun eq => by
    have eq' : b = g := eq
    rw [eq', hg] at h
    cases h
    exact hne rfl)).trans h
/-- Its time is another one. -/
theorem GI.now {base g : Nat} {W : World} {s : Gs} (h : GI base W g s) (n : Int) : GI base (W.setCell ⟨g, 2, none⟩ (.int .i64 n)) g { s with now := n } := by
  have hb : But (fun b => b = g) W (W.setCell ⟨g, 2, none⟩ (.int .i64 n)) := (But.refl (fun b => b = g) _).setCell (show _ = _ from rfl) _
  have hc := h.gc
  have h2 := heap_set1 h.gc 2 (.int .i64 n)
  refine ⟨h.bs, h2, ⟨h.rl.1, cellsG_but hb h.rl.2.1 hc (by intro e; injection e with e1 e2 e3; exact absurd e2 (by decide)), ownG_but h.rl.2.2 hb hc (by decide)⟩, h.tb.butG hb hc (by decide) (by decide), ⟨h.bl.1, cellsG_but hb h.bl.2.1 hc (by intro e; injection e with e1 e2 e3; exact absurd e2 (by decide)), ownG_but h.bl.2.2 hb hc (by decide)⟩, cellsG_but hb h.fl hc (by intro e; cases e), cellsG_but hb h.pl hc (by intro e; cases e)⟩
/-- Its book is another one. -/
theorem GI.book {base g : Nat} {W W' : World} {s : Gs} (h : GI base W g s) (hb : But (fun b => b = s.gb) W W') {v : Value} (hl : BL 174 base W' s.gb v []) : GI base W' g { s with ve := v } := by
  have hc := h.bl.2.1
  exact ⟨h.bs, cellsG_but hb h.gc hc (by intro e; injection e with e1 e2 e3; exact absurd e2 (by decide)), ⟨h.rl.1, cellsG_but hb h.rl.2.1 hc (by intro e; injection e with e1 e2 e3; exact absurd e2 (by decide)), ownG_but h.rl.2.2 hb hc (by decide)⟩, h.tb.butG hb hc (by decide) (by decide), hl, cellsG_but hb h.fl hc (by intro e; cases e), cellsG_but hb h.pl hc (by intro e; cases e)⟩
theorem allR_nil : allR (fun _ => []) = [] := by unfold allR; rw [List.flatMap_eq_nil_iff]; intro _ _; rfl
theorem due_none (base bt : Nat) (now : Int) (w : World) (hT : TB base w bt 128 0 0 (fun _ => [])) :
    Calls Tryz.prog 20 #[.pointer (some ⟨bt, 0, none⟩), .int .i64 now] w fun e w' => (∃ g, e = .returned (.slice (some ⟨g, 0, none⟩) 0 0)) ∧ Later w w' := by
  refine (due_any base bt 128 0 0 now (fun _ => []) [] w hT (by rw [allR_nil]; exact sorts_one [] (by simp)) (by rw [allR_nil]; simp)).mono ?_
  rintro e w' ⟨l, g, rfl, _, _⟩
  exact ⟨⟨g, rfl⟩, l⟩

/-- What time leaves of it. -/
def TkG (base : Nat) (w w' : World) (g : Nat) (s : Gs) : Prop := But (fun b => b = g ∨ b = s.gb) w w' ∧ ∃ s', s'.ls = s.ls ∧ s'.gb = s.gb ∧ GI base w' g s'
theorem TkG.below {base g : Nat} {w w' : World} {s : Gs} (h : TkG base w w' g s) (hg : GI base w g s) (hbs : base ≤ w.heap.size) : Below base w w' := h.1.below hbs (fun k hk e => by
  have h1 := hg.bs
  have h2 := hg.bl.1
  rcases e with e | e <;> omega)

set_option maxRecDepth 100000 in
set_option maxHeartbeats 8000000 in
theorem tick_none (base g : Nat) (s : Gs) (nw : Int) (w : World) (h : GI base w g s) (hbs : base ≤ w.heap.size) :
    Calls Tryz.prog 7 #[.pointer (some ⟨g, 0, none⟩), .int .i64 nw] w fun e w' => e = .returned (.tuple #[]) ∧ TkG base w w' g s := by
  have HG := hide h
  have hbg := h.bs
  go_enter Tryz.func7, Tryz.ntmps7
  have k0 := block_cell h.gc
  have f0 := block_frozen h.gc
  unfold gtc at k0
  go_upto_region 1 with fail
  go_cut [18] (fun _ wx => ∃ nv : Int, wx = w.setCell ⟨g, 2, none⟩ (.int .i64 nv))
  case first =>
    go_wp2_with fail
    all_goals
      go_meet
      case rel => exact ⟨_, rfl⟩
  case rest =>
  clear k0 f0
  obtain ⟨nv, hnv⟩ := hcut
  obtain ⟨w1, hw1⟩ : ∃ w1, w1 = wc := ⟨_, rfl⟩
  subst hw1
  have h1 : GI base w1 g { s with now := nv } := by rw [hnv]; exact h.now nv
  have M1 : But (fun b => b = g ∨ b = s.gb) w w1 := by
    rw [hnv]
    exact (But.refl (fun b => b = g ∨ b = s.gb) w).setCell (p := ⟨g, 2, none⟩) (show _ ∨ _ from .inl rfl) (.int .i64 nv)
  have hls : ({ s with now := nv } : Gs).ls = s.ls := rfl
  have hgb : ({ s with now := nv } : Gs).gb = s.gb := rfl
  generalize ({ s with now := nv } : Gs) = s1 at *
  have HLS := hide hls
  have HGB := hide hgb
  clear hnv hls hgb HG h
  go_upto_region 2 with fail
  refine anyT_begin (R := Later) 11 rfl (by kernel_rfl) ?_
  have ld : Later w1 w1.drew := Later.drew w1
  generalize w1.drew = w2 at *
  have h2 := h1.later ld
  have M2 : But (fun b => b = g ∨ b = s.gb) w w2 := M1.trans (But.of ld)
  have q1 : ∀ v, Later w2 v → ∀ j, v.cell? ⟨g, j, none⟩ = (gtc s1).toArray[j]? := fun v hv => block_cell (later_keep hv h2.gc)
  unfold gtc at q1
  have H2 := hide h2
  clear h1 h2 ld M1
  refine anyT_val Later.pre 0 rfl (by kernel_rfl) (by kernel_rfl) (by kernel_rfl) (fun _ _ _ _ h => h) rfl ?_; apply Exists.intro; refine ⟨fun v1 hv1 => ?_, ?_⟩; (· (go_simp; rfl)); simp only [Act.put, List.setIfInBounds_toArray, List.set_cons_zero, List.set_cons_succ]
  refine anyT_val Later.pre 1 rfl (by kernel_rfl) (by kernel_rfl) (by kernel_rfl) (fun _ _ _ _ h => h) rfl ?_; apply Exists.intro; refine ⟨fun v1 hv1 => ?_, ?_⟩; (· (go_simp; rfl)); simp only [Act.put, List.setIfInBounds_toArray, List.set_cons_zero, List.set_cons_succ]
  refine anyT_val Later.pre 2 rfl (by kernel_rfl) (by kernel_rfl) (by kernel_rfl) (fun _ _ _ _ h => h) rfl ?_; apply Exists.intro; refine ⟨fun v1 hv1 => ?_, ?_⟩; (· (go_simp; rfl)); simp only [Act.put, List.setIfInBounds_toArray, List.set_cons_zero, List.set_cons_succ]
  refine anyT_val Later.pre 3 rfl (by kernel_rfl) (by kernel_rfl) (by kernel_rfl) (fun _ _ _ _ h => h) rfl ?_; apply Exists.intro; refine ⟨fun v1 hv1 => ?_, ?_⟩; (· (go_simp; rfl)); simp only [Act.put, List.setIfInBounds_toArray, List.set_cons_zero, List.set_cons_succ]
  refine anyT_val Later.pre 4 rfl (by kernel_rfl) (by kernel_rfl) (by kernel_rfl) (fun _ _ _ _ h => h) rfl ?_; apply Exists.intro; refine ⟨fun v1 hv1 => ?_, ?_⟩; (· (go_simp; rfl)); simp only [Act.put, List.setIfInBounds_toArray, List.set_cons_zero, List.set_cons_succ]
  refine anyT_val Later.pre 5 rfl (by kernel_rfl) (by kernel_rfl) (by kernel_rfl) (fun _ _ _ _ h => h) rfl ?_; apply Exists.intro; refine ⟨fun v1 hv1 => ?_, ?_⟩; (· (go_simp; rfl)); simp only [Act.put, List.setIfInBounds_toArray, List.set_cons_zero, List.set_cons_succ]
  refine anyT_val Later.pre 6 rfl (by kernel_rfl) (by kernel_rfl) (by kernel_rfl) (fun _ _ _ _ h => h) rfl ?_; apply Exists.intro; refine ⟨fun v1 hv1 => ?_, ?_⟩; (· (go_simp; rfl)); simp only [Act.put, List.setIfInBounds_toArray, List.set_cons_zero, List.set_cons_succ]
  refine anyT_val Later.pre 7 rfl (by kernel_rfl) (by kernel_rfl) (by kernel_rfl) (fun _ _ _ _ h => h) rfl ?_; apply Exists.intro; refine ⟨fun v1 hv1 => ?_, ?_⟩; (· (go_simp; rfl)); simp only [Act.put, List.setIfInBounds_toArray, List.set_cons_zero, List.set_cons_succ]
  refine anyT_val Later.pre 10 rfl (by kernel_rfl) (by kernel_rfl) (by kernel_rfl) (fun _ _ _ _ h => h) rfl ?_; apply Exists.intro; refine ⟨fun v1 hv1 => ?_, ?_⟩; (· (go_simp; rfl)); simp only [Act.put, List.setIfInBounds_toArray, List.set_cons_zero, List.set_cons_succ]
  clear q1
  refine anyT_one 8 rfl (by kernel_rfl) rfl ?_
  refine wp_enter 20 #[.pointer (some ⟨s1.gt, 0, none⟩), .int .i64 s1.now] (by go_simp) ?_
  refine (due_none base s1.gt s1.now w2 H2.out.tb).mono ?_
  rintro e w3 ⟨⟨gd, rfl⟩, l3⟩
  refine ⟨l3, ?_⟩
  simp only [Act.put, List.setIfInBounds_toArray, List.set_cons_zero, List.set_cons_succ]
  refine anyT_val Later.pre 9 rfl (by kernel_rfl) (by kernel_rfl) (by kernel_rfl) (fun _ _ _ _ h => h) rfl ?_; apply Exists.intro; refine ⟨fun v1 hv1 => ?_, ?_⟩; (· (go_simp; rfl)); simp only [Act.put, List.setIfInBounds_toArray, List.set_cons_zero, List.set_cons_succ]
  refine anyT_done (by kernel_rfl) ?_
  have h3 := H2.out.later l3
  have M3 : But (fun b => b = g ∨ b = s.gb) w w3 := M2.trans (But.of l3)
  have H3 := hide h3
  clear H2 h3 M2 l3
  go_upto_region 3 with fail
  go_loopw [31] (fun iv wr => iv = .int .i64 0 ∧ wr = w3) (fun _ _ => 0)
  case atStart => exact ⟨rfl, rfl⟩
  case round =>
    obtain ⟨rfl, hw⟩ := hrel
    subst hw
    go_upto_region 9 with fail
    refine anyT_begin (R := But (fun b => b = s1.gb)) 11 rfl (by kernel_rfl) ?_
    have ld : Later wr wr.drew := Later.drew wr
    generalize wr.drew = w4 at *
    have h4 := H3.out.later ld
    have M4 : But (fun b => b = g ∨ b = s.gb) w w4 := M3.trans (But.of ld)
    have q1 : ∀ v, But (fun b => b = s1.gb) w4 v → ∀ j, v.cell? ⟨g, j, none⟩ = (gtc s1).toArray[j]? := fun v hv => block_cell (cellsG_but hv h4.gc h4.bl.2.1 (by intro e; injection e with e1 e2 e3; exact absurd e2 (by decide)))
    unfold gtc at q1
    have H4 := hide h4
    clear H3 h4 M3 ld
    refine anyT_val (But.pre (fun b => b = s1.gb)) 0 rfl (by kernel_rfl) (by kernel_rfl) (by kernel_rfl) (fun _ _ _ _ h => h) rfl ?_; apply Exists.intro; refine ⟨fun v1 hv1 => ?_, ?_⟩; (· (go_simp; rfl)); simp only [Act.put, List.setIfInBounds_toArray, List.set_cons_zero, List.set_cons_succ]
    refine anyT_val (But.pre (fun b => b = s1.gb)) 1 rfl (by kernel_rfl) (by kernel_rfl) (by kernel_rfl) (fun _ _ _ _ h => h) rfl ?_; apply Exists.intro; refine ⟨fun v1 hv1 => ?_, ?_⟩; (· (go_simp; rfl)); simp only [Act.put, List.setIfInBounds_toArray, List.set_cons_zero, List.set_cons_succ]
    refine anyT_val (But.pre (fun b => b = s1.gb)) 2 rfl (by kernel_rfl) (by kernel_rfl) (by kernel_rfl) (fun _ _ _ _ h => h) rfl ?_; apply Exists.intro; refine ⟨fun v1 hv1 => ?_, ?_⟩; (· (go_simp; rfl)); simp only [Act.put, List.setIfInBounds_toArray, List.set_cons_zero, List.set_cons_succ]
    refine anyT_val (But.pre (fun b => b = s1.gb)) 3 rfl (by kernel_rfl) (by kernel_rfl) (by kernel_rfl) (fun _ _ _ _ h => h) rfl ?_; apply Exists.intro; refine ⟨fun v1 hv1 => ?_, ?_⟩; (· (go_simp; rfl)); simp only [Act.put, List.setIfInBounds_toArray, List.set_cons_zero, List.set_cons_succ]
    refine anyT_val (But.pre (fun b => b = s1.gb)) 4 rfl (by kernel_rfl) (by kernel_rfl) (by kernel_rfl) (fun _ _ _ _ h => h) rfl ?_; apply Exists.intro; refine ⟨fun v1 hv1 => ?_, ?_⟩; (· (go_simp; rfl)); simp only [Act.put, List.setIfInBounds_toArray, List.set_cons_zero, List.set_cons_succ]
    refine anyT_val (But.pre (fun b => b = s1.gb)) 5 rfl (by kernel_rfl) (by kernel_rfl) (by kernel_rfl) (fun _ _ _ _ h => h) rfl ?_; apply Exists.intro; refine ⟨fun v1 hv1 => ?_, ?_⟩; (· (go_simp; rfl)); simp only [Act.put, List.setIfInBounds_toArray, List.set_cons_zero, List.set_cons_succ]
    refine anyT_val (But.pre (fun b => b = s1.gb)) 6 rfl (by kernel_rfl) (by kernel_rfl) (by kernel_rfl) (fun _ _ _ _ h => h) rfl ?_; apply Exists.intro; refine ⟨fun v1 hv1 => ?_, ?_⟩; (· (go_simp; rfl)); simp only [Act.put, List.setIfInBounds_toArray, List.set_cons_zero, List.set_cons_succ]
    refine anyT_val (But.pre (fun b => b = s1.gb)) 7 rfl (by kernel_rfl) (by kernel_rfl) (by kernel_rfl) (fun _ _ _ _ h => h) rfl ?_; apply Exists.intro; refine ⟨fun v1 hv1 => ?_, ?_⟩; (· (go_simp; rfl)); simp only [Act.put, List.setIfInBounds_toArray, List.set_cons_zero, List.set_cons_succ]
    refine anyT_val (But.pre (fun b => b = s1.gb)) 8 rfl (by kernel_rfl) (by kernel_rfl) (by kernel_rfl) (fun _ _ _ _ h => h) rfl ?_; apply Exists.intro; refine ⟨fun v1 hv1 => ?_, ?_⟩; (· (go_simp; rfl)); simp only [Act.put, List.setIfInBounds_toArray, List.set_cons_zero, List.set_cons_succ]
    clear q1
    refine anyT_one 9 rfl (by kernel_rfl) rfl ?_
    refine wp_enter 24 #[.pointer (some ⟨s1.gb, 0, none⟩), .int .i64 s1.now] (by go_simp) ?_
    refine (due12_any base s1.gb s1.ve [] s1.now w4 H4.out.bl (Nat.le_trans hbs M4.size) (by simp)).mono ?_
    rintro e w5 ⟨u, rfl, v5, hbl, hrow, hbut, _⟩
    obtain ⟨ua, uc, rfl⟩ : ∃ a c, u = .slice a 0 c := by
      obtain ⟨_, ⟨rfl, _⟩ | ⟨b, cap, cur, rfl, _⟩⟩ := hrow
      · exact ⟨_, _, rfl⟩
      · exact ⟨_, _, rfl⟩
    have h5 := H4.out.book hbut hbl
    have M5 : But (fun b => b = g ∨ b = s.gb) w w5 := M4.trans ⟨hbut.os, hbut.tape, hbut.output, hbut.size, fun i hi he => hbut.block i hi (fun e => he (.inr (by have e' : i = s1.gb := e; rw [e', HGB.out])))⟩
    have HB := hide hbut
    clear hbut hrow hbl
    refine ⟨HB.out, ?_⟩
    simp only [Act.put, List.setIfInBounds_toArray, List.set_cons_zero, List.set_cons_succ]
    refine anyT_one 10 rfl (by kernel_rfl) rfl ?_
    refine wp_enter 23 #[.pointer (some ⟨g, 0, none⟩), .slice ua 0 uc] (by go_simp) ?_
    refine (giveExpected_none _ ua uc w5).mono ?_
    rintro e w6 ⟨rfl, hw6⟩
    subst hw6
    refine ⟨But.refl _ _, ?_⟩
    simp only [Act.put, List.setIfInBounds_toArray, List.set_cons_zero, List.set_cons_succ]
    refine anyT_done (by kernel_rfl) ?_
    go_wp2_with fail
    go_end0
    exact ⟨rfl, M5, { s1 with ve := v5 }, HLS.out, HGB.out, h5⟩

set_option maxRecDepth 100000 in
set_option maxHeartbeats 8000000 in
theorem packet_none (base g : Nat) (s : Gs) (nw side : Int) (sb : Value) (zs : List Int) (w : World) (h : GI base w g s) (hbs : base ≤ w.heap.size) (hT : ∀ W, Below base w W → Tb W) (hS : Shut side s.ls) (hB : Mt.By zs) (hI : Rd base w sb zs) (hl : zs.length ≤ 60000) :
    Calls Tryz.prog 6 #[.pointer (some ⟨g, 0, none⟩), .int .i64 nw, .int .i64 side, sb] w fun e w' => OcQ e ∧ TkG base w w' g s := by
  obtain ⟨sa, sc, rfl, _, _⟩ := hI.slice
  have l0 := later_allocG w (.cells (oc 0).toArray 34)
  have C0 := hide (heap_alloc_new w (.cells (oc 0).toArray 34))
  have HS := hide hS
  have HT := hide hT
  have h1 := h.later l0
  have M1 : Below base w (w.alloc (.cells (oc 0).toArray 34)) := l0.mono hbs
  have hgl := (Array.getElem?_eq_some_iff.1 h.gc).1
  have hsd : side = 0 ∨ side = 1 := by rcases hS with ⟨e, _⟩ | ⟨e, _⟩ <;> simp [e]
  clear hS hT
  have HG := hide h
  have H1 := hide h1
  clear h h1
  rcases hsd with rfl | rfl
  all_goals
    go_enter Tryz.func6, Tryz.ntmps6
    go_upto_region 3 with fail
    change Code.wp _ _ _ _ (w.alloc (.cells (oc 0).toArray 34))
    generalize w.alloc (.cells (oc 0).toArray 34) = w1 at *
    generalize hgx : w.heap.size = gx at C0 ⊢
    have hs1 : base ≤ w1.heap.size := Nat.le_trans hbs M1.size
    go_wp2_with fail
    refine (tick_none base g s nw w1 H1.out hs1).mono ?_
    rintro e w2 ⟨rfl, M2, s2, hl2, hg2, h2⟩
    have hgb := (Array.getElem?_eq_some_iff.1 HG.out.bl.2.1).1
    have D0 := hide ((M2.block gx (Array.getElem?_eq_some_iff.1 C0.out).1 (fun e => by rcases e with e | e <;> omega)).trans C0.out)
    have M12 : But (fun b => b = g ∨ b = s.gb) w w2 := (But.of l0).trans M2
    have B12 : Below base w w2 := M12.below hbs (fun k hk e => by
      have h1 := HG.out.bs
      have h2 := HG.out.bl.1
      rcases e with e | e <;> omega)
    have hs2 : base ≤ w2.heap.size := Nat.le_trans hbs B12.size
    have HHN := hide (handle_none base g s2 _ (.slice sa zs.length sc) zs w2 h2 (HT.out w2 B12) (by rw [hl2]; exact HS.out) hB ((hI.below B12).mono hs2) hl)
    clear M2 C0 H1 M1 hs1
    go_wp2_with fail
    refine HHN.out.mono ?_
    rintro e w3 ⟨⟨c, hc, rfl⟩, l3⟩
    have E0 := later_keep l3 D0.out
    have h3 := h2.later l3
    have k0 := block_cell E0
    have f0 := block_frozen E0
    clear HHN
    go_wp2_with fail
    generalize hV : (((w3.setCell ⟨gx, 0, none⟩ _).setCell ⟨gx, 1, none⟩ _).setCell ⟨gx, 2, none⟩ _) = V8
    have hV9 : V8 = putRow w3 gx 0 (oc c) := hV.symm
    have hb8 : But (fun b => b = gx) w3 V8 := by rw [hV9]; exact putRow_but (E := fun b => b = gx) (n := gx) rfl _ _ _ _ (But.refl _ _)
    have p8 := putRow_all (oc c) E0 rfl
    rw [← hV9] at p8
    clear hV hV9
    have P8 := block_cell p8
    have h8 : GI base V8 g s2 := ⟨h3.bs, cellsG_but hb8 h3.gc E0 (by intro e; injection e with e1 e2 e3; exact absurd e2 (by decide)), ⟨h3.rl.1, cellsG_but hb8 h3.rl.2.1 E0 (by intro e; injection e with e1 e2 e3; exact absurd e2 (by decide)), ownG_but h3.rl.2.2 hb8 E0 (by decide)⟩, h3.tb.butG hb8 E0 (by decide) (by decide), ⟨h3.bl.1, cellsG_but hb8 h3.bl.2.1 E0 (by intro e; injection e with e1 e2 e3; exact absurd e2 (by decide)), ownG_but h3.bl.2.2 hb8 E0 (by decide)⟩, cellsG_but hb8 h3.fl E0 (by intro e; cases e), cellsG_but hb8 h3.pl E0 (by intro e; cases e)⟩
    have M8 : But (fun b => b = g ∨ b = s.gb) w V8 := ⟨hb8.os.trans (l3.os.trans M12.os), hb8.tape.trans (l3.tape.trans M12.tape), hb8.output.trans (l3.output.trans M12.output), Nat.le_trans M12.size (Nat.le_trans l3.size hb8.size), fun i hi he => ((hb8.block i (Nat.lt_of_lt_of_le (Nat.lt_of_lt_of_le hi M12.size) l3.size) (fun e => by have e' : i = gx := e; omega)).trans (l3.block i (Nat.lt_of_lt_of_le hi M12.size))).trans (M12.block i hi he)⟩
    exact bodyPost_ret (v := .agg (oc c).toArray) (by simp [results, Tryz.results6, go_sem, P8]) rfl ⟨⟨c, hc, rfl⟩, M8, s2, hl2, hg2, h8⟩
end Go.Proofs.YtohflohdbkamnaaGreatDoor

/- Package gate: a new gateway, its rules. -/
namespace Go.Proofs.YtohflohdbkamnaaGreatDoor
open Go.RowKit Go.Shelf
set_option maxRecDepth 100000
set_option linter.unusedVariables false
set_option linter.unusedSimpArgs false

theorem ownG_mono {W : World} {base base' : Nat} {e : TypeId} {size : Nat} {v : Value} {n : Nat} {xs : List Value} (h : W.ownsRow base e size v n xs) (hb : base' ≤ base) : W.ownsRow base' e size v n xs := by
  obtain ⟨h1, h2 | ⟨b, cap, cur, e', hb', r⟩⟩ := h
  · exact ⟨h1, .inl h2⟩
  · exact ⟨h1, .inr ⟨b, cap, cur, e', Nat.le_trans hb hb', r⟩⟩
theorem RL.monoG {t : TypeId} {base base' : Nat} {W : World} {b : Nat} {v : Value} {l : List Ru} (h : RL t base W b v l) (hb : base' ≤ base) : RL t base' W b v l := ⟨Nat.le_trans hb h.1, h.2.1, ownG_mono h.2.2 hb⟩
theorem BL.monoG {t : TypeId} {base base' : Nat} {W : World} {b : Nat} {v : Value} {l : List Ex} (h : BL t base W b v l) (hb : base' ≤ base) : BL t base' W b v l := ⟨Nat.le_trans hb h.1, h.2.1, ownG_mono h.2.2 hb⟩
theorem TB.monoG {base base' : Nat} {W : World} {b : Nat} {lim cnt trn : Int} {ls : Nat → List Rw} (h : TB base W b lim cnt trn ls) (hb : base' ≤ base) : TB base' W b lim cnt trn ls := by
  obtain ⟨vs, q1, q2, q3, q4, q5⟩ := h
  exact ⟨vs, q1, Nat.le_trans hb q2, q3, fun i hi => ownG_mono (q4 i hi) hb, q5⟩
/-- A gateway without rules. -/
def GnQ (w w' : World) (e : Ending) : Prop := ∃ g s, e = .returned (.pointer (some ⟨g, 0, none⟩)) ∧ Later w w' ∧ GI w.heap.size w' g s ∧ s.ls = []

set_option maxRecDepth 100000 in
set_option maxHeartbeats 4000000 in
theorem gnew_yes (lo hi : Int) (w : World) (h0 : lo ≠ 0) (h1 : lo ≤ hi) : Calls Tryz.prog 15 #[.int .u16 lo, .int .u16 hi] w fun e w' => GnQ w w' e := by
  have t0 : (lo == 0) = false := by rw [beq_eq_false_iff_ne]; exact h0
  have t1 : ¬ hi < lo := by omega
  have hmm := @run_makeMap Tryz.prog
  go_enter Tryz.func15, Tryz.ntmps15
  go_upto_region 3 with fail
  clear h0 h1 t0 t1
  go_wp2_with fail
  refine (new9_any w).mono ?_
  rintro e w1 ⟨rfl, l1, r1⟩
  have m2 := heap_alloc_new w1 (.map #[] 0)
  have l2 := later_allocG w1 (.map #[] 0)
  have r2 := r1.later l2
  have HR2 := hide r2
  have HM2 := hide m2
  clear r1 r2 m2
  go_wp2_with fail
  change Calls _ _ _ (w1.alloc (.map #[] 0)) _
  generalize w1.alloc (.map #[] 0) = w2 at *
  generalize w1.heap.size = gf at *
  refine (new_yes 128 w2 (by decide) (by decide)).mono ?_
  rintro e w3 ⟨rfl, l3, r3⟩
  have HT3 := hide r3
  have l3' : Later w2 w3 := l3
  clear r3
  go_wp2_with fail
  refine (new12_any w3).mono ?_
  rintro e w4 ⟨rfl, l4, r4⟩
  have HB4 := hide r4
  clear r4
  have m5 := heap_alloc_new w4 (.map #[] 0)
  have l5 := later_allocG w4 (.map #[] 0)
  have HM5 := hide m5
  clear m5
  go_wp2_with fail
  have e1 : w2.heap.size ≤ w3.heap.size := l3'.size
  have e0 : w.heap.size ≤ w2.heap.size := Nat.le_trans l1.size l2.size
  have e2 : w3.heap.size ≤ w4.heap.size := l4.size
  generalize hw5 : w4.alloc (.map #[] 0) = w5 at *
  have hs5 : w5.heap.size = w4.heap.size + 1 := by rw [← hw5, World.size_alloc]
  generalize hg5 : w4.heap.size = gp at *
  have m6 := heap_alloc_new w5 (.cells #[.int .u16 lo, .int .u16 hi, .int .i64 0, .int .i64 0, .pointer (some ⟨w.heap.size, 0, none⟩), .map (some gf), .pointer (some ⟨w2.heap.size, 0, none⟩), .pointer (some ⟨w3.heap.size, 0, none⟩), .map (some gp)] 65)
  have l6 := later_allocG w5 (.cells #[.int .u16 lo, .int .u16 hi, .int .i64 0, .int .i64 0, .pointer (some ⟨w.heap.size, 0, none⟩), .map (some gf), .pointer (some ⟨w2.heap.size, 0, none⟩), .pointer (some ⟨w3.heap.size, 0, none⟩), .map (some gp)] 65)
  have k36 := l4.trans (Later.trans l5 l6)
  have k26 := l3'.trans k36
  rw [hs5] at m6
  go_ret
  refine ⟨gp + 1, ⟨lo, hi, 0, [], w.heap.size, gf, w2.heap.size, w3.heap.size, gp, .slice none 0 0, .slice none 0 0, 0, 0⟩, rfl, Later.trans l1 (Later.trans l2 k26), ?_, rfl⟩
  exact ⟨by show w.heap.size ≤ gp + 1; omega, m6, HR2.out.later k26, (HT3.out.laterD k36).monoG e0, (HB4.out.later (Later.trans l5 l6)).monoG (Nat.le_trans e0 e1), later_keep k26 HM2.out, later_keep l6 HM5.out⟩
end Go.Proofs.YtohflohdbkamnaaGreatDoor

/- Package gate: a rule is added; the gateway of the laws. -/
namespace Go.Proofs.YtohflohdbkamnaaGreatDoor
open Go.RowKit Go.Shelf
set_option maxRecDepth 100000
set_option linter.unusedVariables false
set_option linter.unusedSimpArgs false

/-- What is in blocks of rules. -/
def RuE (W : World) (E : Nat → Prop) : Prop := ∀ b, E b → ∃ cur t f, W.heap[b]? = some (.cells cur t f) ∧ (t = 166 ∨ t = 28)
theorem RuE.keep {W W' : World} {E : Nat → Prop} (hE : RuE W E) (hb : But E W W') {b : Nat} {o : Obj} (h : W.heap[b]? = some o) (ho : ∀ cur t f, o = .cells cur t f → t ≠ 166 ∧ t ≠ 28) : W'.heap[b]? = some o :=
  (hb.block b (Array.getElem?_eq_some_iff.1 h).1 (fun e => by
    obtain ⟨cur, t, f, h1, h2⟩ := hE b e
    rw [h] at h1
    have := ho cur t f (Option.some.inj h1)
    rcases h2 with h2 | h2
    · exact this.1 h2
    · exact this.2 h2)).trans h
theorem RuE.own {W W' : World} {E : Nat → Prop} (hE : RuE W E) (hb : But E W W') {base : Nat} {e : TypeId} {size : Nat} {v : Value} {n : Nat} {xs : List Value} (h : W.ownsRow base e size v n xs) (h1 : e ≠ 166) (h2 : e ≠ 28) : W'.ownsRow base e size v n xs := by
  obtain ⟨q1, q2 | ⟨b, cap, cur', e', hb', hh, r⟩⟩ := h
  · exact ⟨q1, .inl q2⟩
  · exact ⟨q1, .inr ⟨b, cap, cur', e', hb', hE.keep hb hh (fun c t f e => by cases e; exact ⟨h1, h2⟩), r⟩⟩
theorem GI.rules {base g : Nat} {W W' : World} {s : Gs} (h : GI base W g s) {E : Nat → Prop} (hE : RuE W E) (hb : But E W W') {v : Value} {l : List Ru} (hl : RL 166 base W' s.gr v l) : GI base W' g { s with vr := v, ls := l } := by
  obtain ⟨vs, q1, q2, q3, q4, q5⟩ := h.tb
  exact ⟨h.bs, hE.keep hb h.gc (fun c t f e => by cases e; exact ⟨by decide, by decide⟩), hl, ⟨vs, q1, q2, hE.keep hb q3 (fun c t f e => by cases e; exact ⟨by decide, by decide⟩), fun i hi => hE.own hb (q4 i hi) (by decide) (by decide), q5⟩, ⟨h.bl.1, hE.keep hb h.bl.2.1 (fun c t f e => by cases e; exact ⟨by decide, by decide⟩), hE.own hb h.bl.2.2 (by decide) (by decide)⟩, hE.keep hb h.fl (fun c t f e => by cases e), hE.keep hb h.pl (fun c t f e => by cases e)⟩
theorem RL.ruE {base : Nat} {W : World} {b : Nat} {v : Value} {l : List Ru} (h : RL 166 base W b v l) : RuE W (fun g => g = b ∨ v.ownBlock = some g) := fun g hg => by
  rcases hg with rfl | hg
  · exact ⟨_, _, _, h.2.1, .inl rfl⟩
  · obtain ⟨_, ⟨rfl, _⟩ | ⟨g', cap, cur, rfl, _, hh, _⟩⟩ := h.2.2
    · cases hg
    · cases hg
      exact ⟨_, _, _, hh, .inr rfl⟩
/-- A rule was asked for. -/
def RuQ (base : Nat) (w w' : World) (g : Nat) (l : List Ru) : Prop := Below base w w' ∧ ∃ s', s'.ls = l ∧ GI base w' g s'

set_option maxRecDepth 100000 in
set_option maxHeartbeats 4000000 in
theorem grule_any (base g : Nat) (s : Gs) (x : Ru) (w : World) (h : GI base w g s) (hx : wfR x) (hl : s.ls.length ≤ 32) (hbs : base ≤ w.heap.size) :
    Calls Tryz.prog 9 #[.pointer (some ⟨g, 0, none⟩), .agg (ruc x).toArray] w fun e w' => e = .returned (.int .i64 (adE s.ls x)) ∧ RuQ base w w' g (adL s.ls x) := by
  have l0 := later_allocG w (.cells (ruc x).toArray 28)
  have C0 := hide (heap_alloc_new w (.cells (ruc x).toArray 28))
  have H1 := hide (h.later l0)
  have HAD := hide (fun W v (hr : RL 166 base W s.gr v s.ls) (hb : base ≤ W.heap.size) => add9_any base s.gr v s.ls x W hr hx hl hb)
  unfold ruc at *
  clear h hx hl
  go_enter Tryz.func9, Tryz.ntmps9
  go_upto_region 3 with fail
  generalize w.alloc _ = w1 at *
  generalize w.heap.size = gx at C0 ⊢
  refine wp_calmG ?_
  refine anyU_begin (R1 := Later) (R2 := fun _ _ => True) (D := [5]) 7 rfl (by kernel_rfl) ?_
  have ld : Later w1 w1.drew := Later.drew w1
  generalize w1.drew = Wd at *
  have H2 := hide (H1.out.later ld)
  have q0 : ∀ v, Later Wd v → ∀ j, v.cell? ⟨gx, j, none⟩ = _ := fun v hv => block_cell (later_keep (ld.trans hv) C0.out)
  have q1 : ∀ v, Later Wd v → ∀ j, v.cell? ⟨g, j, none⟩ = (gtc s).toArray[j]? := fun v hv => block_cell (later_keep hv H2.out.gc)
  unfold gtc at q1
  refine anyU_val Later.pre 0 [1, 2, 3, 5, 6] rfl (by rfl) (by rfl) (by kernel_rfl) (by kernel_rfl) (by kernel_rfl) (by kernel_rfl) (by kernel_rfl) (fun _ _ _ _ h => by cases h.1) (by rfl) ?_; apply Exists.intro; refine ⟨fun v1 hv1 => ?_, ?_⟩; (· (go_simp; rfl)); simp only [Act.put, List.setIfInBounds_toArray, List.set_cons_zero, List.set_cons_succ]
  refine anyU_val Later.pre 1 [2, 3, 5, 6] rfl (by rfl) (by rfl) (by kernel_rfl) (by kernel_rfl) (by kernel_rfl) (by kernel_rfl) (by kernel_rfl) (fun _ _ _ _ h => by cases h.1) (by rfl) ?_; apply Exists.intro; refine ⟨fun v1 hv1 => ?_, ?_⟩; (· (go_simp; rfl)); simp only [Act.put, List.setIfInBounds_toArray, List.set_cons_zero, List.set_cons_succ]
  refine anyU_val Later.pre 2 [3, 5, 6] rfl (by rfl) (by rfl) (by kernel_rfl) (by kernel_rfl) (by kernel_rfl) (by kernel_rfl) (by kernel_rfl) (fun _ _ _ _ h => by cases h.1) (by rfl) ?_; apply Exists.intro; refine ⟨fun v1 hv1 => ?_, ?_⟩; (· (go_simp; rfl)); simp only [Act.put, List.setIfInBounds_toArray, List.set_cons_zero, List.set_cons_succ]
  refine anyU_val Later.pre 3 [5, 6] rfl (by rfl) (by rfl) (by kernel_rfl) (by kernel_rfl) (by kernel_rfl) (by kernel_rfl) (by kernel_rfl) (fun _ _ _ _ h => by cases h.1) (by rfl) ?_; apply Exists.intro; refine ⟨fun v1 hv1 => ?_, ?_⟩; (· (go_simp; rfl)); simp only [Act.put, List.setIfInBounds_toArray, List.set_cons_zero, List.set_cons_succ]
  refine anyU_val Later.pre 4 [5, 6] rfl (by rfl) (by rfl) (by kernel_rfl) (by kernel_rfl) (by kernel_rfl) (by kernel_rfl) (by kernel_rfl) (fun _ _ _ _ h => by cases h.1) (by rfl) ?_; apply Exists.intro; refine ⟨fun v1 hv1 => ?_, ?_⟩; (· (go_simp; rfl)); simp only [Act.put, List.setIfInBounds_toArray, List.set_cons_zero, List.set_cons_succ]
  clear q0 q1
  have hbd : base ≤ Wd.heap.size := Nat.le_trans hbs (Later.trans l0 ld).size
  refine anyU_one 5 rfl (by kernel_rfl) (by rfl) ?_
  refine wp_enter 28 #[.pointer (some ⟨s.gr, 0, none⟩), .agg (ruc x).toArray] (by unfold ruc; go_simp) ?_
  refine (HAD.out Wd s.vr H2.out.rl hbd).mono ?_
  rintro e w3 ⟨rfl, v3, hr3, hb3, _⟩
  refine ⟨Rj_in (by rfl) trivial, ?_⟩
  simp only [Act.put, List.setIfInBounds_toArray, List.set_cons_zero, List.set_cons_succ]
  refine anyU_one 6 rfl (by kernel_rfl) (by rfl) ?_
  refine wp_value (w' := w3) (.int .i64 (adE s.ls x)) (by go_simp) ?_
  refine ⟨Rj_out (by rfl) (Later.refl _), ?_⟩
  simp only [Act.put, List.setIfInBounds_toArray, List.set_cons_zero, List.set_cons_succ]
  refine anyU_done (by kernel_rfl) ?_
  refine ⟨rfl, ?_⟩
  have h3 := H2.out.rules H2.out.rl.ruE hb3 hr3
  have B3 : Below base Wd w3 := hb3.below hbd (fun k hk e => by
    rcases e with e | e
    · have := H2.out.rl.1; omega
    · obtain ⟨_, ⟨e', _⟩ | ⟨g', cap, cur, e', hge, hh, _⟩⟩ := H2.out.rl.2.2
      · rw [e'] at e; cases e
      · rw [e'] at e
        have e2 : g' = k := by simpa [Value.ownBlock] using e
        omega)
  go_wp2_with fail
  go_ret
  exact ⟨rfl, ((Later.trans l0 ld).mono hbs).trans B3, _, rfl, h3⟩

/-- The rule of the laws' gateway. -/
def mqR : Ru := ⟨1, 0, 167772160, 8, 16909060, 0, 0, 0⟩
theorem mq_wf : wfR mqR := by unfold wfR mqR; simp
theorem mq_ok : adE [] mqR = 0 := by decide +kernel
theorem mq_list : adL [] mqR = [mqR] := by rw [adL_yes mq_ok]; rfl
def GwQ (w w' : World) (e : Ending) : Prop := ∃ g s, e = .returned (.pointer (some ⟨g, 0, none⟩)) ∧ Later w w' ∧ GI w.heap.size w' g s ∧ s.ls = [mqR]

set_option maxRecDepth 100000 in
set_option maxHeartbeats 4000000 in
theorem gateway_any (w : World) : Calls Tryz.prog 17 #[] w fun e w' => GwQ w w' e := by
  go_enter Tryz.func17, Tryz.ntmps17
  go_wp2_with fail
  refine (gnew_yes 1000 1063 w (by decide) (by decide)).mono ?_
  rintro e w1 ⟨g, s, rfl, l1, h1, hls⟩
  have HR := hide (grule_any w.heap.size g s mqR w1 h1 mq_wf (by rw [hls]; simp) l1.size)
  rw [hls, mq_ok, mq_list] at HR
  go_wp2_with fail
  refine HR.out.mono ?_
  rintro e w2 ⟨rfl, b2, s2, hl2, h2⟩
  go_wp2_with fail
  go_ret
  exact ⟨g, s2, rfl, Below.trans l1 b2, h2, hl2⟩
end Go.Proofs.YtohflohdbkamnaaGreatDoor

/- Package gate: what is known of flows at a gateway that has none: the keys of an empty map, sorted. -/
namespace Go.Proofs.YtohflohdbkamnaaGreatDoor
open Go.RowKit Go.Shelf
set_option maxRecDepth 100000
set_option linter.unusedVariables false
set_option linter.unusedSimpArgs false

theorem next_empty {w : World} {r bm since c0 clock : Nat} (ty : TypeId) (hr : w.heap[r]? = some (.mapIter (some bm) since #[] c0)) (hb : w.heap[bm]? = some (.map #[] clock)) (hsc : since ≤ c0) :
    (Instr.next (.pointer (some ⟨r, 0, none⟩)) false ty).run Tryz.prog w = .ok (.tuple #[.bool false]) w := by
  rcases Go.run_next_at (P := Tryz.prog) w ty r bm since c0 #[] #[] clock hr hb (fun x hx => by simp at hx) hsc with ⟨_, h⟩ | ⟨e, he, _⟩
  · exact h
  · simp [leftOf] at he

def encK (x : Int) : Array Value := #[.int .i64 x]

set_option maxRecDepth 100000 in
set_option maxHeartbeats 4000000 in
theorem keys1_in (n : Nat) (hn : 1 ≤ n) (l B gf cf : Nat) (W : World) (hB : W.cell? ⟨B, 0, none⟩ = some (.map (some gf))) (hm : W.heap[gf]? = some (.map #[] cf)) :
    CallsIn Fence.wide n Tryz.prog 117 #[.func (.yield l) #[] #[], .pointer (some ⟨B, 0, none⟩)] W fun e W' => (∃ v, e = .returned v) ∧ Later W W' := by
  have la := later_allocG W (.mapIter (some gf) cf #[] cf)
  have hrg := run_range_map (P := Tryz.prog) W 60 _ _ gf #[] cf Tryz.underlying60 hm
  have hnx := fun ty => next_empty ty (heap_alloc_new W (.mapIter (some gf) cf #[] cf)) (later_keep la hm) (Nat.le_refl cf)
  refine callsIn_of_wp Tryz.func117 rfl trivial ?_ rfl
  simp only [Tryz.ntmps117, List.size_toArray, List.length_cons, List.length_nil, Nat.reduceAdd, Nat.reduceSub, Array.replicate_succ, Array.replicate_zero, List.push_toArray, List.append_toArray, List.nil_append, List.cons_append]
  have HNX := hide hnx
  have LA := hide la
  clear hnx hm
  gi_wp2
  clear hrg hB
  generalize W.alloc (.mapIter (some gf) cf #[] cf) = W1 at *
  gi_loopw [3] (fun _ wx => wx = W1) (fun _ _ => 0)
  case atStart => rfl
  case round =>
    subst hrel
    have hnx := HNX.out
    gi_wp2
    go_end0
    exact ⟨⟨_, rfl⟩, LA.out⟩

theorem keys_gen (n : Nat) (hn : 1 ≤ n) (B gf cf : Nat) (w : World) (hB : w.heap[B]? = some (.cells #[.map (some gf)] 60 (0, 0))) (hm : w.heap[gf]? = some (.map #[] cf)) :
    GenX Fence.wide n Tryz.prog 117 #[.pointer (some ⟨B, 0, none⟩)] encK (Below w.heap.size) (fun _ _ _ => False) (fun xs => xs = []) (fun _ => False) w := fun l J Jx W hW hJ hY h0 => by
  refine (keys1_in n hn l B gf cf W (block_cell (later_keep hW hB) 0) (later_keep hW hm)).mono ?_
  rintro e W' ⟨hv, la⟩
  exact ⟨hv, .inl ⟨[], rfl, hJ _ _ _ h0 la⟩⟩

theorem keys_any (gf : Nat) (w : World) : Calls Tryz.prog 71 #[.map (some gf)] w fun e w' => e = .returned (.func (.func 117) #[] #[.pointer (some ⟨w.heap.size, 0, none⟩)]) ∧ w' = w.alloc (.cells #[.map (some gf)] 60) := by
  have hmf : ∀ (fn : Fn) (first cap : Array Value) (w : World), (Instr.makeFunc fn first cap).run Tryz.prog w = .ok (.func fn first cap) w := fun _ _ _ _ => rfl
  go_enter Tryz.func71, Tryz.ntmps71
  go_wp2_with fail
  go_ret
  exact ⟨rfl, rfl⟩

set_option maxRecDepth 100000 in
set_option maxHeartbeats 8000000 in
theorem appendSeq_none (B gf cf : Nat) (w : World) (hB : w.heap[B]? = some (.cells #[.map (some gf)] 60 (0, 0))) (hm : w.heap[gf]? = some (.map #[] cf)) :
    Calls Tryz.prog 164 #[.slice none 0 0, .func (.func 117) #[] #[.pointer (some ⟨B, 0, none⟩)]] w fun e w' => e = .returned (.slice none 0 0) ∧ Later w w' := by
  have l0 := later_allocG w (.cells #[.slice none 0 0] 167)
  have C0 := hide (heap_alloc_new w (.cells #[.slice none 0 0] 167))
  have HB1 := hide (later_keep l0 hB)
  have HM1 := hide (later_keep l0 hm)
  refine (callsIn_wide (n := 5)).1 ?_
  refine callsIn_of_wp_marks Tryz.func164 rfl trivial ?_ rfl
  simp only [Tryz.ntmps164, List.size_toArray, List.length_cons, List.length_nil, Nat.reduceAdd, Nat.reduceSub, Array.replicate_succ, Array.replicate_zero, List.push_toArray, List.append_toArray, List.nil_append, List.cons_append]
  gi_wp2
  generalize w.alloc (.cells #[.slice none 0 0] 167) = w1 at *
  have hs0 := l0.size
  refine wpIn_rangeX (w := w1) rfl (by omega) (gf := 117) (lb := #[.pointer (some ⟨B, 0, none⟩)]) rfl trivial (enters_of Tryz.func117 (by kernel_rfl) rfl)
    (keys_gen 4 (by omega) B gf cf w1 HB1.out HM1.out)
    (fun h k => h.trans k) (fun W l o o' hl ho hc hw => belowK_b (w := w1) (Nat.le_refl _) W l o o' hl ho hc hw) (fun hA hL => hL.mono hA) (fun _ _ _ _ h _ => h) (fun _ _ _ _ _ _ _ _ _ h => h) (fun _ => rfl)
    (fun pre W => Below w1.heap.size w1 W) (fun pre W => False)
    (ownFrom_below (Nat.le_refl _) (Nat.le_refl _))
    (fun s A B h l => h.trans (l.mono h.size))
    (fun s A B row hs hg hr => hs)
    (Below.refl _ _)
    (fun x a' W => False)
    (fun x a' W l o o' hl ho hc h => h) ?assign ?body ?done ?stop
  case assign =>
    rintro l pre x W K hsz _ hX hK
    exact hX.elim
  case body =>
    rintro l pre x a' W _ hX _
    exact hX.elim
  case done =>
    rintro D xs W hD rfl hbW hK
    have K1 := block_cell (later_keep hbW C0.out)
    gi_wp2
    refine ⟨by simp, .inl ⟨_, _, rfl, run_takeDeferred hK, ?_⟩⟩
    exact ⟨.slice none 0 0, by simp [results, Tryz.results164, go_sem], rfl, Later.trans l0 (Below.trans hbW (belowK_b (w := w1) (Nat.le_refl _) W D _ _ hD hK rfl rfl))⟩
  case stop =>
    rintro D pre W hD _ h
    exact h.elim
end Go.Proofs.YtohflohdbkamnaaGreatDoor

/- Package gate: Flows, Expects, Used of a gateway behind which nobody has spoken. -/
namespace Go.Proofs.YtohflohdbkamnaaGreatDoor
open Go.RowKit Go.Shelf
set_option maxRecDepth 100000
set_option linter.unusedVariables false
set_option linter.unusedSimpArgs false

theorem collect_none (B gf cf : Nat) (w : World) (hB : w.heap[B]? = some (.cells #[.map (some gf)] 60 (0, 0))) (hm : w.heap[gf]? = some (.map #[] cf)) :
    Calls Tryz.prog 115 #[.func (.func 117) #[] #[.pointer (some ⟨B, 0, none⟩)]] w fun e w' => e = .returned (.slice none 0 0) ∧ Later w w' := by
  have HA := hide (appendSeq_none B gf cf w hB hm)
  go_enter Tryz.func115, Tryz.ntmps115
  go_wp2_with fail
  refine HA.out.mono ?_
  rintro e w1 ⟨rfl, l1⟩
  go_wp2_with fail
  go_ret
  exact ⟨rfl, l1⟩

theorem insertO_none (sv : Value) (w : World) : Calls Tryz.prog 209 #[sv, .int .i64 0, .int .i64 0] w fun e w' => (∃ v, e = .returned v) ∧ w' = w := by
  go_enter Tryz.func209, Tryz.ntmps209
  go_wp2_with fail
  go_loopw [6] (fun i wr => i = .int .i64 1 ∧ wr = w) (fun _ _ => 0)
  case atStart => exact ⟨rfl, rfl⟩
  case round =>
    obtain ⟨rfl, rfl⟩ := hrel
    go_wp2_with fail
    go_end0
    exact ⟨⟨_, rfl⟩, rfl⟩

set_option maxHeartbeats 2000000 in
theorem pdqO_none (sv : Value) (lm : Int) (w : World) : Calls Tryz.prog 165 #[sv, .int .i64 0, .int .i64 0, .int .i64 lm] w fun e w' => (∃ v, e = .returned v) ∧ w' = w := by
  go_enter Tryz.func165, Tryz.ntmps165
  go_wp2_with fail
  go_loopw [1, 2] (fun a b wr => a = .int .i64 0 ∧ b = .int .i64 0 ∧ wr = w) (fun _ _ _ => 0)
  case atStart => exact ⟨rfl, rfl, rfl⟩
  case round =>
    obtain ⟨rfl, rfl, rfl⟩ := hrel
    go_wp2_with fail
    refine (insertO_none sv wr).mono ?_
    rintro e w1 ⟨⟨v, rfl⟩, rfl⟩
    go_wp2_with fail
    refine bodyPost_ret (results_none rfl _ _ _) rfl ?_
    exact ⟨⟨_, rfl⟩, rfl⟩

theorem sortO_none (w : World) : Calls Tryz.prog 116 #[.slice none 0 0] w fun e w' => (∃ v, e = .returned v) ∧ w' = w := by
  go_enter Tryz.func116, Tryz.ntmps116
  go_wp2_with fail
  refine (len_few 0 w (by omega)).mono ?_
  rintro e w1 ⟨⟨v, rfl⟩, rfl⟩
  go_wp2_with fail
  refine (pdqO_none (.slice none 0 0) v w1).mono ?_
  rintro e w2 ⟨⟨v2, rfl⟩, rfl⟩
  go_wp2_with fail
  go_end0
  exact ⟨⟨_, rfl⟩, rfl⟩

theorem sorted_none (B gf cf : Nat) (w : World) (hB : w.heap[B]? = some (.cells #[.map (some gf)] 60 (0, 0))) (hm : w.heap[gf]? = some (.map #[] cf)) :
    Calls Tryz.prog 70 #[.func (.func 117) #[] #[.pointer (some ⟨B, 0, none⟩)]] w fun e w' => e = .returned (.slice none 0 0) ∧ Later w w' := by
  have HA := hide (collect_none B gf cf w hB hm)
  go_enter Tryz.func70, Tryz.ntmps70
  go_wp2_with fail
  refine HA.out.mono ?_
  rintro e w1 ⟨rfl, l1⟩
  go_wp2_with fail
  refine (sortO_none w1).mono ?_
  rintro e w2 ⟨⟨v, rfl⟩, rfl⟩
  go_wp2_with fail
  go_ret
  exact ⟨rfl, l1⟩

set_option maxRecDepth 100000 in
set_option maxHeartbeats 4000000 in
theorem byId_none (base g : Nat) (s : Gs) (w : World) (h : GI base w g s) : Calls Tryz.prog 29 #[.pointer (some ⟨g, 0, none⟩)] w fun e w' => e = .returned (.slice none 0 0) ∧ Later w w' := by
  have k0 := block_cell h.gc
  unfold gtc at k0
  have la := later_allocG w (.cells #[.map (some s.gf)] 60)
  have HS := hide (sorted_none w.heap.size s.gf s.cf _ (heap_alloc_new w (.cells #[.map (some s.gf)] 60)) (later_keep la h.fl))
  go_enter Tryz.func29, Tryz.ntmps29
  go_wp2_with fail
  refine (keys_any s.gf w).mono ?_
  rintro e w1 ⟨rfl, rfl⟩
  go_wp2_with fail
  refine HS.out.mono ?_
  rintro e w2 ⟨rfl, l2⟩
  clear k0
  go_upto_region 3 with fail
  go_loopw [3, 13] (fun ov iv wr => ov = .slice none 0 0 ∧ iv = .int .i64 0 ∧ wr = w2) (fun _ _ _ => 0)
  case atStart => exact ⟨rfl, rfl, rfl⟩
  case round =>
    obtain ⟨rfl, rfl, rfl⟩ := hrel
    go_wp2_with fail
    go_ret
    exact ⟨rfl, la.trans l2⟩

set_option maxRecDepth 100000 in
set_option maxHeartbeats 4000000 in
theorem flows_none (base g : Nat) (s : Gs) (w : World) (h : GI base w g s) : Calls Tryz.prog 10 #[.pointer (some ⟨g, 0, none⟩)] w fun e w' => e = .returned (.slice none 0 0) ∧ Later w w' := by
  have HB := hide (byId_none base g s w h)
  go_enter Tryz.func10, Tryz.ntmps10
  go_wp2_with fail
  refine HB.out.mono ?_
  rintro e w2 ⟨rfl, l2⟩
  go_upto_region 5 with fail
  go_loopw [3, 11] (fun ov iv wr => ov = .slice none 0 0 ∧ iv = .int .i64 0 ∧ wr = w2) (fun _ _ _ => 0)
  case atStart => exact ⟨rfl, rfl, rfl⟩
  case round =>
    obtain ⟨rfl, rfl, rfl⟩ := hrel
    go_wp2_with fail
    go_ret
    exact ⟨rfl, l2⟩

theorem expects_none (base g : Nat) (s : Gs) (w : World) (h : GI base w g s) : Calls Tryz.prog 11 #[.pointer (some ⟨g, 0, none⟩)] w fun e w' => (∃ a c, e = .returned (.slice a 0 c)) ∧ Later w w' := by
  have k0 := block_cell h.gc
  unfold gtc at k0
  have HB := hide (list12_any base s.gb s.ve [] w h.bl (by simp))
  go_enter Tryz.func11, Tryz.ntmps11
  go_wp2_with fail
  refine HB.out.mono ?_
  rintro e w2 ⟨l2, u, rfl, hrow⟩
  obtain ⟨ua, uc, rfl⟩ : ∃ a c, u = .slice a 0 c := by
    obtain ⟨_, ⟨rfl, _⟩ | ⟨b, cap, cur, rfl, _⟩⟩ := hrow
    · exact ⟨_, _, rfl⟩
    · exact ⟨_, _, rfl⟩
  go_wp2_with fail
  go_ret
  exact ⟨⟨_, _, rfl⟩, l2⟩
end Go.Proofs.YtohflohdbkamnaaGreatDoor

/- Package gate: Used of a gateway behind which nobody has spoken; the walk of TopUncalled. -/
namespace Go.Proofs.YtohflohdbkamnaaGreatDoor
open Go.RowKit Go.Shelf
set_option maxRecDepth 100000
set_option linter.unusedVariables false
set_option linter.unusedSimpArgs false

theorem used_nilG (w : World) : Calls Tryz.prog 31 #[.pointer none] w fun e w' => e = .returned (.slice none 0 0) ∧ Later w w' := by
  refine (callsIn_wide (n := 5)).1 ?_
  refine callsIn_of_wp_marks Tryz.func31 rfl trivial ?_ rfl
  simp only [Tryz.ntmps31, List.size_toArray, List.length_cons, List.length_nil, Nat.reduceAdd, Nat.reduceSub, Array.replicate_succ, Array.replicate_zero, List.push_toArray, List.append_toArray, List.nil_append, List.cons_append]
  gi_wp2
  exact ⟨.slice none 0 0, by simp [results, Tryz.results31, go_sem], rfl, (Below.refl _ _).alloc (Nat.le_refl _) _⟩
theorem ck_src (e : Bool) (p a : Int) (w : World) : (Instr.checkKey e 10000 95 (.agg #[.int .u8 p, .int .u32 a])).run Tryz.prog w = .ok () w := by kernel_rfl
theorem zero_pool (w : World) : (zeroValue 93).run Tryz.prog w = .ok (.pointer none) w := by kernel_rfl
theorem look_src {w : World} {b c : Nat} (hb : w.heap[b]? = some (.map #[] c)) (p a : Int) : (Instr.lookup 63 (.map (some b)) (.agg #[.int .u8 p, .int .u32 a]) false).run Tryz.prog w = .ok (.pointer none) w := by
  have hf : (Instr.findKey 95 (.agg #[.int .u8 p, .int .u32 a]) []).run Tryz.prog w = .ok none w := MapKept.run_findKey Tryz.underlying95 rfl
  simp [Instr.lookup, run_underlying Tryz.underlying63, MapKept.run_getObj_map hb, ck_src, hf, zero_pool, Result.andThen]

set_option maxRecDepth 100000 in
set_option maxHeartbeats 4000000 in
theorem gused_none (base g : Nat) (s : Gs) (p a : Int) (w : World) (h : GI base w g s) : Calls Tryz.prog 12 #[.pointer (some ⟨g, 0, none⟩), .int .u8 p, .int .u32 a] w fun e w' => e = .returned (.slice none 0 0) ∧ Later w w' := by
  have k0 := block_cell h.gc
  unfold gtc at k0
  have hlk := look_src h.pl p a
  go_enter Tryz.func12, Tryz.ntmps12
  go_wp2_with fail
  refine (used_nilG w).mono ?_
  rintro e w2 ⟨rfl, l2⟩
  go_wp2_with fail
  go_ret
  exact ⟨rfl, l2⟩

theorem fewT_any (n₀ : Nat) (sv : Value) (zs : List Int) (w : World) (hI : Rd n₀ w sv zs) : Calls Tryz.prog 18 #[sv, .int .i64 3000] w fun e w' => (∃ v, e = .returned v ∧ Rd n₀ w v (zs.take 3000)) ∧ w' = w := by
  obtain ⟨a, cap, rfl, h1, h2⟩ := hI.slice
  go_enter Tryz.func18, Tryz.ntmps18
  by_cases h : zs.length ≤ 3000
  · have h' : ¬ (3000 : Int) < (zs.length : Int) := by omega
    go_wp2_with fail
    go_ret
    exact ⟨⟨_, rfl, by rw [List.take_of_length_le h]; exact hI⟩, rfl⟩
  · have h' : (3000 : Int) < (zs.length : Int) := by omega
    have h3 : 3000 ≤ cap := by omega
    go_wp2_with fail
    go_ret
    exact ⟨⟨_, rfl, hI.take 3000 (by omega)⟩, rfl⟩

set_option maxRecDepth 100000 in
set_option maxHeartbeats 8000000 in
theorem uncalled_any (w : World) (hT : Tb w) (sv : Value) (zs : List Int) (hB : Mt.By zs) (hI : Rd w.heap.size w sv zs) :
    Calls Tryz.prog 5 #[sv] w fun e w' => e = .returned (.bool true) ∧ Below w.heap.size w w' := by
  obtain ⟨a, cap, rfl, h1, h2⟩ := hI.slice
  go_enter Tryz.func5, Tryz.ntmps5
  go_wp2_with fail
  refine (gateway_any w).mono ?_
  rintro e w1 ⟨g, s, rfl, l1, h1, hls⟩
  have B1 : Below w.heap.size w w1 := l1
  go_wp2_with fail
  refine (fewT_any w.heap.size _ zs w1 (hI.below B1)).mono ?_
  rintro e w2 ⟨⟨v, rfl, hv⟩, hw2⟩
  subst hw2
  have hBt := hB.take 3000
  have hlt : (zs.take 3000).length ≤ 60000 := by rw [List.length_take]; omega
  generalize zs.take 3000 = zt at *
  obtain ⟨va, vc, rfl, _, _⟩ := hv.slice
  have HP := hide (packet_none w.heap.size g s 1 1 _ zt w2 h1 B1.size (fun W hW => hT.later (B1.trans hW)) (.inl ⟨rfl, fun y hy => by rw [hls] at hy; simp at hy; subst hy; decide⟩) hBt hv hlt)
  go_wp2_with fail
  refine HP.out.mono ?_
  rintro e w3 ⟨⟨c, hc, rfl⟩, hk⟩
  have B3 : Below w.heap.size w w3 := B1.trans (hk.below h1 B1.size)
  obtain ⟨_, s3, hl3, _, h3⟩ := hk
  have la := later_allocG w3 (.cells (oc c).toArray 34)
  have C4 := hide (heap_alloc_new w3 (.cells (oc c).toArray 34))
  have h4 := h3.later la
  have B4 : Below w.heap.size w (w3.alloc (.cells (oc c).toArray 34)) := B3.trans (la.mono B3.size)
  have H4 := hide h4
  clear HP h3 h4 hls hl3
  go_upto_region 5 with fail
  change Code.wp _ _ _ _ (w3.alloc (.cells (oc c).toArray 34))
  generalize w3.alloc (.cells (oc c).toArray 34) = w4 at *
  generalize w3.heap.size = go at *
  have k4 := block_cell C4.out
  have t0 : (c != 0) = true := by simp; omega
  have hs4 := B4.size
  go_wp2_with fail
  refine (flows_none w.heap.size g s3 w4 H4.out).mono ?_
  rintro e w5 ⟨rfl, l5⟩
  clear k4
  go_wp2_with fail
  refine (expects_none w.heap.size g s3 w5 (H4.out.later l5)).mono ?_
  rintro e w6 ⟨⟨ea, ec, rfl⟩, l6⟩
  go_wp2_with fail
  refine (gused_none w.heap.size g s3 6 16909060 w6 (H4.out.later (l5.trans l6))).mono ?_
  rintro e w7 ⟨rfl, l7⟩
  go_wp2_with fail
  go_ret
  exact ⟨rfl, B4.trans ((l5.trans (Later.trans l6 l7)).mono hs4)⟩
end Go.Proofs.YtohflohdbkamnaaGreatDoor
