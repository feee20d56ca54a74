/- Package segs: the packet with a unit in it. -/
import Derived.Deep.DeepCutAuto
import Derived.Deep.CutBlock
import Derived.Test.YtomdccljoaieeaaDoorCA
import Derived.Test.YtomdccljoaieeaaDoorRt
namespace Go.Proofs.YtomdccljoaieeaaDoor
open Go.RowKit Go.Shelf
set_option maxRecDepth 100000
set_option linter.unusedVariables false
set_option linter.unusedSimpArgs false

set_option maxHeartbeats 2000000 in
theorem upacked_yes (tos id ttl proto src dst np : Int) (keep : Bool) (so sd sd' : Value) (zo zd : List Int) (w : World) (ub : Nat) (tu : TypeId) (hu : w.heap[ub]? = some (.cells #[sd', .int .u8 np] tu (0, 0))) (hBo : Mt.By zo) (hIo : Rd w.heap.size w so zo) (hId : Rd w.heap.size w sd' zd)
    (hlo : zo.length ≤ 40) (hlm : zo.length % 4 = 0) (hall : 20 + zo.length + zd.length ≤ 65535) (ht : 0 ≤ tos ∧ tos ≤ 255) (hid : 0 ≤ id ∧ id ≤ 65535) (htt : 0 ≤ ttl ∧ ttl ≤ 255) (hpr : 0 ≤ np ∧ np ≤ 255) (hsr : 0 ≤ src ∧ src ≤ 4294967295) (hds : 0 ≤ dst ∧ dst ≤ 4294967295) :
    Calls Tryd.prog 28 #[.pointer (some ⟨ub, 0, none⟩), .agg #[.int .u8 tos, .int .u16 id, .bool keep, .int .u8 ttl, .int .u8 proto, .int .u32 src, .int .u32 dst, so, sd]] w fun e w' => ∃ ao co, e = .returned (.tuple #[.agg #[.int .u8 tos, .int .u16 id, .bool keep, .int .u8 ttl, .int .u8 np, .int .u32 src, .int .u32 dst, .slice ao zo.length co, sd'], .int .i64 0]) ∧ Ow w.heap.size w' (.slice ao zo.length co) zo ∧ Below w.heap.size w w' := by
  obtain ⟨ao, co, rfl, hl1, hm1⟩ := hIo.slice
  obtain ⟨ad, cd, rfl, hl2, hm2⟩ := hId.slice
  have hb0 : Below w.heap.size w ((w.alloc (.cells #[.int .u8 tos, .int .u16 id, .bool keep, .int .u8 ttl, .int .u8 proto, .int .u32 src, .int .u32 dst, .slice ao zo.length co, sd] 40)).alloc (.cells zcc.toArray 40)) := ((Below.refl _ _).alloc (Nat.le_refl _) _).alloc (by simp) _
  have p0 : ((w.alloc (.cells #[.int .u8 tos, .int .u16 id, .bool keep, .int .u8 ttl, .int .u8 proto, .int .u32 src, .int .u32 dst, .slice ao zo.length co, sd] 40)).alloc (.cells zcc.toArray 40)).heap[w.heap.size]? = some (.cells #[.int .u8 tos, .int .u16 id, .bool keep, .int .u8 ttl, .int .u8 proto, .int .u32 src, .int .u32 dst, .slice ao zo.length co, sd] 40) := (Below.heap_alloc _ _ _ (by simp)).trans (heap_alloc_new w _)
  have q0 : ((w.alloc (.cells #[.int .u8 tos, .int .u16 id, .bool keep, .int .u8 ttl, .int .u8 proto, .int .u32 src, .int .u32 dst, .slice ao zo.length co, sd] 40)).alloc (.cells zcc.toArray 40)).heap[w.heap.size + 1]? = some (.cells zcc.toArray 40 (0, 0)) := by have := heap_alloc_new (w.alloc (.cells #[.int .u8 tos, .int .u16 id, .bool keep, .int .u8 ttl, .int .u8 proto, .int .u32 src, .int .u32 dst, .slice ao zo.length co, sd] 40)) (.cells zcc.toArray 40); simpa using this
  have P0 := hide p0
  have Q0 := hide q0
  clear p0 q0
  have hub : ub < w.heap.size := (Array.getElem?_eq_some_iff.1 hu).1
  have hu0 := (hb0.block ub hub).trans hu
  go_enter Tryd.func28, Tryd.ntmps28
  go_upto_region 1 with fail
  generalize (w.alloc (.cells #[.int .u8 tos, .int .u16 id, .bool keep, .int .u8 ttl, .int .u8 proto, .int .u32 src, .int .u32 dst, .slice ao zo.length co, sd] 40)).alloc (.cells zcc.toArray 40) = W0 at *
  refine anyT_begin (R := But (fun b => b = w.heap.size)) 18 rfl (by kernel_rfl) ?_
  have hd : Later W0 W0.drew := Later.drew W0
  have qu : ∀ v1, But (fun b => b = w.heap.size) W0.drew v1 → ∀ i, v1.cell? ⟨ub, i, none⟩ = #[Value.slice ad zd.length cd, .int .u8 np][i]? := fun v1 h => block_cell ((((But.of hd).trans h).block ub (Array.getElem?_eq_some_iff.1 hu0).1 (by omega)).trans hu0)
  have P1 := (hd.block w.heap.size (Array.getElem?_eq_some_iff.1 P0.out).1).trans P0.out
  have Q1 := (hd.block (w.heap.size + 1) (Array.getElem?_eq_some_iff.1 Q0.out).1).trans Q0.out
  have hbd := hb0.trans (hd.mono hb0.size)
  clear P0 Q0 hu0
  generalize W0.drew = W1 at *
  refine anyT_val (But.pre _) 0 rfl (by kernel_rfl) (by kernel_rfl) (by kernel_rfl) (fun _ _ _ _ h => h) rfl ?_; apply Exists.intro; refine ⟨fun v1 hv1 => ?_, ?_⟩; (· (go_simp; rfl)); simp only [Act.put, List.setIfInBounds_toArray, List.set_cons_zero, List.set_cons_succ]
  refine anyT_val (But.pre _) 1 rfl (by kernel_rfl) (by kernel_rfl) (by kernel_rfl) (fun _ _ _ _ h => h) rfl ?_; apply Exists.intro; refine ⟨fun v1 hv1 => ?_, ?_⟩; (· (go_simp; rfl)); simp only [Act.put, List.setIfInBounds_toArray, List.set_cons_zero, List.set_cons_succ]
  refine anyT_val (But.pre _) 2 rfl (by kernel_rfl) (by kernel_rfl) (by kernel_rfl) (fun _ _ _ _ h => h) rfl ?_; apply Exists.intro; refine ⟨fun v1 hv1 => ?_, ?_⟩; (· (go_simp; rfl)); simp only [Act.put, List.setIfInBounds_toArray, List.set_cons_zero, List.set_cons_succ]
  refine anyT_val (But.pre _) 3 rfl (by kernel_rfl) (by kernel_rfl) (by kernel_rfl) (fun _ _ _ _ h => h) rfl ?_; apply Exists.intro; refine ⟨fun v1 hv1 => ?_, ?_⟩; (· (go_simp; rfl)); simp only [Act.put, List.setIfInBounds_toArray, List.set_cons_zero, List.set_cons_succ]
  refine anyT_val (But.pre _) 7 rfl (by kernel_rfl) (by kernel_rfl) (by kernel_rfl) (fun _ _ _ _ h => h) rfl ?_; apply Exists.intro; refine ⟨fun v1 hv1 => ?_, ?_⟩; (· (go_simp; rfl)); simp only [Act.put, List.setIfInBounds_toArray, List.set_cons_zero, List.set_cons_succ]
  refine anyT_val (But.pre _) 8 rfl (by kernel_rfl) (by kernel_rfl) (by kernel_rfl) (fun _ _ _ _ h => h) rfl ?_; apply Exists.intro; refine ⟨fun v1 hv1 => ?_, ?_⟩; (· (go_simp; rfl)); simp only [Act.put, List.setIfInBounds_toArray, List.set_cons_zero, List.set_cons_succ]
  refine anyT_val (But.pre _) 9 rfl (by kernel_rfl) (by kernel_rfl) (by kernel_rfl) (fun _ _ _ _ h => h) rfl ?_; apply Exists.intro; refine ⟨fun v1 hv1 => ?_, ?_⟩; (· (go_simp; rfl)); simp only [Act.put, List.setIfInBounds_toArray, List.set_cons_zero, List.set_cons_succ]
  refine anyT_val (But.pre _) 10 rfl (by kernel_rfl) (by kernel_rfl) (by kernel_rfl) (fun _ _ _ _ h => h) rfl ?_; apply Exists.intro; refine ⟨fun v1 hv1 => ?_, ?_⟩; (· (go_simp; rfl)); simp only [Act.put, List.setIfInBounds_toArray, List.set_cons_zero, List.set_cons_succ]
  refine anyT_val (But.pre _) 11 rfl (by kernel_rfl) (by kernel_rfl) (by kernel_rfl) (fun _ _ _ _ h => h) rfl ?_; apply Exists.intro; refine ⟨fun v1 hv1 => ?_, ?_⟩; (· (go_simp; rfl)); simp only [Act.put, List.setIfInBounds_toArray, List.set_cons_zero, List.set_cons_succ]
  refine anyT_val (But.pre _) 4 rfl (by kernel_rfl) (by kernel_rfl) (by kernel_rfl) (fun _ _ _ _ h => h) rfl ?_; apply Exists.intro; refine ⟨fun v1 hv1 => ?_, ?_⟩; (· (go_simp; rfl)); simp only [Act.put, List.setIfInBounds_toArray, List.set_cons_zero, List.set_cons_succ]
  have K0 := block_cell P1
  have hsW : w.heap.size + 2 ≤ W1.heap.size := by have := (Array.getElem?_eq_some_iff.1 Q1).1; omega
  refine anyT_one 5 rfl (by kernel_rfl) rfl ?_
  unfold Oper.wp
  go_simp
  refine ⟨But.refl _ _, ?_⟩
  clear K0
  refine anyT_val (But.pre _) 12 rfl (by kernel_rfl) (by kernel_rfl) (by kernel_rfl) (fun _ _ _ _ h => h) rfl ?_; apply Exists.intro; refine ⟨fun v1 hv1 => ?_, ?_⟩; (· (go_simp; rfl)); simp only [Act.put, List.setIfInBounds_toArray, List.set_cons_zero, List.set_cons_succ]
  refine anyT_one 6 rfl (by kernel_rfl) rfl ?_
  refine wp_enter 34 #[.slice ao zo.length co] (by go_simp) ?_
  refine (cloneb_any _ zo _ (by omega) ((hIo.below hbd).mono hbd.size)).mono ?_
  rintro e w1 ⟨a1, c1, rfl, hO1, hb1⟩
  refine ⟨But.of hb1, ?_⟩
  simp only [Act.put, List.setIfInBounds_toArray, List.set_cons_zero, List.set_cons_succ]
  have p1 := (hb1.block w.heap.size (by omega)).trans P1
  have q1 := (hb1.block (w.heap.size + 1) (by omega)).trans Q1
  have hw1 := hbd.trans (hb1.mono hbd.size)
  have K1 := block_cell p1
  have F1 := block_frozen p1
  clear qu
  refine anyT_one 13 rfl (by kernel_rfl) rfl ?_
  unfold Oper.wp
  go_simp
  refine ⟨(But.refl (fun b => b = w.heap.size) w1).setCell (p := ⟨w.heap.size, 4, none⟩) rfl _, ?_⟩
  have p1b := heap_set1 p1 4 (.int .u8 np)
  have K1b := block_cell p1b
  have F1b := block_frozen p1b
  clear K1 F1
  refine anyT_val (But.pre _) 14 rfl (by kernel_rfl) (by kernel_rfl) (by kernel_rfl) (fun _ _ _ _ h => h) rfl ?_; apply Exists.intro; refine ⟨fun v1 hv1 => ?_, ?_⟩; (· (go_simp; rfl)); simp only [Act.put, List.setIfInBounds_toArray, List.set_cons_zero, List.set_cons_succ]
  refine anyT_one 15 rfl (by kernel_rfl) rfl ?_
  unfold Oper.wp
  go_simp
  refine ⟨(But.refl (fun b => b = w.heap.size) _).setCell (p := ⟨w.heap.size, 7, none⟩) rfl _, ?_⟩
  have p1c := heap_set1 p1b 7 (.slice a1 zo.length c1)
  have K1c := block_cell p1c
  have F1c := block_frozen p1c
  clear K1b F1b
  refine anyT_val (But.pre _) 16 rfl (by kernel_rfl) (by kernel_rfl) (by kernel_rfl) (fun _ _ _ _ h => h) rfl ?_; apply Exists.intro; refine ⟨fun v1 hv1 => ?_, ?_⟩; (· (go_simp; rfl)); simp only [Act.put, List.setIfInBounds_toArray, List.set_cons_zero, List.set_cons_succ]
  refine anyT_one 17 rfl (by kernel_rfl) rfl ?_
  unfold Oper.wp
  go_simp
  refine ⟨(But.refl (fun b => b = w.heap.size) _).setCell (p := ⟨w.heap.size, 8, none⟩) rfl _, ?_⟩
  clear K1c F1c
  refine anyT_done (by kernel_rfl) ?_
  have K1 := block_cell p1
  have F1 := block_frozen p1
  have p2 := heap_sets _ _ _ _ _ _ _ _ _ (.int .u8 np) (.slice a1 zo.length c1) (.slice ad zd.length cd) p1
  go_wp2_with fail
  have hE : But (fun b => b = w.heap.size) w1 (((w1.setCell ⟨w.heap.size, 4, none⟩ (.int .u8 np)).setCell ⟨w.heap.size, 7, none⟩ (.slice a1 zo.length c1)).setCell ⟨w.heap.size, 8, none⟩ (.slice ad zd.length cd)) := (((But.refl (fun b => b = w.heap.size) w1).setCell (p := ⟨w.heap.size, 4, none⟩) rfl _).setCell (p := ⟨w.heap.size, 7, none⟩) rfl _).setCell (p := ⟨w.heap.size, 8, none⟩) rfl _
  have hs1 : w.heap.size + 2 ≤ w1.heap.size := by have := hb1.size; omega
  generalize ((w1.setCell ⟨w.heap.size, 4, none⟩ (.int .u8 np)).setCell ⟨w.heap.size, 7, none⟩ (.slice a1 zo.length c1)).setCell ⟨w.heap.size, 8, none⟩ (.slice ad zd.length cd) = V at *
  have hOV := hO1.but hE (fun b h e => by omega)
  have hwV : Below w.heap.size w V := hw1.trans (hE.below (by omega) (fun k h e => by omega))
  have qV := (hE.block (w.heap.size + 1) (by omega) (by omega)).trans q1
  refine (build_yes tos id ttl np src dst keep _ _ zo zd _ hBo hOV.rd ((hId.below hwV).mono hwV.size) hlo hlm hall ht hid htt hpr hsr hds).mono ?_
  rintro e w2 ⟨v2, rfl, hO2, hb2⟩
  have p3 := (hb2.block w.heap.size (by have := hE.size; omega)).trans p2
  have q3 := (hb2.block (w.heap.size + 1) (by have := hE.size; omega)).trans qV
  have K3 := block_cell p3
  have Q3 := block_cell q3
  have G3 := block_frozen q3
  clear K1 F1
  go_wp2_with fail
  generalize hV : ((((((((w2.setCell ⟨w.heap.size + 1, 0, none⟩ _).setCell ⟨w.heap.size + 1, 1, none⟩ _).setCell ⟨w.heap.size + 1, 2, none⟩ _).setCell ⟨w.heap.size + 1, 3, none⟩ _).setCell ⟨w.heap.size + 1, 4, none⟩ _).setCell ⟨w.heap.size + 1, 5, none⟩ _).setCell ⟨w.heap.size + 1, 6, none⟩ _).setCell ⟨w.heap.size + 1, 7, none⟩ _).setCell ⟨w.heap.size + 1, 8, none⟩ _ = V8
  have hV9 : V8 = putRow w2 (w.heap.size + 1) 0 [.int .u8 tos, .int .u16 id, .bool keep, .int .u8 ttl, .int .u8 np, .int .u32 src, .int .u32 dst, .slice a1 zo.length c1, .slice ad zd.length cd] := hV.symm
  have hb8 : But (fun b => b = w.heap.size + 1) w2 V8 := by rw [hV9]; exact putRow_but (E := fun b => b = w.heap.size + 1) (n := w.heap.size + 1) rfl _ _ _ _ (But.refl _ _)
  have p8 := putRow_all [.int .u8 tos, .int .u16 id, .bool keep, .int .u8 ttl, .int .u8 np, .int .u32 src, .int .u32 dst, .slice a1 zo.length c1, .slice ad zd.length cd] q3 rfl
  rw [← hV9] at p8
  clear hV hV9 Q3 G3 K3
  have P8 := block_cell p8
  have hw2 := hwV.trans (hb2.mono hwV.size)
  have hw8 : Below w.heap.size w V8 := hw2.trans (hb8.below hw2.size (fun k h e => by omega))
  refine bodyPost_ret (v := .tuple #[.agg #[.int .u8 tos, .int .u16 id, .bool keep, .int .u8 ttl, .int .u8 np, .int .u32 src, .int .u32 dst, .slice a1 zo.length c1, .slice ad zd.length cd], .int .i64 0]) (by simp [results, Tryd.results28, go_sem, P8]) rfl ⟨a1, c1, rfl, ?_, hw8⟩
  exact ((hOV.below hb2 (Nat.le_refl _)).but hb8 (fun b h e => by omega)).mono (by omega)

set_option maxHeartbeats 2000000 in
theorem upacked_no (tos id ttl proto src dst np : Int) (keep : Bool) (so sd : Value) (zo : List Int) (ad : Option Addr) (ld cd : Nat) (w : World) (ub : Nat) (tu : TypeId) (hu : w.heap[ub]? = some (.cells #[.slice ad ld cd, .int .u8 np] tu (0, 0))) (hIo : Rd w.heap.size w so zo) (h1 : zo.length ≤ 140737488355328) (h2 : ld ≤ 140737488355328) (hf : flt zo.length ld ≠ 0) :
    Calls Tryd.prog 28 #[.pointer (some ⟨ub, 0, none⟩), .agg #[.int .u8 tos, .int .u16 id, .bool keep, .int .u8 ttl, .int .u8 proto, .int .u32 src, .int .u32 dst, so, sd]] w fun e w' => e = .returned (.tuple #[.agg zcc.toArray, .int .i64 (flt zo.length ld)]) ∧ Below w.heap.size w w' := by
  obtain ⟨ao, co, rfl, hl1, hm1⟩ := hIo.slice
  have hb0 : Below w.heap.size w ((w.alloc (.cells #[.int .u8 tos, .int .u16 id, .bool keep, .int .u8 ttl, .int .u8 proto, .int .u32 src, .int .u32 dst, .slice ao zo.length co, sd] 40)).alloc (.cells zcc.toArray 40)) := ((Below.refl _ _).alloc (Nat.le_refl _) _).alloc (by simp) _
  have p0 : ((w.alloc (.cells #[.int .u8 tos, .int .u16 id, .bool keep, .int .u8 ttl, .int .u8 proto, .int .u32 src, .int .u32 dst, .slice ao zo.length co, sd] 40)).alloc (.cells zcc.toArray 40)).heap[w.heap.size]? = some (.cells #[.int .u8 tos, .int .u16 id, .bool keep, .int .u8 ttl, .int .u8 proto, .int .u32 src, .int .u32 dst, .slice ao zo.length co, sd] 40) := (Below.heap_alloc _ _ _ (by simp)).trans (heap_alloc_new w _)
  have q0 : ((w.alloc (.cells #[.int .u8 tos, .int .u16 id, .bool keep, .int .u8 ttl, .int .u8 proto, .int .u32 src, .int .u32 dst, .slice ao zo.length co, sd] 40)).alloc (.cells zcc.toArray 40)).heap[w.heap.size + 1]? = some (.cells zcc.toArray 40 (0, 0)) := by have := heap_alloc_new (w.alloc (.cells #[.int .u8 tos, .int .u16 id, .bool keep, .int .u8 ttl, .int .u8 proto, .int .u32 src, .int .u32 dst, .slice ao zo.length co, sd] 40)) (.cells zcc.toArray 40); simpa using this
  have P0 := hide p0
  have Q0 := hide q0
  clear p0 q0
  have hf' : (flt zo.length ld != 0) = true := by simp [hf]
  have HF := hide hf
  clear hf
  have hub : ub < w.heap.size := (Array.getElem?_eq_some_iff.1 hu).1
  have hu0 := (hb0.block ub hub).trans hu
  go_enter Tryd.func28, Tryd.ntmps28
  go_upto_region 1 with fail
  generalize (w.alloc (.cells #[.int .u8 tos, .int .u16 id, .bool keep, .int .u8 ttl, .int .u8 proto, .int .u32 src, .int .u32 dst, .slice ao zo.length co, sd] 40)).alloc (.cells zcc.toArray 40) = W0 at *
  refine anyT_begin (R := But (fun b => b = w.heap.size)) 18 rfl (by kernel_rfl) ?_
  have hd : Later W0 W0.drew := Later.drew W0
  have qu : ∀ v1, But (fun b => b = w.heap.size) W0.drew v1 → ∀ i, v1.cell? ⟨ub, i, none⟩ = #[Value.slice ad ld cd, .int .u8 np][i]? := fun v1 h => block_cell ((((But.of hd).trans h).block ub (Array.getElem?_eq_some_iff.1 hu0).1 (by omega)).trans hu0)
  have P1 := (hd.block w.heap.size (Array.getElem?_eq_some_iff.1 P0.out).1).trans P0.out
  have Q1 := (hd.block (w.heap.size + 1) (Array.getElem?_eq_some_iff.1 Q0.out).1).trans Q0.out
  have hbd := hb0.trans (hd.mono hb0.size)
  clear P0 Q0 hu0
  generalize W0.drew = W1 at *
  refine anyT_val (But.pre _) 0 rfl (by kernel_rfl) (by kernel_rfl) (by kernel_rfl) (fun _ _ _ _ h => h) rfl ?_; apply Exists.intro; refine ⟨fun v1 hv1 => ?_, ?_⟩; (· (go_simp; rfl)); simp only [Act.put, List.setIfInBounds_toArray, List.set_cons_zero, List.set_cons_succ]
  refine anyT_val (But.pre _) 1 rfl (by kernel_rfl) (by kernel_rfl) (by kernel_rfl) (fun _ _ _ _ h => h) rfl ?_; apply Exists.intro; refine ⟨fun v1 hv1 => ?_, ?_⟩; (· (go_simp; rfl)); simp only [Act.put, List.setIfInBounds_toArray, List.set_cons_zero, List.set_cons_succ]
  refine anyT_val (But.pre _) 2 rfl (by kernel_rfl) (by kernel_rfl) (by kernel_rfl) (fun _ _ _ _ h => h) rfl ?_; apply Exists.intro; refine ⟨fun v1 hv1 => ?_, ?_⟩; (· (go_simp; rfl)); simp only [Act.put, List.setIfInBounds_toArray, List.set_cons_zero, List.set_cons_succ]
  refine anyT_val (But.pre _) 3 rfl (by kernel_rfl) (by kernel_rfl) (by kernel_rfl) (fun _ _ _ _ h => h) rfl ?_; apply Exists.intro; refine ⟨fun v1 hv1 => ?_, ?_⟩; (· (go_simp; rfl)); simp only [Act.put, List.setIfInBounds_toArray, List.set_cons_zero, List.set_cons_succ]
  refine anyT_val (But.pre _) 7 rfl (by kernel_rfl) (by kernel_rfl) (by kernel_rfl) (fun _ _ _ _ h => h) rfl ?_; apply Exists.intro; refine ⟨fun v1 hv1 => ?_, ?_⟩; (· (go_simp; rfl)); simp only [Act.put, List.setIfInBounds_toArray, List.set_cons_zero, List.set_cons_succ]
  refine anyT_val (But.pre _) 8 rfl (by kernel_rfl) (by kernel_rfl) (by kernel_rfl) (fun _ _ _ _ h => h) rfl ?_; apply Exists.intro; refine ⟨fun v1 hv1 => ?_, ?_⟩; (· (go_simp; rfl)); simp only [Act.put, List.setIfInBounds_toArray, List.set_cons_zero, List.set_cons_succ]
  refine anyT_val (But.pre _) 9 rfl (by kernel_rfl) (by kernel_rfl) (by kernel_rfl) (fun _ _ _ _ h => h) rfl ?_; apply Exists.intro; refine ⟨fun v1 hv1 => ?_, ?_⟩; (· (go_simp; rfl)); simp only [Act.put, List.setIfInBounds_toArray, List.set_cons_zero, List.set_cons_succ]
  refine anyT_val (But.pre _) 10 rfl (by kernel_rfl) (by kernel_rfl) (by kernel_rfl) (fun _ _ _ _ h => h) rfl ?_; apply Exists.intro; refine ⟨fun v1 hv1 => ?_, ?_⟩; (· (go_simp; rfl)); simp only [Act.put, List.setIfInBounds_toArray, List.set_cons_zero, List.set_cons_succ]
  refine anyT_val (But.pre _) 11 rfl (by kernel_rfl) (by kernel_rfl) (by kernel_rfl) (fun _ _ _ _ h => h) rfl ?_; apply Exists.intro; refine ⟨fun v1 hv1 => ?_, ?_⟩; (· (go_simp; rfl)); simp only [Act.put, List.setIfInBounds_toArray, List.set_cons_zero, List.set_cons_succ]
  refine anyT_val (But.pre _) 4 rfl (by kernel_rfl) (by kernel_rfl) (by kernel_rfl) (fun _ _ _ _ h => h) rfl ?_; apply Exists.intro; refine ⟨fun v1 hv1 => ?_, ?_⟩; (· (go_simp; rfl)); simp only [Act.put, List.setIfInBounds_toArray, List.set_cons_zero, List.set_cons_succ]
  have K0 := block_cell P1
  have hsW : w.heap.size + 2 ≤ W1.heap.size := by have := (Array.getElem?_eq_some_iff.1 Q1).1; omega
  refine anyT_one 5 rfl (by kernel_rfl) rfl ?_
  unfold Oper.wp
  go_simp
  refine ⟨But.refl _ _, ?_⟩
  clear K0
  refine anyT_val (But.pre _) 12 rfl (by kernel_rfl) (by kernel_rfl) (by kernel_rfl) (fun _ _ _ _ h => h) rfl ?_; apply Exists.intro; refine ⟨fun v1 hv1 => ?_, ?_⟩; (· (go_simp; rfl)); simp only [Act.put, List.setIfInBounds_toArray, List.set_cons_zero, List.set_cons_succ]
  refine anyT_one 6 rfl (by kernel_rfl) rfl ?_
  refine wp_enter 34 #[.slice ao zo.length co] (by go_simp) ?_
  refine (cloneb_any _ zo _ (by omega) ((hIo.below hbd).mono hbd.size)).mono ?_
  rintro e w1 ⟨a1, c1, rfl, hO1, hb1⟩
  refine ⟨But.of hb1, ?_⟩
  simp only [Act.put, List.setIfInBounds_toArray, List.set_cons_zero, List.set_cons_succ]
  have p1 := (hb1.block w.heap.size (by omega)).trans P1
  have q1 := (hb1.block (w.heap.size + 1) (by omega)).trans Q1
  have hw1 := hbd.trans (hb1.mono hbd.size)
  have K1 := block_cell p1
  have F1 := block_frozen p1
  clear qu
  refine anyT_one 13 rfl (by kernel_rfl) rfl ?_
  unfold Oper.wp
  go_simp
  refine ⟨(But.refl (fun b => b = w.heap.size) w1).setCell (p := ⟨w.heap.size, 4, none⟩) rfl _, ?_⟩
  have p1b := heap_set1 p1 4 (.int .u8 np)
  have K1b := block_cell p1b
  have F1b := block_frozen p1b
  clear K1 F1
  refine anyT_val (But.pre _) 14 rfl (by kernel_rfl) (by kernel_rfl) (by kernel_rfl) (fun _ _ _ _ h => h) rfl ?_; apply Exists.intro; refine ⟨fun v1 hv1 => ?_, ?_⟩; (· (go_simp; rfl)); simp only [Act.put, List.setIfInBounds_toArray, List.set_cons_zero, List.set_cons_succ]
  refine anyT_one 15 rfl (by kernel_rfl) rfl ?_
  unfold Oper.wp
  go_simp
  refine ⟨(But.refl (fun b => b = w.heap.size) _).setCell (p := ⟨w.heap.size, 7, none⟩) rfl _, ?_⟩
  have p1c := heap_set1 p1b 7 (.slice a1 zo.length c1)
  have K1c := block_cell p1c
  have F1c := block_frozen p1c
  clear K1b F1b
  refine anyT_val (But.pre _) 16 rfl (by kernel_rfl) (by kernel_rfl) (by kernel_rfl) (fun _ _ _ _ h => h) rfl ?_; apply Exists.intro; refine ⟨fun v1 hv1 => ?_, ?_⟩; (· (go_simp; rfl)); simp only [Act.put, List.setIfInBounds_toArray, List.set_cons_zero, List.set_cons_succ]
  refine anyT_one 17 rfl (by kernel_rfl) rfl ?_
  unfold Oper.wp
  go_simp
  refine ⟨(But.refl (fun b => b = w.heap.size) _).setCell (p := ⟨w.heap.size, 8, none⟩) rfl _, ?_⟩
  clear K1c F1c
  refine anyT_done (by kernel_rfl) ?_
  have K1 := block_cell p1
  have F1 := block_frozen p1
  have p2 := heap_sets _ _ _ _ _ _ _ _ _ (.int .u8 np) (.slice a1 zo.length c1) (.slice ad ld cd) p1
  go_wp2_with fail
  have hE : But (fun b => b = w.heap.size) w1 (((w1.setCell ⟨w.heap.size, 4, none⟩ (.int .u8 np)).setCell ⟨w.heap.size, 7, none⟩ (.slice a1 zo.length c1)).setCell ⟨w.heap.size, 8, none⟩ (.slice ad ld cd)) := (((But.refl (fun b => b = w.heap.size) w1).setCell (p := ⟨w.heap.size, 4, none⟩) rfl _).setCell (p := ⟨w.heap.size, 7, none⟩) rfl _).setCell (p := ⟨w.heap.size, 8, none⟩) rfl _
  have hs1 : w.heap.size + 2 ≤ w1.heap.size := by have := hb1.size; omega
  generalize ((w1.setCell ⟨w.heap.size, 4, none⟩ (.int .u8 np)).setCell ⟨w.heap.size, 7, none⟩ (.slice a1 zo.length c1)).setCell ⟨w.heap.size, 8, none⟩ (.slice ad ld cd) = V at *
  have hwV : Below w.heap.size w V := hw1.trans (hE.below (by omega) (fun k h e => by omega))
  have qV := (hE.block (w.heap.size + 1) (by omega) (by omega)).trans q1
  refine (build_no tos id ttl np src dst keep a1 ad zo.length c1 ld cd _ h1 h2 HF.out).mono ?_
  rintro e w2 ⟨rfl, hb2⟩
  have q3 := (hb2.block (w.heap.size + 1) (by have := hE.size; omega)).trans qV
  have Q3 := block_cell q3
  have G3 := block_frozen q3
  clear K1 F1
  go_wp2_with fail
  generalize hV : ((((((((w2.setCell ⟨w.heap.size + 1, 0, none⟩ _).setCell ⟨w.heap.size + 1, 1, none⟩ _).setCell ⟨w.heap.size + 1, 2, none⟩ _).setCell ⟨w.heap.size + 1, 3, none⟩ _).setCell ⟨w.heap.size + 1, 4, none⟩ _).setCell ⟨w.heap.size + 1, 5, none⟩ _).setCell ⟨w.heap.size + 1, 6, none⟩ _).setCell ⟨w.heap.size + 1, 7, none⟩ _).setCell ⟨w.heap.size + 1, 8, none⟩ _ = V8
  have hV9 : V8 = putRow w2 (w.heap.size + 1) 0 zcc := hV.symm
  have hb8 : But (fun b => b = w.heap.size + 1) w2 V8 := by rw [hV9]; exact putRow_but (E := fun b => b = w.heap.size + 1) (n := w.heap.size + 1) rfl _ _ _ _ (But.refl _ _)
  have p8 := putRow_all zcc q3 rfl
  rw [← hV9] at p8
  clear hV hV9 Q3 G3
  have P8 := block_cell p8
  have hw2 := hwV.trans (hb2.mono hwV.size)
  have hw8 : Below w.heap.size w V8 := hw2.trans (hb8.below hw2.size (fun k h e => by omega))
  exact bodyPost_ret (v := .tuple #[.agg zcc.toArray, .int .i64 (flt zo.length ld)]) (by simp [results, Tryd.results28, go_sem, P8]) rfl ⟨rfl, hw8⟩

/-- The packet with bytes in it, or the error. -/
theorem upacked_any (tos id ttl proto src dst np : Int) (keep : Bool) (so sd sd' : Value) (zo zd : List Int) (w : World) (ub : Nat) (tu : TypeId) (hu : w.heap[ub]? = some (.cells #[sd', .int .u8 np] tu (0, 0))) (hBo : Mt.By zo) (hIo : Rd w.heap.size w so zo) (hId : Rd w.heap.size w sd' zd)
    (h1 : zo.length ≤ 140737488355328) (h2 : zd.length ≤ 140737488355328) (ht : 0 ≤ tos ∧ tos ≤ 255) (hid : 0 ≤ id ∧ id ≤ 65535) (htt : 0 ≤ ttl ∧ ttl ≤ 255) (hpr : 0 ≤ np ∧ np ≤ 255) (hsr : 0 ≤ src ∧ src ≤ 4294967295) (hds : 0 ≤ dst ∧ dst ≤ 4294967295) :
    Calls Tryd.prog 28 #[.pointer (some ⟨ub, 0, none⟩), .agg #[.int .u8 tos, .int .u16 id, .bool keep, .int .u8 ttl, .int .u8 proto, .int .u32 src, .int .u32 dst, so, sd]] w fun e w' => Below w.heap.size w w' ∧ ((flt zo.length zd.length ≠ 0 ∧ e = .returned (.tuple #[.agg zcc.toArray, .int .i64 (flt zo.length zd.length)])) ∨
      (flt zo.length zd.length = 0 ∧ ∃ ao co, e = .returned (.tuple #[.agg #[.int .u8 tos, .int .u16 id, .bool keep, .int .u8 ttl, .int .u8 np, .int .u32 src, .int .u32 dst, .slice ao zo.length co, sd'], .int .i64 0]) ∧ Ow w.heap.size w' (.slice ao zo.length co) zo)) := by
  by_cases hf : flt zo.length zd.length = 0
  · have hv : zo.length ≤ 40 ∧ zo.length % 4 = 0 ∧ 20 + zo.length + zd.length ≤ 65535 := by
      unfold flt at hf
      split at hf <;> first | omega | (split at hf <;> omega)
    exact (upacked_yes tos id ttl proto src dst np keep so sd sd' zo zd w ub tu hu hBo hIo hId hv.1 hv.2.1 hv.2.2 ht hid htt hpr hsr hds).mono fun e w' ⟨ao, co, he, hO, hb⟩ => ⟨hb, .inr ⟨hf, ao, co, he, hO⟩⟩
  · obtain ⟨ad, cd, rfl, _, _⟩ := hId.slice
    exact (upacked_no tos id ttl proto src dst np keep so sd zo ad zd.length cd w ub tu hu hIo h1 h2 hf).mono fun e w' ⟨he, hb⟩ => ⟨hb, .inl ⟨hf, he⟩⟩
end Go.Proofs.YtomdccljoaieeaaDoor
