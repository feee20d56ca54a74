import Derived.Test.YtofknbfbmaefoaaGreatDoorX19
import Derived.Deep.DeepCutAuto
import Derived.Deep.CutBlock
import Derived.Test.YtofknbfbmaefoaaGreatDoorX16
import Derived.MapKept
import Derived.Test.YtofknbfbmaefoaaGreatDoorX17
namespace Go.Proofs.YtofknbfbmaefoaaGreatDoor
set_option maxHeartbeats 4000000
open Go.RowKit Go.Shelf
set_option maxRecDepth 100000
set_option linter.unusedVariables false
set_option linter.unusedSimpArgs false
theorem eql_nil (w : World) : (binOp .eql 31 (.slice none 0 0) (.slice none 0 0)).run Tryz.prog w = .ok (.bool true) w := by kernel_rfl
theorem eql_some (w : World) (ad : Addr) (n c : Nat) : (binOp .eql 31 (.slice (some ad) n c) (.slice none 0 0)).run Tryz.prog w = .ok (.bool false) w := by kernel_rfl
theorem cloneb_any (sv : Value) (zs : List Int) (w : World) (hl : zs.length ≤ 140737488355328) (hI : Rd w.heap.size w sv zs) :
  Calls Tryz.prog 84 #[sv] w fun e w' => ∃ a cap, e = .returned (.slice a zs.length cap) ∧ Ow w.heap.size w' (.slice a zs.length cap) zs ∧ Below w.heap.size w w' := by
 obtain ⟨i0, hi, hz0, hz1, hz2⟩ := info_parts info_u8
 have hb0 : Below w.heap.size w (w.alloc (.cells #[] 5)) := (Below.refl _ w).alloc (Nat.le_refl _) _
 have hR1 := hI.below hb0
 obtain ⟨a, cap, rfl, hl1, hm1⟩ := hI.slice
 cases a with
 | none =>
  obtain ⟨rfl, rfl⟩ : zs = [] ∧ cap = 0 := by
   rcases hI with ⟨a, cap', e, hz, _, hn⟩ | ⟨_, _, _, e, _⟩
   ·have e1 := e
    simp at e1
    obtain ⟨rfl, _, rfl⟩ := e1
    exact ⟨hz, hn rfl⟩
   ·simp at e
  have hq := eql_nil w
  go_enter Tryz.func84, Tryz.ntmps84
  go_wp2
  go_ret
  exact ⟨none, 0, rfl, .inl ⟨rfl, rfl⟩, Below.refl _ _⟩
 | some ad =>
  have hq := eql_some w ad zs.length cap
  go_enter Tryz.func84, Tryz.ntmps84
  go_wp2_with (at_builtin; refine wpList_app _ rfl (.tmp 5) (.tmp 6) 31 rfl w.heap.size 5 i0 Tryz.underlying31 hi hz0 hz1 hz2 _ [] rfl (own_empty w _) w.heap.size _ zs rfl hR1 (by simp; omega) (by simp) ?_; intro v0 w0 hown0 hg0; have hbw0 := below_app hb0 (own_empty w _) hg0 (Nat.le_refl _) hb0.size; clear hg0; have hO0 := Ow.of_row hown0; clear hown0; simp only [List.nil_append] at hO0; obtain ⟨a0, cap0, rfl, hp0, hm0⟩ := hO0.slice)
  go_ret
  exact ⟨a0, cap0, rfl, hO0, hbw0⟩
def Rds (n₀ : Nat) (W : World) : List Value → List (List Int) → Prop
 | [], [] => True
 | v :: vs, z :: zs => Rd n₀ W v z ∧ Rds n₀ W vs zs
 | _, _ => False
theorem Rds.length {n₀ : Nat} {W : World} : ∀ {vs : List Value} {zs : List (List Int)}, Rds n₀ W vs zs → vs.length = zs.length
 | [], [], _ => rfl
 | _ :: _, _ :: _, h => by simp [h.2.length]
 | [], _ :: _, h => h.elim
 | _ :: _, [], h => h.elim
theorem Rds.at {n₀ : Nat} {W : World} : ∀ {vs : List Value} {zs : List (List Int)}, Rds n₀ W vs zs → ∀ j, j < vs.length → Rd n₀ W (vs[j]?.getD undef) (zs[j]?.getD [])
 | _ :: _, _ :: _, h, 0, _ => h.1
 | _ :: _, _ :: _, h, j + 1, hj => by simpa using h.2.at j (by simpa using hj)
 | [], _, _, _, hj => by simp at hj
 | _ :: _, [], h, _, _ => h.elim
theorem heap_sets {W : World} {n : Nat} {t : TypeId} (v0 v1 v2 v3 v4 v5 v6 v7 v8 x4 x7 x8 : Value) (h : W.heap[n]? = some (.cells #[v0, v1, v2, v3, v4, v5, v6, v7, v8] t (0, 0))) :
  (((W.setCell ⟨n, 4, none⟩ x4).setCell ⟨n, 7, none⟩ x7).setCell ⟨n, 8, none⟩ x8).heap[n]? = some (.cells #[v0, v1, v2, v3, x4, v5, v6, x7, x8] t (0, 0)) := heap_set1 (heap_set1 (heap_set1 h 4 x4) 7 x7) 8 x8
abbrev zcc : List Value := [.int .u8 0, .int .u16 0, .bool false, .int .u8 0, .int .u8 0, .int .u32 0, .int .u32 0, .slice none 0 0, .slice none 0 0]
theorem upacked_yes (tos id ttl proto src dst np : Int) (keep : Bool) (so sd sd' : Value) (zo zd : List Int) (w : World) (ub : Nat) (tu : TypeId) (hu : w.heap[ub]? = some (.cells #[sd', .int .u8 np] tu (0, 0))) (hBo : Mt.By zo) (hIo : Rd w.heap.size w so zo) (hId : Rd w.heap.size w sd' zd)
  (hlo : zo.length ≤ 40) (hlm : zo.length % 4 = 0) (hall : 20 + zo.length + zd.length ≤ 65535) (ht : 0 ≤ tos ∧ tos ≤ 255) (hid : 0 ≤ id ∧ id ≤ 65535) (htt : 0 ≤ ttl ∧ ttl ≤ 255) (hpr : 0 ≤ np ∧ np ≤ 255) (hsr : 0 ≤ src ∧ src ≤ 4294967295) (hds : 0 ≤ dst ∧ dst ≤ 4294967295) :
  Calls Tryz.prog 39 #[.pointer (some ⟨ub, 0, none⟩), .agg #[.int .u8 tos, .int .u16 id, .bool keep, .int .u8 ttl, .int .u8 proto, .int .u32 src, .int .u32 dst, so, sd]] w fun e w' => ∃ ao co, e = .returned (.tuple #[.agg #[.int .u8 tos, .int .u16 id, .bool keep, .int .u8 ttl, .int .u8 np, .int .u32 src, .int .u32 dst, .slice ao zo.length co, sd'], .int .i64 0]) ∧ Ow w.heap.size w' (.slice ao zo.length co) zo ∧ Below w.heap.size w w' := by
 obtain ⟨ao, co, rfl, hl1, hm1⟩ := hIo.slice
 obtain ⟨ad, cd, rfl, hl2, hm2⟩ := hId.slice
 have hb0 : Below w.heap.size w ((w.alloc (.cells #[.int .u8 tos, .int .u16 id, .bool keep, .int .u8 ttl, .int .u8 proto, .int .u32 src, .int .u32 dst, .slice ao zo.length co, sd] 56)).alloc (.cells zcc.toArray 56)) := ((Below.refl _ _).alloc (Nat.le_refl _) _).alloc (by simp) _
 have p0 : ((w.alloc (.cells #[.int .u8 tos, .int .u16 id, .bool keep, .int .u8 ttl, .int .u8 proto, .int .u32 src, .int .u32 dst, .slice ao zo.length co, sd] 56)).alloc (.cells zcc.toArray 56)).heap[w.heap.size]? = some (.cells #[.int .u8 tos, .int .u16 id, .bool keep, .int .u8 ttl, .int .u8 proto, .int .u32 src, .int .u32 dst, .slice ao zo.length co, sd] 56) := (Below.heap_alloc _ _ _ (by simp)).trans (heap_alloc_new w _)
 have q0 : ((w.alloc (.cells #[.int .u8 tos, .int .u16 id, .bool keep, .int .u8 ttl, .int .u8 proto, .int .u32 src, .int .u32 dst, .slice ao zo.length co, sd] 56)).alloc (.cells zcc.toArray 56)).heap[w.heap.size + 1]? = some (.cells zcc.toArray 56 (0, 0)) := by have := heap_alloc_new (w.alloc (.cells #[.int .u8 tos, .int .u16 id, .bool keep, .int .u8 ttl, .int .u8 proto, .int .u32 src, .int .u32 dst, .slice ao zo.length co, sd] 56)) (.cells zcc.toArray 56); simpa using this
 have P0 := hide p0
 have Q0 := hide q0
 clear p0 q0
 have hub : ub < w.heap.size := (bl9 hu)
 have hu0 := (hb0.block ub hub).trans hu
 go_enter Tryz.func39, Tryz.ntmps39
 go_upto_region 1 with fail
 generalize (w.alloc (.cells #[.int .u8 tos, .int .u16 id, .bool keep, .int .u8 ttl, .int .u8 proto, .int .u32 src, .int .u32 dst, .slice ao zo.length co, sd] 56)).alloc (.cells zcc.toArray 56) = W0 at *
 refine anyT_begin (R := But (fun b => b = w.heap.size)) 18 rfl (by kernel_rfl) ?_
 have hd : Later W0 W0.drew := Later.drew W0
 have qu : ∀ v1, But (fun b => b = w.heap.size) W0.drew v1 → ∀ i, v1.cell? ⟨ub, i, none⟩ = #[Value.slice ad zd.length cd, .int .u8 np][i]? := fun v1 h => block_cell ((((But.of hd).trans h).block ub (bl9 hu0) (by omega)).trans hu0)
 have P1 := (hd.block w.heap.size (bl9 P0.out)).trans P0.out
 have Q1 := (hd.block (w.heap.size + 1) (bl9 Q0.out)).trans Q0.out
 have hbd := hb0.trans (hd.mono hb0.size)
 clear P0 Q0 hu0
 generalize W0.drew = W1 at *
 refine tV (But.pre _) 0 rfl rfl ⟨_, fun v h => by (go_simp; rfl), ?_⟩; simp only [Act.put, sA, sB, sC]
 refine tV (But.pre _) 1 rfl rfl ⟨_, fun v h => by (go_simp; rfl), ?_⟩; simp only [Act.put, sA, sB, sC]
 refine tV (But.pre _) 2 rfl rfl ⟨_, fun v h => by (go_simp; rfl), ?_⟩; simp only [Act.put, sA, sB, sC]
 refine tV (But.pre _) 3 rfl rfl ⟨_, fun v h => by (go_simp; rfl), ?_⟩; simp only [Act.put, sA, sB, sC]
 refine tV (But.pre _) 7 rfl rfl ⟨_, fun v h => by (go_simp; rfl), ?_⟩; simp only [Act.put, sA, sB, sC]
 refine tV (But.pre _) 8 rfl rfl ⟨_, fun v h => by (go_simp; rfl), ?_⟩; simp only [Act.put, sA, sB, sC]
 refine tV (But.pre _) 9 rfl rfl ⟨_, fun v h => by (go_simp; rfl), ?_⟩; simp only [Act.put, sA, sB, sC]
 refine tV (But.pre _) 10 rfl rfl ⟨_, fun v h => by (go_simp; rfl), ?_⟩; simp only [Act.put, sA, sB, sC]
 refine tV (But.pre _) 11 rfl rfl ⟨_, fun v h => by (go_simp; rfl), ?_⟩; simp only [Act.put, sA, sB, sC]
 refine tV (But.pre _) 4 rfl rfl ⟨_, fun v h => by (go_simp; rfl), ?_⟩; simp only [Act.put, sA, sB, sC]
 have K0 := block_cell P1
 have hsW : w.heap.size + 2 ≤ W1.heap.size := by have := (bl9 Q1); omega
 refine anyT_one 5 rfl (by kernel_rfl) rfl ?_
 unfold Oper.wp
 go_simp
 refine ⟨But.refl _ _, ?_⟩
 clear K0
 refine tV (But.pre _) 12 rfl rfl ⟨_, fun v h => by (go_simp; rfl), ?_⟩; simp only [Act.put, sA, sB, sC]
 refine anyT_one 6 rfl (by kernel_rfl) rfl ?_
 refine wp_enter 84 #[.slice ao zo.length co] (by go_simp) ?_
 refine (cloneb_any _ zo _ (by omega) ((hIo.below hbd).mono hbd.size)).mono ?_
 rintro e w1 ⟨a1, c1, rfl, hO1, hb1⟩
 refine ⟨But.of hb1, ?_⟩
 simp only [Act.put, sA, sB, sC]
 have p1 := (hb1.block w.heap.size (by omega)).trans P1
 have q1 := (hb1.block (w.heap.size + 1) (by omega)).trans Q1
 have hw1 := hbd.trans (hb1.mono hbd.size)
 have K1 := block_cell p1
 have F1 := block_frozen p1
 clear qu
 refine anyT_one 13 rfl (by kernel_rfl) rfl ?_
 unfold Oper.wp
 go_simp
 refine ⟨(But.refl (fun b => b = w.heap.size) w1).setCell (p := ⟨w.heap.size, 4, none⟩) rfl _, ?_⟩
 have p1b := heap_set1 p1 4 (.int .u8 np)
 have K1b := block_cell p1b
 have F1b := block_frozen p1b
 clear K1 F1
 refine tV (But.pre _) 14 rfl rfl ⟨_, fun v h => by (go_simp; rfl), ?_⟩; simp only [Act.put, sA, sB, sC]
 refine anyT_one 15 rfl (by kernel_rfl) rfl ?_
 unfold Oper.wp
 go_simp
 refine ⟨(But.refl (fun b => b = w.heap.size) _).setCell (p := ⟨w.heap.size, 7, none⟩) rfl _, ?_⟩
 have p1c := heap_set1 p1b 7 (.slice a1 zo.length c1)
 have K1c := block_cell p1c
 have F1c := block_frozen p1c
 clear K1b F1b
 refine tV (But.pre _) 16 rfl rfl ⟨_, fun v h => by (go_simp; rfl), ?_⟩; simp only [Act.put, sA, sB, sC]
 refine anyT_one 17 rfl (by kernel_rfl) rfl ?_
 unfold Oper.wp
 go_simp
 refine ⟨(But.refl (fun b => b = w.heap.size) _).setCell (p := ⟨w.heap.size, 8, none⟩) rfl _, ?_⟩
 clear K1c F1c
 refine anyT_done (by kernel_rfl) ?_
 have K1 := block_cell p1
 have F1 := block_frozen p1
 have p2 := heap_sets _ _ _ _ _ _ _ _ _ (.int .u8 np) (.slice a1 zo.length c1) (.slice ad zd.length cd) p1
 go_wp2_with fail
 have hE : But (fun b => b = w.heap.size) w1 (((w1.setCell ⟨w.heap.size, 4, none⟩ (.int .u8 np)).setCell ⟨w.heap.size, 7, none⟩ (.slice a1 zo.length c1)).setCell ⟨w.heap.size, 8, none⟩ (.slice ad zd.length cd)) := (((But.refl (fun b => b = w.heap.size) w1).setCell (p := ⟨w.heap.size, 4, none⟩) rfl _).setCell (p := ⟨w.heap.size, 7, none⟩) rfl _).setCell (p := ⟨w.heap.size, 8, none⟩) rfl _
 have hs1 : w.heap.size + 2 ≤ w1.heap.size := by have := hb1.size; omega
 generalize ((w1.setCell ⟨w.heap.size, 4, none⟩ (.int .u8 np)).setCell ⟨w.heap.size, 7, none⟩ (.slice a1 zo.length c1)).setCell ⟨w.heap.size, 8, none⟩ (.slice ad zd.length cd) = V at *
 have hOV := hO1.but hE (fun b h e => by omega)
 have hwV : Below w.heap.size w V := hw1.trans (hE.below (by omega) (fun k h e => by omega))
 have qV := (hE.block (w.heap.size + 1) (by omega) (by omega)).trans q1
 refine (build_yes tos id ttl np src dst keep _ _ zo zd _ hBo hOV.rd ((hId.below hwV).mono hwV.size) hlo hlm hall ht hid htt hpr hsr hds).mono ?_
 rintro e w2 ⟨v2, rfl, hO2, hb2⟩
 have p3 := (hb2.block w.heap.size (by have := hE.size; omega)).trans p2
 have q3 := (hb2.block (w.heap.size + 1) (by have := hE.size; omega)).trans qV
 have K3 := block_cell p3
 have Q3 := block_cell q3
 have G3 := block_frozen q3
 clear K1 F1
 go_wp2_with fail
 generalize hV : World.setCell _ ⟨w.heap.size + 1, 8, none⟩ _ = V8
 have hV9 : V8 = putRow w2 (w.heap.size + 1) 0 [.int .u8 tos, .int .u16 id, .bool keep, .int .u8 ttl, .int .u8 np, .int .u32 src, .int .u32 dst, .slice a1 zo.length c1, .slice ad zd.length cd] := hV.symm
 have hb8 : But (fun b => b = w.heap.size + 1) w2 V8 := by rw [hV9]; exact putRow_but (E := fun b => b = w.heap.size + 1) (n := w.heap.size + 1) rfl _ _ _ _ (But.refl _ _)
 have p8 := putRow_all [.int .u8 tos, .int .u16 id, .bool keep, .int .u8 ttl, .int .u8 np, .int .u32 src, .int .u32 dst, .slice a1 zo.length c1, .slice ad zd.length cd] q3 rfl
 rw [← hV9] at p8
 clear hV hV9 Q3 G3 K3
 have P8 := block_cell p8
 have hw2 := hwV.trans (hb2.mono hwV.size)
 have hw8 : Below w.heap.size w V8 := hw2.trans (hb8.below hw2.size (fun k h e => by omega))
 refine bodyPost_ret (v := .tuple #[.agg #[.int .u8 tos, .int .u16 id, .bool keep, .int .u8 ttl, .int .u8 np, .int .u32 src, .int .u32 dst, .slice a1 zo.length c1, .slice ad zd.length cd], .int .i64 0]) (by simp [results, Tryz.results39, go_sem, P8]) rfl ⟨a1, c1, rfl, ?_, hw8⟩
 exact ((hOV.below hb2 (Nat.le_refl _)).but hb8 (fun b h e => by omega)).mono (by omega)
theorem upacked_no (tos id ttl proto src dst np : Int) (keep : Bool) (so sd : Value) (zo : List Int) (ad : Option Addr) (ld cd : Nat) (w : World) (ub : Nat) (tu : TypeId) (hu : w.heap[ub]? = some (.cells #[.slice ad ld cd, .int .u8 np] tu (0, 0))) (hIo : Rd w.heap.size w so zo) (h1 : zo.length ≤ 140737488355328) (h2 : ld ≤ 140737488355328) (hf : flt zo.length ld ≠ 0) :
  Calls Tryz.prog 39 #[.pointer (some ⟨ub, 0, none⟩), .agg #[.int .u8 tos, .int .u16 id, .bool keep, .int .u8 ttl, .int .u8 proto, .int .u32 src, .int .u32 dst, so, sd]] w fun e w' => e = .returned (.tuple #[.agg zcc.toArray, .int .i64 (flt zo.length ld)]) ∧ Below w.heap.size w w' := by
 obtain ⟨ao, co, rfl, hl1, hm1⟩ := hIo.slice
 have hb0 : Below w.heap.size w ((w.alloc (.cells #[.int .u8 tos, .int .u16 id, .bool keep, .int .u8 ttl, .int .u8 proto, .int .u32 src, .int .u32 dst, .slice ao zo.length co, sd] 56)).alloc (.cells zcc.toArray 56)) := ((Below.refl _ _).alloc (Nat.le_refl _) _).alloc (by simp) _
 have p0 : ((w.alloc (.cells #[.int .u8 tos, .int .u16 id, .bool keep, .int .u8 ttl, .int .u8 proto, .int .u32 src, .int .u32 dst, .slice ao zo.length co, sd] 56)).alloc (.cells zcc.toArray 56)).heap[w.heap.size]? = some (.cells #[.int .u8 tos, .int .u16 id, .bool keep, .int .u8 ttl, .int .u8 proto, .int .u32 src, .int .u32 dst, .slice ao zo.length co, sd] 56) := (Below.heap_alloc _ _ _ (by simp)).trans (heap_alloc_new w _)
 have q0 : ((w.alloc (.cells #[.int .u8 tos, .int .u16 id, .bool keep, .int .u8 ttl, .int .u8 proto, .int .u32 src, .int .u32 dst, .slice ao zo.length co, sd] 56)).alloc (.cells zcc.toArray 56)).heap[w.heap.size + 1]? = some (.cells zcc.toArray 56 (0, 0)) := by have := heap_alloc_new (w.alloc (.cells #[.int .u8 tos, .int .u16 id, .bool keep, .int .u8 ttl, .int .u8 proto, .int .u32 src, .int .u32 dst, .slice ao zo.length co, sd] 56)) (.cells zcc.toArray 56); simpa using this
 have P0 := hide p0
 have Q0 := hide q0
 clear p0 q0
 have hf' : (flt zo.length ld != 0) = true := by simp [hf]
 have HF := hide hf
 clear hf
 have hub : ub < w.heap.size := (bl9 hu)
 have hu0 := (hb0.block ub hub).trans hu
 go_enter Tryz.func39, Tryz.ntmps39
 go_upto_region 1 with fail
 generalize (w.alloc (.cells #[.int .u8 tos, .int .u16 id, .bool keep, .int .u8 ttl, .int .u8 proto, .int .u32 src, .int .u32 dst, .slice ao zo.length co, sd] 56)).alloc (.cells zcc.toArray 56) = W0 at *
 refine anyT_begin (R := But (fun b => b = w.heap.size)) 18 rfl (by kernel_rfl) ?_
 have hd : Later W0 W0.drew := Later.drew W0
 have qu : ∀ v1, But (fun b => b = w.heap.size) W0.drew v1 → ∀ i, v1.cell? ⟨ub, i, none⟩ = #[Value.slice ad ld cd, .int .u8 np][i]? := fun v1 h => block_cell ((((But.of hd).trans h).block ub (bl9 hu0) (by omega)).trans hu0)
 have P1 := (hd.block w.heap.size (bl9 P0.out)).trans P0.out
 have Q1 := (hd.block (w.heap.size + 1) (bl9 Q0.out)).trans Q0.out
 have hbd := hb0.trans (hd.mono hb0.size)
 clear P0 Q0 hu0
 generalize W0.drew = W1 at *
 refine tV (But.pre _) 0 rfl rfl ⟨_, fun v h => by (go_simp; rfl), ?_⟩; simp only [Act.put, sA, sB, sC]
 refine tV (But.pre _) 1 rfl rfl ⟨_, fun v h => by (go_simp; rfl), ?_⟩; simp only [Act.put, sA, sB, sC]
 refine tV (But.pre _) 2 rfl rfl ⟨_, fun v h => by (go_simp; rfl), ?_⟩; simp only [Act.put, sA, sB, sC]
 refine tV (But.pre _) 3 rfl rfl ⟨_, fun v h => by (go_simp; rfl), ?_⟩; simp only [Act.put, sA, sB, sC]
 refine tV (But.pre _) 7 rfl rfl ⟨_, fun v h => by (go_simp; rfl), ?_⟩; simp only [Act.put, sA, sB, sC]
 refine tV (But.pre _) 8 rfl rfl ⟨_, fun v h => by (go_simp; rfl), ?_⟩; simp only [Act.put, sA, sB, sC]
 refine tV (But.pre _) 9 rfl rfl ⟨_, fun v h => by (go_simp; rfl), ?_⟩; simp only [Act.put, sA, sB, sC]
 refine tV (But.pre _) 10 rfl rfl ⟨_, fun v h => by (go_simp; rfl), ?_⟩; simp only [Act.put, sA, sB, sC]
 refine tV (But.pre _) 11 rfl rfl ⟨_, fun v h => by (go_simp; rfl), ?_⟩; simp only [Act.put, sA, sB, sC]
 refine tV (But.pre _) 4 rfl rfl ⟨_, fun v h => by (go_simp; rfl), ?_⟩; simp only [Act.put, sA, sB, sC]
 have K0 := block_cell P1
 have hsW : w.heap.size + 2 ≤ W1.heap.size := by have := (bl9 Q1); omega
 refine anyT_one 5 rfl (by kernel_rfl) rfl ?_
 unfold Oper.wp
 go_simp
 refine ⟨But.refl _ _, ?_⟩
 clear K0
 refine tV (But.pre _) 12 rfl rfl ⟨_, fun v h => by (go_simp; rfl), ?_⟩; simp only [Act.put, sA, sB, sC]
 refine anyT_one 6 rfl (by kernel_rfl) rfl ?_
 refine wp_enter 84 #[.slice ao zo.length co] (by go_simp) ?_
 refine (cloneb_any _ zo _ (by omega) ((hIo.below hbd).mono hbd.size)).mono ?_
 rintro e w1 ⟨a1, c1, rfl, hO1, hb1⟩
 refine ⟨But.of hb1, ?_⟩
 simp only [Act.put, sA, sB, sC]
 have p1 := (hb1.block w.heap.size (by omega)).trans P1
 have q1 := (hb1.block (w.heap.size + 1) (by omega)).trans Q1
 have hw1 := hbd.trans (hb1.mono hbd.size)
 have K1 := block_cell p1
 have F1 := block_frozen p1
 clear qu
 refine anyT_one 13 rfl (by kernel_rfl) rfl ?_
 unfold Oper.wp
 go_simp
 refine ⟨(But.refl (fun b => b = w.heap.size) w1).setCell (p := ⟨w.heap.size, 4, none⟩) rfl _, ?_⟩
 have p1b := heap_set1 p1 4 (.int .u8 np)
 have K1b := block_cell p1b
 have F1b := block_frozen p1b
 clear K1 F1
 refine tV (But.pre _) 14 rfl rfl ⟨_, fun v h => by (go_simp; rfl), ?_⟩; simp only [Act.put, sA, sB, sC]
 refine anyT_one 15 rfl (by kernel_rfl) rfl ?_
 unfold Oper.wp
 go_simp
 refine ⟨(But.refl (fun b => b = w.heap.size) _).setCell (p := ⟨w.heap.size, 7, none⟩) rfl _, ?_⟩
 have p1c := heap_set1 p1b 7 (.slice a1 zo.length c1)
 have K1c := block_cell p1c
 have F1c := block_frozen p1c
 clear K1b F1b
 refine tV (But.pre _) 16 rfl rfl ⟨_, fun v h => by (go_simp; rfl), ?_⟩; simp only [Act.put, sA, sB, sC]
 refine anyT_one 17 rfl (by kernel_rfl) rfl ?_
 unfold Oper.wp
 go_simp
 refine ⟨(But.refl (fun b => b = w.heap.size) _).setCell (p := ⟨w.heap.size, 8, none⟩) rfl _, ?_⟩
 clear K1c F1c
 refine anyT_done (by kernel_rfl) ?_
 have K1 := block_cell p1
 have F1 := block_frozen p1
 have p2 := heap_sets _ _ _ _ _ _ _ _ _ (.int .u8 np) (.slice a1 zo.length c1) (.slice ad ld cd) p1
 go_wp2_with fail
 have hE : But (fun b => b = w.heap.size) w1 (((w1.setCell ⟨w.heap.size, 4, none⟩ (.int .u8 np)).setCell ⟨w.heap.size, 7, none⟩ (.slice a1 zo.length c1)).setCell ⟨w.heap.size, 8, none⟩ (.slice ad ld cd)) := (((But.refl (fun b => b = w.heap.size) w1).setCell (p := ⟨w.heap.size, 4, none⟩) rfl _).setCell (p := ⟨w.heap.size, 7, none⟩) rfl _).setCell (p := ⟨w.heap.size, 8, none⟩) rfl _
 have hs1 : w.heap.size + 2 ≤ w1.heap.size := by have := hb1.size; omega
 generalize ((w1.setCell ⟨w.heap.size, 4, none⟩ (.int .u8 np)).setCell ⟨w.heap.size, 7, none⟩ (.slice a1 zo.length c1)).setCell ⟨w.heap.size, 8, none⟩ (.slice ad ld cd) = V at *
 have hwV : Below w.heap.size w V := hw1.trans (hE.below (by omega) (fun k h e => by omega))
 have qV := (hE.block (w.heap.size + 1) (by omega) (by omega)).trans q1
 refine (build_no tos id ttl np src dst keep a1 ad zo.length c1 ld cd _ h1 h2 HF.out).mono ?_
 rintro e w2 ⟨rfl, hb2⟩
 have q3 := (hb2.block (w.heap.size + 1) (by have := hE.size; omega)).trans qV
 have Q3 := block_cell q3
 have G3 := block_frozen q3
 clear K1 F1
 go_wp2_with fail
 generalize hV : World.setCell _ ⟨w.heap.size + 1, 8, none⟩ _ = V8
 have hV9 : V8 = putRow w2 (w.heap.size + 1) 0 zcc := hV.symm
 have hb8 : But (fun b => b = w.heap.size + 1) w2 V8 := by rw [hV9]; exact putRow_but (E := fun b => b = w.heap.size + 1) (n := w.heap.size + 1) rfl _ _ _ _ (But.refl _ _)
 have p8 := putRow_all zcc q3 rfl
 rw [← hV9] at p8
 clear hV hV9 Q3 G3
 have P8 := block_cell p8
 have hw2 := hwV.trans (hb2.mono hwV.size)
 have hw8 : Below w.heap.size w V8 := hw2.trans (hb8.below hw2.size (fun k h e => by omega))
 exact bodyPost_ret (v := .tuple #[.agg zcc.toArray, .int .i64 (flt zo.length ld)]) (by simp [results, Tryz.results39, go_sem, P8]) rfl ⟨rfl, hw8⟩
theorem upacked_any (tos id ttl proto src dst np : Int) (keep : Bool) (so sd sd' : Value) (zo zd : List Int) (w : World) (ub : Nat) (tu : TypeId) (hu : w.heap[ub]? = some (.cells #[sd', .int .u8 np] tu (0, 0))) (hBo : Mt.By zo) (hIo : Rd w.heap.size w so zo) (hId : Rd w.heap.size w sd' zd)
  (h1 : zo.length ≤ 140737488355328) (h2 : zd.length ≤ 140737488355328) (ht : 0 ≤ tos ∧ tos ≤ 255) (hid : 0 ≤ id ∧ id ≤ 65535) (htt : 0 ≤ ttl ∧ ttl ≤ 255) (hpr : 0 ≤ np ∧ np ≤ 255) (hsr : 0 ≤ src ∧ src ≤ 4294967295) (hds : 0 ≤ dst ∧ dst ≤ 4294967295) :
  Calls Tryz.prog 39 #[.pointer (some ⟨ub, 0, none⟩), .agg #[.int .u8 tos, .int .u16 id, .bool keep, .int .u8 ttl, .int .u8 proto, .int .u32 src, .int .u32 dst, so, sd]] w fun e w' => Below w.heap.size w w' ∧ ((flt zo.length zd.length ≠ 0 ∧ e = .returned (.tuple #[.agg zcc.toArray, .int .i64 (flt zo.length zd.length)])) ∨
   (flt zo.length zd.length = 0 ∧ ∃ ao co, e = .returned (.tuple #[.agg #[.int .u8 tos, .int .u16 id, .bool keep, .int .u8 ttl, .int .u8 np, .int .u32 src, .int .u32 dst, .slice ao zo.length co, sd'], .int .i64 0]) ∧ Ow w.heap.size w' (.slice ao zo.length co) zo)) := by
 by_cases hf : flt zo.length zd.length = 0
 ·have hv : zo.length ≤ 40 ∧ zo.length % 4 = 0 ∧ 20 + zo.length + zd.length ≤ 65535 := by
   unfold flt at hf
   split at hf <;> first | omega | (split at hf <;> omega)
  exact (upacked_yes tos id ttl proto src dst np keep so sd sd' zo zd w ub tu hu hBo hIo hId hv.1 hv.2.1 hv.2.2 ht hid htt hpr hsr hds).mono fun e w' ⟨ao, co, he, hO, hb⟩ => ⟨hb, .inr ⟨hf, ao, co, he, hO⟩⟩
 ·obtain ⟨ad, cd, rfl, _, _⟩ := hId.slice
  exact (upacked_no tos id ttl proto src dst np keep so sd zo ad zd.length cd w ub tu hu hIo h1 h2 hf).mono fun e w' ⟨he, hb⟩ => ⟨hb, .inl ⟨hf, he⟩⟩
theorem psd_length (s d p n : Int) : (psd s d p n).length = 12 := rfl
theorem By_psd (s d p n : Int) (hs : 0 ≤ s ∧ s ≤ 4294967295) (hd : 0 ≤ d ∧ d ≤ 4294967295) (hp : 0 ≤ p ∧ p ≤ 255) : Mt.By (psd s d p n) := by
 unfold psd
 exact .mk (by omega) (.mk (by omega) (.mk (by omega) (.mk (by omega) (.mk (by omega) (.mk (by omega) (.mk (by omega) (.mk (by omega) (.mk (by omega) (.mk (by omega) (.mk (by omega) (.mk (by omega) .nil)))))))))))
theorem summed_any (tos id ttl proto src dst : Int) (keep : Bool) (so sd : Value) (zd : List Int) (w : World) (hI : Rd w.heap.size w sd zd) (hl : 12 + zd.length ≤ 140737488355328) (hsr : 0 ≤ src ∧ src ≤ 4294967295) (hds : 0 ≤ dst ∧ dst ≤ 4294967295) :
  Calls Tryz.prog 88 #[.agg #[.int .u8 tos, .int .u16 id, .bool keep, .int .u8 ttl, .int .u8 proto, .int .u32 src, .int .u32 dst, so, sd]] w fun e w' => ∃ a c, e = .returned (.slice a (12 + zd.length) c) ∧ Ow w.heap.size w' (.slice a (12 + zd.length) c) (psd src dst proto zd.length ++ zd) ∧ Below w.heap.size w w' := by
 obtain ⟨i0, hi, hz0, hz1, hz2⟩ := info_parts info_u8
 obtain ⟨ad, cd, rfl, hl1, hm1⟩ := hI.slice
 have hb0 : Below w.heap.size w (w.alloc (.cells #[.int .u8 tos, .int .u16 id, .bool keep, .int .u8 ttl, .int .u8 proto, .int .u32 src, .int .u32 dst, so, .slice ad zd.length cd] 56)) := (Below.refl _ _).alloc (Nat.le_refl _) _
 have p0 := heap_alloc_new w (.cells #[.int .u8 tos, .int .u16 id, .bool keep, .int .u8 ttl, .int .u8 proto, .int .u32 src, .int .u32 dst, so, .slice ad zd.length cd] 56)
 have P0 := hide p0
 clear p0
 go_enter Tryz.func88, Tryz.ntmps88
 go_upto_region 1 with fail
 generalize w.alloc (.cells #[.int .u8 tos, .int .u16 id, .bool keep, .int .u8 ttl, .int .u8 proto, .int .u32 src, .int .u32 dst, so, .slice ad zd.length cd] 56) = W0 at *
 refine anyT_begin (R := Later) 14 rfl (by kernel_rfl) ?_
 have hd : Later W0 W0.drew := Later.drew W0
 have qp : ∀ v1, Later W0.drew v1 → ∀ i, v1.cell? ⟨w.heap.size, i, none⟩ = #[Value.int .u8 tos, .int .u16 id, .bool keep, .int .u8 ttl, .int .u8 proto, .int .u32 src, .int .u32 dst, so, .slice ad zd.length cd][i]? := fun v1 h => block_cell (((hd.trans h).block w.heap.size (bl9 P0.out)).trans P0.out)
 have hbd := hb0.trans (hd.mono hb0.size)
 generalize W0.drew = W1 at *
 refine tV Later.pre 0 rfl rfl ⟨_, fun v h => by (go_simp; rfl), ?_⟩; simp only [Act.put, sA, sB, sC]
 refine tV Later.pre 1 rfl rfl ⟨_, fun v h => by (go_simp; rfl), ?_⟩; simp only [Act.put, sA, sB, sC]
 refine tV Later.pre 2 rfl rfl ⟨_, fun v h => by (go_simp; rfl), ?_⟩; simp only [Act.put, sA, sB, sC]
 refine tV Later.pre 3 rfl rfl ⟨_, fun v h => by (go_simp; rfl), ?_⟩; simp only [Act.put, sA, sB, sC]
 refine tV Later.pre 4 rfl rfl ⟨_, fun v h => by (go_simp; rfl), ?_⟩; simp only [Act.put, sA, sB, sC]
 refine tV Later.pre 5 rfl rfl ⟨_, fun v h => by (go_simp; rfl), ?_⟩; simp only [Act.put, sA, sB, sC]
 refine tV Later.pre 6 rfl rfl ⟨_, fun v h => by (go_simp; rfl), ?_⟩; simp only [Act.put, sA, sB, sC]
 refine tV Later.pre 7 rfl rfl ⟨_, fun v h => by (go_simp; rfl), ?_⟩; simp only [Act.put, sA, sB, sC]
 refine tV Later.pre 8 rfl rfl ⟨_, fun v h => by (go_simp; rfl), ?_⟩; simp only [Act.put, sA, sB, sC]
 refine tV Later.pre 10 rfl rfl ⟨_, fun v h => by (go_simp; rfl), ?_⟩; simp only [Act.put, sA, sB, sC]
 refine tV Later.pre 11 rfl rfl ⟨_, fun v h => by (go_simp; rfl), ?_⟩; simp only [Act.put, sA, sB, sC]
 refine anyT_one 9 rfl (by kernel_rfl) rfl ?_
 refine wp_enter 143 #[.int .u32 src, .int .u32 dst, .int .u8 proto, .int .i64 zd.length] (by go_simp) ?_
 refine (pseudo_any src dst proto zd.length hsr hds W1).mono ?_
 rintro e w2 ⟨a2, rfl, hO2, hb2⟩
 refine ⟨hb2, ?_⟩
 simp only [Act.put, sA, sB, sC]
 have hw2 := hbd.trans (hb2.mono hbd.size)
 obtain ⟨v3, w3, hr3, hO3, hb3⟩ := run_app_ow (P := Tryz.prog) w2 31 31 W1.heap.size i0 Tryz.underlying31 hi hz0 hz1 hz2 a2 12 _ hO2 (by simp [psd]) w.heap.size _ zd (hI.below hw2) (by rw [psd_length]; omega) hb2.size
 refine anyT_one 12 rfl (by kernel_rfl) rfl ?_
 obtain ⟨a3, c3, rfl, _, _⟩ := hO3.slice
 rw [List.length_append, psd_length] at hr3 hO3
 refine wp_app (.tmp 12) (.tmp 14) 31 rfl _ _ rfl rfl _ w3 hr3 ⟨hb3, ?_⟩
 simp only [Act.put, sA, sB, sC]
 clear qp
 refine tV Later.pre 13 rfl rfl ⟨_, fun v h => by (go_simp; rfl), ?_⟩; simp only [Act.put, sA, sB, sC]
 refine anyT_done (by kernel_rfl) ?_
 go_wp2_with fail
 go_ret
 exact ⟨a3, c3, rfl, hO3.mono hbd.size, hw2.trans (hb3.mono hw2.size)⟩
def usm (s d p : Int) (zs : List Int) : Int := if Mt.cks (psd s d p zs.length ++ zs) = 0 then 65535 else Mt.cks (psd s d p zs.length ++ zs)
theorem usm_bd (s d p : Int) (zs : List Int) : 1 ≤ usm s d p zs ∧ usm s d p zs ≤ 65535 := by
 have := Mt.cks_bd (psd s d p zs.length ++ zs)
 unfold usm
 split <;> omega
theorem udpSum_any (tos id ttl proto src dst : Int) (keep : Bool) (so sd : Value) (zd : List Int) (w : World) (hB : Mt.By zd) (hI : Rd w.heap.size w sd zd) (hl : 12 + zd.length ≤ 140737488355328) (hpr : 0 ≤ proto ∧ proto ≤ 255) (hsr : 0 ≤ src ∧ src ≤ 4294967295) (hds : 0 ≤ dst ∧ dst ≤ 4294967295) :
  Calls Tryz.prog 41 #[.agg #[.int .u8 tos, .int .u16 id, .bool keep, .int .u8 ttl, .int .u8 proto, .int .u32 src, .int .u32 dst, so, sd]] w fun e w' => e = .returned (.int .u16 (usm src dst proto zd)) ∧ Below w.heap.size w w' := by
 obtain ⟨ad, cd, rfl, hl1, hm1⟩ := hI.slice
 have hb0 : Below w.heap.size w (w.alloc (.cells #[.int .u8 tos, .int .u16 id, .bool keep, .int .u8 ttl, .int .u8 proto, .int .u32 src, .int .u32 dst, so, .slice ad zd.length cd] 56)) := (Below.refl _ _).alloc (Nat.le_refl _) _
 have HU : Hid (usm src dst proto zd = if Mt.cks (psd src dst proto zd.length ++ zd) = 0 then 65535 else Mt.cks (psd src dst proto zd.length ++ zd)) := rfl
 have hBs := (By_psd src dst proto zd.length hsr hds hpr).append hB
 have hln : (psd src dst proto zd.length ++ zd).length = 12 + zd.length := by rw [List.length_append, psd_length]
 have HL := hide hln
 clear hln
 go_enter Tryz.func41, Tryz.ntmps41
 go_wp2_with fail
 generalize w.alloc (.cells #[.int .u8 tos, .int .u16 id, .bool keep, .int .u8 ttl, .int .u8 proto, .int .u32 src, .int .u32 dst, so, .slice ad zd.length cd] 56) = w0 at *
 refine (summed_any tos id ttl proto src dst keep _ _ zd w0 ((hI.below hb0).mono hb0.size) hl hsr hds).mono ?_
 rintro e w1 ⟨a1, c1, rfl, hO1, hb1⟩
 generalize psd src dst proto zd.length ++ zd = ss at *
 go_wp2_with fail
 refine (sum_any _ ss hBs (by rw [HL.out]; omega) w1 hO1.rd).mono ?_
 rintro e w2 ⟨rfl, hb2⟩
 have hw2 := hb0.trans ((Later.trans hb1 hb2).mono hb0.size)
 by_cases h0 : Mt.cks ss = 0
 ·have t0 : (Mt.cks ss != 0) = false := by simp [h0]
  rw [if_pos h0] at HU
  clear h0
  go_wp2
  go_ret
  exact ⟨by rw [HU.out]; rfl, hw2⟩
 ·have t0 : (Mt.cks ss != 0) = true := by simp [h0]
  rw [if_neg h0] at HU
  clear h0
  go_wp2
  go_ret
  exact ⟨by rw [HU.out]; rfl, hw2⟩
theorem But.wk {E E' : Nat → Prop} {a b : World} (h : But E a b) (hE : ∀ k, E k → E' k) : But E' a b := ⟨h.os, h.tape, h.output, h.size, fun i hi he => h.block i hi (fun h' => he (hE i h'))⟩
theorem Ow.aside {base mb : Nat} {W W' : World} {v : Value} {zs : List Int} {cur : Array Value} {t : TypeId} (h : Ow base W v zs) (hm : W.heap[mb]? = some (.cells cur t (0, 0))) (ht : t ≠ 5) (hb : But (fun b => b = mb) W W') : Ow base W' v zs := by
 rcases h with h | ⟨g, cap, c, h1, h2, h3, h4, h5, h6, h7⟩
 ·exact .inl h
 ·refine .inr ⟨g, cap, c, h1, h2, h3, h4, h5, (hb.block g (bl9 h6) (fun e => ?_)).trans h6, h7⟩
  subst e
  rw [hm] at h6
  simp at h6
  exact ht h6.2
def udp0 (sp dp : Int) (zm : List Int) : List Int := [sp, dp, (8 + (zm.length : Int)) % 65536, 0].flatMap b2 ++ zm
def udp (sp dp : Int) (bare : Bool) (src dst : Int) (zm : List Int) : List Int := if bare then udp0 sp dp zm else Mt.put2 (udp0 sp dp zm) 6 (usm src dst 17 (udp0 sp dp zm))
theorem udp0_length (sp dp : Int) (zm : List Int) : (udp0 sp dp zm).length = 8 + zm.length := by simp [udp0, b2]; omega
theorem udp_length (sp dp : Int) (bare : Bool) (src dst : Int) (zm : List Int) : (udp sp dp bare src dst zm).length = 8 + zm.length := by unfold udp; split <;> simp [Mt.put2_length, udp0_length]
theorem By_udp0 (sp dp : Int) (zm : List Int) (h1 : 0 ≤ sp ∧ sp ≤ 65535) (h2 : 0 ≤ dp ∧ dp ≤ 65535) (hB : Mt.By zm) : Mt.By (udp0 sp dp zm) := by
 unfold udp0
 refine Mt.By.append ?_ hB
 simp only [List.flatMap_cons, List.flatMap_nil, b2]
 exact .mk (by omega) (.mk (by omega) (.mk (by omega) (.mk (by omega) (.mk (by omega) (.mk (by omega) (.mk (by omega) (.mk (by omega) .nil)))))))
theorem By_udp (sp dp : Int) (bare : Bool) (src dst : Int) (zm : List Int) (h1 : 0 ≤ sp ∧ sp ≤ 65535) (h2 : 0 ≤ dp ∧ dp ≤ 65535) (hB : Mt.By zm) : Mt.By (udp sp dp bare src dst zm) := by
 unfold udp
 split
 ·exact By_udp0 sp dp zm h1 h2 hB
 ·exact (By_udp0 sp dp zm h1 h2 hB).put2 6 (by have := usm_bd src dst 17 (udp0 sp dp zm); omega)
theorem buildUdp_any (tos id ttl proto src dst sp dp : Int) (keep bare : Bool) (so sd sm : Value) (zo zm : List Int) (w : World) (hBo : Mt.By zo) (hIo : Rd w.heap.size w so zo) (hBm : Mt.By zm) (hIm : Rd w.heap.size w sm zm)
  (h1 : zo.length ≤ 140737488355328) (h2 : 20 + zm.length ≤ 140737488355328) (ht : 0 ≤ tos ∧ tos ≤ 255) (hid : 0 ≤ id ∧ id ≤ 65535) (htt : 0 ≤ ttl ∧ ttl ≤ 255) (hsr : 0 ≤ src ∧ src ≤ 4294967295) (hds : 0 ≤ dst ∧ dst ≤ 4294967295)
  (hsp : 0 ≤ sp ∧ sp ≤ 65535) (hdp : 0 ≤ dp ∧ dp ≤ 65535) :
  Calls Tryz.prog 16 #[.agg #[.int .u8 tos, .int .u16 id, .bool keep, .int .u8 ttl, .int .u8 proto, .int .u32 src, .int .u32 dst, so, sd], .agg #[.int .u16 sp, .int .u16 dp, .bool bare, sm]] w fun e w' => Below w.heap.size w w' ∧ ((flt zo.length (8 + zm.length) ≠ 0 ∧ e = .returned (.tuple #[.agg zcc.toArray, .int .i64 (flt zo.length (8 + zm.length))])) ∨
   (flt zo.length (8 + zm.length) = 0 ∧ ∃ ao co ad cd, e = .returned (.tuple #[.agg #[.int .u8 tos, .int .u16 id, .bool keep, .int .u8 ttl, .int .u8 17, .int .u32 src, .int .u32 dst, .slice ao zo.length co, .slice ad (8 + zm.length) cd], .int .i64 0]) ∧ Ow w.heap.size w' (.slice ao zo.length co) zo ∧ Ow w.heap.size w' (.slice ad (8 + zm.length) cd) (udp sp dp bare src dst zm))) := by
 obtain ⟨ao, co, rfl, _, _⟩ := hIo.slice
 obtain ⟨am, cm, rfl, _, _⟩ := hIm.slice
 have hbU : Below w.heap.size w ((((w.alloc (.cells #[.int .u8 tos, .int .u16 id, .bool keep, .int .u8 ttl, .int .u8 proto, .int .u32 src, .int .u32 dst, .slice ao zo.length co, sd] 56)).alloc (.cells #[.int .u16 sp, .int .u16 dp, .bool bare, .slice am zm.length cm] 60)).alloc (.cells zcc.toArray 56)).alloc (.cells #[.slice none 0 0, .int .u8 17] 105)) := ((((Below.refl _ _).alloc (Nat.le_refl _) _).alloc (by simp) _).alloc (by simp <;> omega) _).alloc (by simp <;> omega) _
 have p0 : ((((w.alloc (.cells #[.int .u8 tos, .int .u16 id, .bool keep, .int .u8 ttl, .int .u8 proto, .int .u32 src, .int .u32 dst, .slice ao zo.length co, sd] 56)).alloc (.cells #[.int .u16 sp, .int .u16 dp, .bool bare, .slice am zm.length cm] 60)).alloc (.cells zcc.toArray 56)).alloc (.cells #[.slice none 0 0, .int .u8 17] 105)).heap[w.heap.size]? = some (.cells #[.int .u8 tos, .int .u16 id, .bool keep, .int .u8 ttl, .int .u8 proto, .int .u32 src, .int .u32 dst, .slice ao zo.length co, sd] 56) := (Below.heap_alloc _ _ _ (by simp <;> omega)).trans ((Below.heap_alloc _ _ _ (by simp <;> omega)).trans ((Below.heap_alloc _ _ _ (by simp)).trans (heap_alloc_new w _)))
 have d0 : ((((w.alloc (.cells #[.int .u8 tos, .int .u16 id, .bool keep, .int .u8 ttl, .int .u8 proto, .int .u32 src, .int .u32 dst, .slice ao zo.length co, sd] 56)).alloc (.cells #[.int .u16 sp, .int .u16 dp, .bool bare, .slice am zm.length cm] 60)).alloc (.cells zcc.toArray 56)).alloc (.cells #[.slice none 0 0, .int .u8 17] 105)).heap[w.heap.size + 1]? = some (.cells #[.int .u16 sp, .int .u16 dp, .bool bare, .slice am zm.length cm] 60) := by
  have := heap_alloc_new (w.alloc (.cells #[.int .u8 tos, .int .u16 id, .bool keep, .int .u8 ttl, .int .u8 proto, .int .u32 src, .int .u32 dst, .slice ao zo.length co, sd] 56)) (.cells #[.int .u16 sp, .int .u16 dp, .bool bare, .slice am zm.length cm] 60)
  rw [World.size_alloc] at this
  exact (Below.heap_alloc _ _ _ (by simp <;> omega)).trans ((Below.heap_alloc _ _ _ (by simp)).trans this)
 have r0 : ((((w.alloc (.cells #[.int .u8 tos, .int .u16 id, .bool keep, .int .u8 ttl, .int .u8 proto, .int .u32 src, .int .u32 dst, .slice ao zo.length co, sd] 56)).alloc (.cells #[.int .u16 sp, .int .u16 dp, .bool bare, .slice am zm.length cm] 60)).alloc (.cells zcc.toArray 56)).alloc (.cells #[.slice none 0 0, .int .u8 17] 105)).heap[w.heap.size + 1 + 1]? = some (.cells zcc.toArray 56 (0, 0)) := by
  have := heap_alloc_new ((w.alloc (.cells #[.int .u8 tos, .int .u16 id, .bool keep, .int .u8 ttl, .int .u8 proto, .int .u32 src, .int .u32 dst, .slice ao zo.length co, sd] 56)).alloc (.cells #[.int .u16 sp, .int .u16 dp, .bool bare, .slice am zm.length cm] 60)) (.cells zcc.toArray 56)
  simp only [World.size_alloc] at this
  exact (Below.heap_alloc _ _ _ (by simp)).trans this
 have u0 : ((((w.alloc (.cells #[.int .u8 tos, .int .u16 id, .bool keep, .int .u8 ttl, .int .u8 proto, .int .u32 src, .int .u32 dst, .slice ao zo.length co, sd] 56)).alloc (.cells #[.int .u16 sp, .int .u16 dp, .bool bare, .slice am zm.length cm] 60)).alloc (.cells zcc.toArray 56)).alloc (.cells #[.slice none 0 0, .int .u8 17] 105)).heap[w.heap.size + 1 + 1 + 1]? = some (.cells #[.slice none 0 0, .int .u8 17] 105 (0, 0)) := by
  have := heap_alloc_new (((w.alloc (.cells #[.int .u8 tos, .int .u16 id, .bool keep, .int .u8 ttl, .int .u8 proto, .int .u32 src, .int .u32 dst, .slice ao zo.length co, sd] 56)).alloc (.cells #[.int .u16 sp, .int .u16 dp, .bool bare, .slice am zm.length cm] 60)).alloc (.cells zcc.toArray 56)) (.cells #[.slice none 0 0, .int .u8 17] 105)
  simpa using this
 have hsU : ((((w.alloc (.cells #[.int .u8 tos, .int .u16 id, .bool keep, .int .u8 ttl, .int .u8 proto, .int .u32 src, .int .u32 dst, .slice ao zo.length co, sd] 56)).alloc (.cells #[.int .u16 sp, .int .u16 dp, .bool bare, .slice am zm.length cm] 60)).alloc (.cells zcc.toArray 56)).alloc (.cells #[.slice none 0 0, .int .u8 17] 105)).heap.size = w.heap.size + 1 + 1 + 1 + 1 := by simp
 have PD := block_cell d0
 have D0 := hide d0
 have P0 := hide p0
 have R0 := hide r0
 have U0 := hide u0
 have HSU := hide hsU
 clear p0 d0 r0 u0 hsU
 go_enter Tryz.func16, Tryz.ntmps16
 go_upto_region 2 with fail
 generalize (((w.alloc (.cells #[.int .u8 tos, .int .u16 id, .bool keep, .int .u8 ttl, .int .u8 proto, .int .u32 src, .int .u32 dst, .slice ao zo.length co, sd] 56)).alloc (.cells #[.int .u16 sp, .int .u16 dp, .bool bare, .slice am zm.length cm] 60)).alloc (.cells zcc.toArray 56)).alloc (.cells #[.slice none 0 0, .int .u8 17] 105) = wu at *
 have hH0 : HSt [.int .u8 17] 105 (w.heap.size + 1 + 1 + 1) (fun _ => False) [] wu := ⟨.slice none 0 0, U0.out, World.ownsRow_nil _ _ _ _, fun _ h => by cases h⟩
 have hlu : IntKind.u16.wrap (8 + (zm.length : Int)) = (8 + (zm.length : Int)) % 65536 := IntKind.wrap_u16 _
 have hA : Later wu (wu.alloc (.cells ([sp, dp, (8 + (zm.length : Int)) % 65536, 0].map (Value.int .u16)).toArray 22)) := (Below.refl _ _).alloc (Nat.le_refl _) _
 have hHA := hH0.alloc (.cells ([sp, dp, (8 + (zm.length : Int)) % 65536, 0].map (Value.int .u16)).toArray 22)
 have hkA := heap_alloc_new wu (.cells ([sp, dp, (8 + (zm.length : Int)) % 65536, 0].map (Value.int .u16)).toArray 22)
 go_wp2_with fail
 refine (hput16_any [.int .u8 17] 105 22 (w.heap.size + 1 + 1 + 1) wu.heap.size 4 (fun b => False ∨ b = wu.heap.size) [] [sp, dp, (8 + (zm.length : Int)) % 65536, 0] _ hHA (fun b hb => ⟨by rcases hb with h | h; exact h.elim; subst h; simp, by rcases hb with h | h; exact h.elim; have := HSU.out; omega⟩) (.inr rfl) hkA (by intro n hn; simp at hn; omega) (by simp) (by simp)).mono ?_
 rintro e w1 ⟨rfl, hH1, hE1⟩
 have E1 : But (fun b => w.heap.size + 1 + 1 + 1 ≤ b) wu w1 := (But.of hA).trans (hE1.wk fun b h => h.1)
 have hsu : w.heap.size + 1 + 1 + 1 + 1 = wu.heap.size := HSU.out.symm
 have hw1 : Below w.heap.size w w1 := hbU.trans (E1.below (by omega) (fun k h e => by omega))
 have d1 := (E1.block (w.heap.size + 1) (by omega) (by omega)).trans D0.out
 have p1 := (E1.block w.heap.size (by omega) (by omega)).trans P0.out
 have r1 := (E1.block (w.heap.size + 1 + 1) (by omega) (by omega)).trans R0.out
 have hs1 : wu.heap.size + 1 ≤ w1.heap.size := by have := hE1.size; simp at this; omega
 rw [List.nil_append] at hH1
 clear hHA hkA hA hH0 hE1 PD P0 D0 R0 U0 E1
 have K1 := block_cell d1
 go_wp2_with fail
 refine (put_any [.int .u8 17] 105 (w.heap.size + 1 + 1 + 1) (fun b => False ∨ b = wu.heap.size) _ _ zm w.heap.size _ hH1 (fun b hb => ⟨by rcases hb with h | h; exact h.elim; omega, by rcases hb with h | h; exact h.elim; omega⟩) (hIm.below hw1) (by simp [b2]; omega)).mono ?_
 rintro e w2 ⟨rfl, hH2, hE2⟩
 have E2 : But (fun b => w.heap.size + 1 + 1 + 1 ≤ b) w1 w2 := hE2.wk fun b h => h.1
 have hw2 : Below w.heap.size w w2 := hw1.trans (E2.below (by omega) (fun k h e => by omega))
 have d2 := (E2.block (w.heap.size + 1) (by omega) (by omega)).trans d1
 have p2 := (E2.block w.heap.size (by omega) (by omega)).trans p1
 have r2 := (E2.block (w.heap.size + 1 + 1) (by omega) (by omega)).trans r1
 have hs2 : w1.heap.size ≤ w2.heap.size := E2.size
 have HU : Hid ([sp, dp, (8 + (zm.length : Int)) % 65536, 0].flatMap b2 ++ zm = udp0 sp dp zm) := rfl
 rw [HU.out] at hH2
 clear hH1 K1 d1 p1 r1 E2 hE2 HU
 obtain ⟨v2, u2, hown2, _⟩ := hH2
 have hOu := Ow.of_row hown2
 obtain ⟨av, cv, rfl, _, _⟩ := hOu.slice
 have K2 := block_cell p2
 have hB0 := By_udp0 sp dp zm hsp hdp hBm
 have h28 : (udp0 sp dp zm).length ≤ 140737488355328 := by rw [udp0_length]; omega
 go_wp2_with fail
 refine (upacked_any tos id ttl proto src dst 17 keep _ _ _ zo (udp0 sp dp zm) w2 (w.heap.size + 1 + 1 + 1) _ u2 hBo ((hIo.below hw2).mono hw2.size) hOu.rd h1 h28 ht hid htt (by omega) hsr hds).mono ?_
 rw [udp0_length] at hOu ⊢
 clear K2 u2 hown2 p2
 rintro e w3 ⟨hb3, ⟨hf, rfl⟩ | ⟨hf, ao3, co3, rfl, hO3⟩⟩
 ·have hf' : (flt zo.length (8 + zm.length) != 0) = true := by simp [hf]
  have HF := hide hf
  have r3 := (hb3.block (w.heap.size + 1 + 1) (by omega)).trans r2
  have hw3 := hw2.trans (hb3.mono hw2.size)
  clear hf d2 r2
  go_upto_region 6 with fail
  generalize hV : w3.alloc _ = W4
  have W4l : Later w3 W4 := by rw [← hV]; exact (Below.refl _ w3).alloc (Nat.le_refl _) _
  clear hV
  have r4 := (W4l.block (w.heap.size + 1 + 1) (by have := hb3.size; omega)).trans r3
  have hw4 := hw3.trans (W4l.mono hw3.size)
  have K4 := block_cell r4
  have F4 := block_frozen r4
  clear r3 hb3
  go_wp2_with fail
  generalize hV : World.setCell _ ⟨w.heap.size + 1 + 1, 8, none⟩ _ = V8
  have hV9 : V8 = putRow W4 (w.heap.size + 1 + 1) 0 zcc := hV.symm
  have hb8 : But (fun b => b = w.heap.size + 1 + 1) W4 V8 := by rw [hV9]; exact putRow_but (E := fun b => b = w.heap.size + 1 + 1) (n := w.heap.size + 1 + 1) rfl _ _ _ _ (But.refl _ _)
  have p8 := putRow_all zcc r4 rfl
  rw [← hV9] at p8
  clear hV hV9
  have P8 := block_cell p8
  have hw8 : Below w.heap.size w V8 := (hw4).trans (hb8.below (hw4).size (fun k h e => by omega))
  exact bodyPost_ret (v := .tuple #[.agg zcc.toArray, .int .i64 (flt zo.length (8 + zm.length))]) (by simp [results, Tryz.results16, go_sem, P8]) rfl (⟨hw8, .inl ⟨HF.out, rfl⟩⟩)
 ·have HF := hide hf
  have r3 := (hb3.block (w.heap.size + 1 + 1) (by omega)).trans r2
  have d3 := (hb3.block (w.heap.size + 1) (by omega)).trans d2
  have hw3 := hw2.trans (hb3.mono hw2.size)
  have hs3 := hb3.size
  have hOu3 := hOu.later hb3
  clear hf d2 r2
  go_upto_region 7 with fail
  generalize hV : w3.alloc _ = W4
  have W4l : Later w3 W4 := by rw [← hV]; exact (Below.refl _ w3).alloc (Nat.le_refl _) _
  have W4q : W4.heap[w3.heap.size]? = some (.cells [.int .u8 tos, .int .u16 id, .bool keep, .int .u8 ttl, .int .u8 17, .int .u32 src, .int .u32 dst, .slice ao3 zo.length co3, .slice av (8 + zm.length) cv].toArray 56 (0, 0)) := by rw [← hV]; exact heap_alloc_new w3 _
  clear hV
  have r4 := (W4l.block (w.heap.size + 1 + 1) (by omega)).trans r3
  have d4 := (W4l.block (w.heap.size + 1) (by omega)).trans d3
  have hw4 := hw3.trans (W4l.mono hw3.size)
  have hO4 := hO3.later W4l
  have hOu4 := hOu3.later W4l
  have K4 := block_cell d4
  clear d3 r3 hO3 hOu3
  have HUd : Hid (udp sp dp bare src dst zm = if bare then udp0 sp dp zm else Mt.put2 (udp0 sp dp zm) 6 (usm src dst 17 (udp0 sp dp zm))) := rfl
  cases bare with
  | true =>
   have Q4 := block_cell W4q
   have F4 := block_frozen r4
   have R4 := block_cell r4
   go_wp2_with fail
   generalize hV : World.setCell _ ⟨w.heap.size + 1 + 1, 8, none⟩ _ = V8
   have hV9 : V8 = putRow W4 (w.heap.size + 1 + 1) 0 [.int .u8 tos, .int .u16 id, .bool keep, .int .u8 ttl, .int .u8 17, .int .u32 src, .int .u32 dst, .slice ao3 zo.length co3, .slice av (8 + zm.length) cv] := hV.symm
   have hb8 : But (fun b => b = w.heap.size + 1 + 1) W4 V8 := by rw [hV9]; exact putRow_but (E := fun b => b = w.heap.size + 1 + 1) (n := w.heap.size + 1 + 1) rfl _ _ _ _ (But.refl _ _)
   have p8 := putRow_all [.int .u8 tos, .int .u16 id, .bool keep, .int .u8 ttl, .int .u8 17, .int .u32 src, .int .u32 dst, .slice ao3 zo.length co3, .slice av (8 + zm.length) cv] r4 rfl
   rw [← hV9] at p8
   clear hV hV9
   have P8 := block_cell p8
   have hw8 : Below w.heap.size w V8 := (hw4).trans (hb8.below (hw4).size (fun k h e => by omega))
   exact bodyPost_ret (v := .tuple #[.agg [.int .u8 tos, .int .u16 id, .bool keep, .int .u8 ttl, .int .u8 17, .int .u32 src, .int .u32 dst, .slice ao3 zo.length co3, .slice av (8 + zm.length) cv].toArray, .int .i64 0]) (by simp [results, Tryz.results16, go_sem, P8]) rfl (⟨hw8, .inr ⟨HF.out, _, _, _, _, rfl, (hO4.but hb8 (fun b h e => by omega)).mono hw2.size, by rw [HUd.out]; exact (hOu4.but hb8 (fun b h e => by omega)).mono (by omega)⟩⟩)
  | false =>
   go_upto_region 8 with fail
   refine anyT_begin (R := But (fun b => b = w3.heap.size)) 7 rfl (by kernel_rfl) ?_
   have hd : Later W4 W4.drew := Later.drew W4
   have q5 := (hd.block w3.heap.size (bl9 W4q)).trans W4q
   have r5 := (hd.block (w.heap.size + 1 + 1) (bl9 r4)).trans r4
   have hw5 := hw4.trans (hd.mono hw4.size)
   have hO5 := hO4.later hd
   have hOu5 := hOu4.later hd
   clear W4q r4 hO4 hOu4 K4 d4
   generalize W4.drew = W5 at *
   have Q5 := block_cell q5
   refine tV (But.pre _) 0 rfl rfl ⟨_, fun v h => by (go_simp; rfl), ?_⟩; simp only [Act.put, sA, sB, sC]
   refine anyT_two 1 2 rfl rfl (by kernel_rfl) rfl rfl ?_ ?_
   ·unfold Oper.wp
    go_simp
    refine ⟨But.refl _ _, ?_⟩
    refine anyT_one 2 rfl (by kernel_rfl) rfl ?_
    unfold Oper.wp
    go_simp
    refine ⟨But.refl _ _, ?_⟩
    refine anyT_one 3 rfl (by kernel_rfl) rfl ?_
    refine wp_enter 41 #[.agg #[.int .u8 tos, .int .u16 id, .bool keep, .int .u8 ttl, .int .u8 17, .int .u32 src, .int .u32 dst, .slice ao3 zo.length co3, .slice av (8 + zm.length) cv]] (by go_simp) ?_
    refine (udpSum_any tos id ttl 17 src dst keep _ _ (udp0 sp dp zm) W5 hB0 hOu5.rd (by rw [udp0_length]; omega) (by omega) hsr hds).mono ?_
    rintro e W6 ⟨rfl, hb6⟩
    refine ⟨But.of hb6, ?_⟩
    simp only [Act.put, sA, sB, sC]
    have hO6 := hO5.later hb6
    have hOu6 := hOu5.later hb6
    have r6 := (hb6.block (w.heap.size + 1 + 1) (bl9 r5)).trans r5
    have q6 := (hb6.block w3.heap.size (bl9 q5)).trans q5
    have hw6 := hw5.trans (hb6.mono hw5.size)
    have hq5 := (bl9 q5)
    have hub := usm_bd src dst 17 (udp0 sp dp zm)
    refine anyT_one 4 rfl (by kernel_rfl) rfl ?_
    refine wp_enter 40 #[.slice av (8 + zm.length) cv, .int .i64 6, .int .u16 (usm src dst 17 (udp0 sp dp zm))] (by go_simp) ?_
    refine (put16_any _ (udp0 sp dp zm) 6 (usm src dst 17 (udp0 sp dp zm)) W6 h28 hOu6.rd (by omega)).mono ?_
    rintro e W7 ⟨a6, rfl, hO7, hb7⟩
    rw [putAt2_lit _ 6 6 _ rfl (by rw [udp0_length]; omega), udp0_length] at hO7
    rw [udp0_length]
    refine ⟨But.of hb7, ?_⟩
    simp only [Act.put, sA, sB, sC]
    have r7 := (hb7.block (w.heap.size + 1 + 1) (bl9 r6)).trans r6
    have q7 := (hb7.block w3.heap.size (bl9 q6)).trans q6
    have hw7 := hw6.trans (hb7.mono hw6.size)
    have hOo := hO6.later hb7
    have hs6 := hb6.size
    have hs7 := hb7.size
    clear hOu5 hO5 hOu6 hO6 r6 q6 r5 q5 Q5
    refine anyT_one 5 rfl (by kernel_rfl) rfl ?_
    unfold Oper.wp
    go_simp
    refine ⟨But.refl _ _, ?_⟩
    have Q7 := block_cell q7
    have F7 := block_frozen q7
    refine anyT_one 6 rfl (by kernel_rfl) rfl ?_
    unfold Oper.wp
    go_simp
    refine ⟨(But.refl (fun b => b = w3.heap.size) W7).setCell (p := ⟨w3.heap.size, 8, none⟩) rfl _, ?_⟩
    clear Q7 F7
    refine anyT_done (by kernel_rfl) ?_
    have E8 : But (fun b => b = w3.heap.size) W7 (W7.setCell ⟨w3.heap.size, 8, none⟩ (.slice a6 (8 + zm.length) (8 + zm.length))) := (But.refl (fun b => b = w3.heap.size) W7).setCell (p := ⟨w3.heap.size, 8, none⟩) rfl _
    have q8 : (W7.setCell ⟨w3.heap.size, 8, none⟩ (.slice a6 (8 + zm.length) (8 + zm.length))).heap[w3.heap.size]? = some (.cells [.int .u8 tos, .int .u16 id, .bool keep, .int .u8 ttl, .int .u8 17, .int .u32 src, .int .u32 dst, .slice ao3 zo.length co3, .slice a6 (8 + zm.length) (8 + zm.length)].toArray 56 (0, 0)) := heap_set1 q7 8 _
    generalize W7.setCell ⟨w3.heap.size, 8, none⟩ (.slice a6 (8 + zm.length) (8 + zm.length)) = W8 at *
    have r8 := (E8.block (w.heap.size + 1 + 1) (by omega) (by omega)).trans r7
    have hwL : Below w.heap.size w W8 := hw7.trans (E8.below (by omega) (fun k h e => by omega))
    have hO8 := hOo.aside q7 (by decide) E8
    have hOd := hO7.aside q7 (by decide) E8
    have Q8 := block_cell q8
    have R8 := block_cell r8
    have F8 := block_frozen r8
    go_wp2_with fail
    generalize hV : World.setCell _ ⟨w.heap.size + 1 + 1, 8, none⟩ _ = V8
    have hV9 : V8 = putRow W8 (w.heap.size + 1 + 1) 0 [.int .u8 tos, .int .u16 id, .bool keep, .int .u8 ttl, .int .u8 17, .int .u32 src, .int .u32 dst, .slice ao3 zo.length co3, .slice a6 (8 + zm.length) (8 + zm.length)] := hV.symm
    have hb8 : But (fun b => b = w.heap.size + 1 + 1) W8 V8 := by rw [hV9]; exact putRow_but (E := fun b => b = w.heap.size + 1 + 1) (n := w.heap.size + 1 + 1) rfl _ _ _ _ (But.refl _ _)
    have p8 := putRow_all [.int .u8 tos, .int .u16 id, .bool keep, .int .u8 ttl, .int .u8 17, .int .u32 src, .int .u32 dst, .slice ao3 zo.length co3, .slice a6 (8 + zm.length) (8 + zm.length)] r8 rfl
    rw [← hV9] at p8
    clear hV hV9
    have P8 := block_cell p8
    have hw8 : Below w.heap.size w V8 := (hwL).trans (hb8.below (hwL).size (fun k h e => by omega))
    exact bodyPost_ret (v := .tuple #[.agg #[.int .u8 tos, .int .u16 id, .bool keep, .int .u8 ttl, .int .u8 17, .int .u32 src, .int .u32 dst, .slice ao3 zo.length co3, .slice a6 (8 + zm.length) (8 + zm.length)], .int .i64 0]) (by simp [results, Tryz.results16, go_sem, P8]) rfl (⟨hw8, .inr ⟨HF.out, _, _, _, _, rfl, (hO8.but hb8 (fun b h e => by omega)).mono hw2.size, by rw [HUd.out]; exact (hOd.but hb8 (fun b h e => by omega)).mono (by omega)⟩⟩)
   ·unfold Oper.wp
    go_simp
    refine ⟨But.refl _ _, ?_⟩
    refine anyT_two 1 3 rfl rfl (by kernel_rfl) rfl rfl ?_ ?_
    ·unfold Oper.wp
     go_simp
     refine ⟨But.refl _ _, ?_⟩
     refine anyT_one 3 rfl (by kernel_rfl) rfl ?_
     refine wp_enter 41 #[.agg #[.int .u8 tos, .int .u16 id, .bool keep, .int .u8 ttl, .int .u8 17, .int .u32 src, .int .u32 dst, .slice ao3 zo.length co3, .slice av (8 + zm.length) cv]] (by go_simp) ?_
     refine (udpSum_any tos id ttl 17 src dst keep _ _ (udp0 sp dp zm) W5 hB0 hOu5.rd (by rw [udp0_length]; omega) (by omega) hsr hds).mono ?_
     rintro e W6 ⟨rfl, hb6⟩
     refine ⟨But.of hb6, ?_⟩
     simp only [Act.put, sA, sB, sC]
     have hO6 := hO5.later hb6
     have hOu6 := hOu5.later hb6
     have r6 := (hb6.block (w.heap.size + 1 + 1) (bl9 r5)).trans r5
     have q6 := (hb6.block w3.heap.size (bl9 q5)).trans q5
     have hw6 := hw5.trans (hb6.mono hw5.size)
     have hq5 := (bl9 q5)
     have hub := usm_bd src dst 17 (udp0 sp dp zm)
     refine anyT_one 4 rfl (by kernel_rfl) rfl ?_
     refine wp_enter 40 #[.slice av (8 + zm.length) cv, .int .i64 6, .int .u16 (usm src dst 17 (udp0 sp dp zm))] (by go_simp) ?_
     refine (put16_any _ (udp0 sp dp zm) 6 (usm src dst 17 (udp0 sp dp zm)) W6 h28 hOu6.rd (by omega)).mono ?_
     rintro e W7 ⟨a6, rfl, hO7, hb7⟩
     rw [putAt2_lit _ 6 6 _ rfl (by rw [udp0_length]; omega), udp0_length] at hO7
     rw [udp0_length]
     refine ⟨But.of hb7, ?_⟩
     simp only [Act.put, sA, sB, sC]
     have r7 := (hb7.block (w.heap.size + 1 + 1) (bl9 r6)).trans r6
     have q7 := (hb7.block w3.heap.size (bl9 q6)).trans q6
     have hw7 := hw6.trans (hb7.mono hw6.size)
     have hOo := hO6.later hb7
     have hs6 := hb6.size
     have hs7 := hb7.size
     clear hOu5 hO5 hOu6 hO6 r6 q6 r5 q5 Q5
     refine anyT_one 5 rfl (by kernel_rfl) rfl ?_
     unfold Oper.wp
     go_simp
     refine ⟨But.refl _ _, ?_⟩
     have Q7 := block_cell q7
     have F7 := block_frozen q7
     refine anyT_one 6 rfl (by kernel_rfl) rfl ?_
     unfold Oper.wp
     go_simp
     refine ⟨(But.refl (fun b => b = w3.heap.size) W7).setCell (p := ⟨w3.heap.size, 8, none⟩) rfl _, ?_⟩
     clear Q7 F7
     refine anyT_done (by kernel_rfl) ?_
     have E8 : But (fun b => b = w3.heap.size) W7 (W7.setCell ⟨w3.heap.size, 8, none⟩ (.slice a6 (8 + zm.length) (8 + zm.length))) := (But.refl (fun b => b = w3.heap.size) W7).setCell (p := ⟨w3.heap.size, 8, none⟩) rfl _
     have q8 : (W7.setCell ⟨w3.heap.size, 8, none⟩ (.slice a6 (8 + zm.length) (8 + zm.length))).heap[w3.heap.size]? = some (.cells [.int .u8 tos, .int .u16 id, .bool keep, .int .u8 ttl, .int .u8 17, .int .u32 src, .int .u32 dst, .slice ao3 zo.length co3, .slice a6 (8 + zm.length) (8 + zm.length)].toArray 56 (0, 0)) := heap_set1 q7 8 _
     generalize W7.setCell ⟨w3.heap.size, 8, none⟩ (.slice a6 (8 + zm.length) (8 + zm.length)) = W8 at *
     have r8 := (E8.block (w.heap.size + 1 + 1) (by omega) (by omega)).trans r7
     have hwL : Below w.heap.size w W8 := hw7.trans (E8.below (by omega) (fun k h e => by omega))
     have hO8 := hOo.aside q7 (by decide) E8
     have hOd := hO7.aside q7 (by decide) E8
     have Q8 := block_cell q8
     have R8 := block_cell r8
     have F8 := block_frozen r8
     go_wp2_with fail
     generalize hV : World.setCell _ ⟨w.heap.size + 1 + 1, 8, none⟩ _ = V8
     have hV9 : V8 = putRow W8 (w.heap.size + 1 + 1) 0 [.int .u8 tos, .int .u16 id, .bool keep, .int .u8 ttl, .int .u8 17, .int .u32 src, .int .u32 dst, .slice ao3 zo.length co3, .slice a6 (8 + zm.length) (8 + zm.length)] := hV.symm
     have hb8 : But (fun b => b = w.heap.size + 1 + 1) W8 V8 := by rw [hV9]; exact putRow_but (E := fun b => b = w.heap.size + 1 + 1) (n := w.heap.size + 1 + 1) rfl _ _ _ _ (But.refl _ _)
     have p8 := putRow_all [.int .u8 tos, .int .u16 id, .bool keep, .int .u8 ttl, .int .u8 17, .int .u32 src, .int .u32 dst, .slice ao3 zo.length co3, .slice a6 (8 + zm.length) (8 + zm.length)] r8 rfl
     rw [← hV9] at p8
     clear hV hV9
     have P8 := block_cell p8
     have hw8 : Below w.heap.size w V8 := (hwL).trans (hb8.below (hwL).size (fun k h e => by omega))
     exact bodyPost_ret (v := .tuple #[.agg #[.int .u8 tos, .int .u16 id, .bool keep, .int .u8 ttl, .int .u8 17, .int .u32 src, .int .u32 dst, .slice ao3 zo.length co3, .slice a6 (8 + zm.length) (8 + zm.length)], .int .i64 0]) (by simp [results, Tryz.results16, go_sem, P8]) rfl (⟨hw8, .inr ⟨HF.out, _, _, _, _, rfl, (hO8.but hb8 (fun b h e => by omega)).mono hw2.size, by rw [HUd.out]; exact (hOd.but hb8 (fun b h e => by omega)).mono (by omega)⟩⟩)
    ·refine wp_enter 41 #[.agg #[.int .u8 tos, .int .u16 id, .bool keep, .int .u8 ttl, .int .u8 17, .int .u32 src, .int .u32 dst, .slice ao3 zo.length co3, .slice av (8 + zm.length) cv]] (by go_simp) ?_
     refine (udpSum_any tos id ttl 17 src dst keep _ _ (udp0 sp dp zm) W5 hB0 hOu5.rd (by rw [udp0_length]; omega) (by omega) hsr hds).mono ?_
     rintro e W6 ⟨rfl, hb6⟩
     refine ⟨But.of hb6, ?_⟩
     simp only [Act.put, sA, sB, sC]
     have Q6 := block_cell ((hb6.block w3.heap.size (bl9 q5)).trans q5)
     refine anyT_one 1 rfl (by kernel_rfl) rfl ?_
     unfold Oper.wp
     go_simp
     refine ⟨But.refl _ _, ?_⟩
     clear Q6
     have hO6 := hO5.later hb6
     have hOu6 := hOu5.later hb6
     have r6 := (hb6.block (w.heap.size + 1 + 1) (bl9 r5)).trans r5
     have q6 := (hb6.block w3.heap.size (bl9 q5)).trans q5
     have hw6 := hw5.trans (hb6.mono hw5.size)
     have hq5 := (bl9 q5)
     have hub := usm_bd src dst 17 (udp0 sp dp zm)
     refine anyT_one 4 rfl (by kernel_rfl) rfl ?_
     refine wp_enter 40 #[.slice av (8 + zm.length) cv, .int .i64 6, .int .u16 (usm src dst 17 (udp0 sp dp zm))] (by go_simp) ?_
     refine (put16_any _ (udp0 sp dp zm) 6 (usm src dst 17 (udp0 sp dp zm)) W6 h28 hOu6.rd (by omega)).mono ?_
     rintro e W7 ⟨a6, rfl, hO7, hb7⟩
     rw [putAt2_lit _ 6 6 _ rfl (by rw [udp0_length]; omega), udp0_length] at hO7
     rw [udp0_length]
     refine ⟨But.of hb7, ?_⟩
     simp only [Act.put, sA, sB, sC]
     have r7 := (hb7.block (w.heap.size + 1 + 1) (bl9 r6)).trans r6
     have q7 := (hb7.block w3.heap.size (bl9 q6)).trans q6
     have hw7 := hw6.trans (hb7.mono hw6.size)
     have hOo := hO6.later hb7
     have hs6 := hb6.size
     have hs7 := hb7.size
     clear hOu5 hO5 hOu6 hO6 r6 q6 r5 q5 Q5
     refine anyT_one 5 rfl (by kernel_rfl) rfl ?_
     unfold Oper.wp
     go_simp
     refine ⟨But.refl _ _, ?_⟩
     have Q7 := block_cell q7
     have F7 := block_frozen q7
     refine anyT_one 6 rfl (by kernel_rfl) rfl ?_
     unfold Oper.wp
     go_simp
     refine ⟨(But.refl (fun b => b = w3.heap.size) W7).setCell (p := ⟨w3.heap.size, 8, none⟩) rfl _, ?_⟩
     clear Q7 F7
     refine anyT_done (by kernel_rfl) ?_
     have E8 : But (fun b => b = w3.heap.size) W7 (W7.setCell ⟨w3.heap.size, 8, none⟩ (.slice a6 (8 + zm.length) (8 + zm.length))) := (But.refl (fun b => b = w3.heap.size) W7).setCell (p := ⟨w3.heap.size, 8, none⟩) rfl _
     have q8 : (W7.setCell ⟨w3.heap.size, 8, none⟩ (.slice a6 (8 + zm.length) (8 + zm.length))).heap[w3.heap.size]? = some (.cells [.int .u8 tos, .int .u16 id, .bool keep, .int .u8 ttl, .int .u8 17, .int .u32 src, .int .u32 dst, .slice ao3 zo.length co3, .slice a6 (8 + zm.length) (8 + zm.length)].toArray 56 (0, 0)) := heap_set1 q7 8 _
     generalize W7.setCell ⟨w3.heap.size, 8, none⟩ (.slice a6 (8 + zm.length) (8 + zm.length)) = W8 at *
     have r8 := (E8.block (w.heap.size + 1 + 1) (by omega) (by omega)).trans r7
     have hwL : Below w.heap.size w W8 := hw7.trans (E8.below (by omega) (fun k h e => by omega))
     have hO8 := hOo.aside q7 (by decide) E8
     have hOd := hO7.aside q7 (by decide) E8
     have Q8 := block_cell q8
     have R8 := block_cell r8
     have F8 := block_frozen r8
     go_wp2_with fail
     generalize hV : World.setCell _ ⟨w.heap.size + 1 + 1, 8, none⟩ _ = V8
     have hV9 : V8 = putRow W8 (w.heap.size + 1 + 1) 0 [.int .u8 tos, .int .u16 id, .bool keep, .int .u8 ttl, .int .u8 17, .int .u32 src, .int .u32 dst, .slice ao3 zo.length co3, .slice a6 (8 + zm.length) (8 + zm.length)] := hV.symm
     have hb8 : But (fun b => b = w.heap.size + 1 + 1) W8 V8 := by rw [hV9]; exact putRow_but (E := fun b => b = w.heap.size + 1 + 1) (n := w.heap.size + 1 + 1) rfl _ _ _ _ (But.refl _ _)
     have p8 := putRow_all [.int .u8 tos, .int .u16 id, .bool keep, .int .u8 ttl, .int .u8 17, .int .u32 src, .int .u32 dst, .slice ao3 zo.length co3, .slice a6 (8 + zm.length) (8 + zm.length)] r8 rfl
     rw [← hV9] at p8
     clear hV hV9
     have P8 := block_cell p8
     have hw8 : Below w.heap.size w V8 := (hwL).trans (hb8.below (hwL).size (fun k h e => by omega))
     exact bodyPost_ret (v := .tuple #[.agg #[.int .u8 tos, .int .u16 id, .bool keep, .int .u8 ttl, .int .u8 17, .int .u32 src, .int .u32 dst, .slice ao3 zo.length co3, .slice a6 (8 + zm.length) (8 + zm.length)], .int .i64 0]) (by simp [results, Tryz.results16, go_sem, P8]) rfl (⟨hw8, .inr ⟨HF.out, _, _, _, _, rfl, (hO8.but hb8 (fun b h e => by omega)).mono hw2.size, by rw [HUd.out]; exact (hOd.but hb8 (fun b h e => by omega)).mono (by omega)⟩⟩)
def pue (proto src dst : Int) (zs : List Int) : Int := if proto ≠ 17 then 12 else if zs.length < 8 then 3 else if wat zs 4 ≠ zs.length then 4 else if wat zs 6 ≠ 0 ∧ Mt.cks (psd src dst 17 zs.length ++ zs) ≠ 0 then 5 else 0
abbrev zud : List Value := [.int .u16 0, .int .u16 0, .bool false, .slice none 0 0]
theorem getAt2_lit (zs : List Int) (p : Int) (k : Nat) (hk : p = k) (h : k + 2 ≤ zs.length) : getAt2 zs p = wat zs k := by
 subst hk
 unfold getAt2
 rw [if_pos (by omega), Int.toNat_natCast]
theorem parseUdp_any (tos id ttl proto src dst : Int) (keep : Bool) (so sd : Value) (zs : List Int) (w : World) (hB : Mt.By zs) (hI : Rd w.heap.size w sd zs) (hl : 12 + zs.length ≤ 140737488355328) (hsr : 0 ≤ src ∧ src ≤ 4294967295) (hds : 0 ≤ dst ∧ dst ≤ 4294967295) :
  Calls Tryz.prog 148 #[.agg #[.int .u8 tos, .int .u16 id, .bool keep, .int .u8 ttl, .int .u8 proto, .int .u32 src, .int .u32 dst, so, sd]] w fun e w' => Below w.heap.size w w' ∧ ((pue proto src dst zs ≠ 0 ∧ e = .returned (.tuple #[.agg zud.toArray, .int .i64 (pue proto src dst zs)])) ∨
   (pue proto src dst zs = 0 ∧ ∃ ad cd, e = .returned (.tuple #[.agg #[.int .u16 (wat zs 0), .int .u16 (wat zs 2), .bool (wat zs 6 == 0), .slice ad (zs.length - 8) cd], .int .i64 0]) ∧ Ow w.heap.size w' (.slice ad (zs.length - 8) cd) (zs.drop 8))) := by
 obtain ⟨ad, cd, rfl, hl1, hm1⟩ := hI.slice
 have hb0 : Below w.heap.size w ((w.alloc (.cells #[.int .u8 tos, .int .u16 id, .bool keep, .int .u8 ttl, .int .u8 proto, .int .u32 src, .int .u32 dst, so, .slice ad zs.length cd] 56)).alloc (.cells zud.toArray 60)) := ((Below.refl _ _).alloc (Nat.le_refl _) _).alloc (by simp) _
 have p0 : ((w.alloc (.cells #[.int .u8 tos, .int .u16 id, .bool keep, .int .u8 ttl, .int .u8 proto, .int .u32 src, .int .u32 dst, so, .slice ad zs.length cd] 56)).alloc (.cells zud.toArray 60)).heap[w.heap.size]? = some (.cells #[.int .u8 tos, .int .u16 id, .bool keep, .int .u8 ttl, .int .u8 proto, .int .u32 src, .int .u32 dst, so, .slice ad zs.length cd] 56) := (Below.heap_alloc _ _ _ (by simp)).trans (heap_alloc_new w _)
 have r0 : ((w.alloc (.cells #[.int .u8 tos, .int .u16 id, .bool keep, .int .u8 ttl, .int .u8 proto, .int .u32 src, .int .u32 dst, so, .slice ad zs.length cd] 56)).alloc (.cells zud.toArray 60)).heap[w.heap.size + 1]? = some (.cells zud.toArray 60 (0, 0)) := by have := heap_alloc_new (w.alloc (.cells #[.int .u8 tos, .int .u16 id, .bool keep, .int .u8 ttl, .int .u8 proto, .int .u32 src, .int .u32 dst, so, .slice ad zs.length cd] 56)) (.cells zud.toArray 60); simpa using this
 have hs0 : ((w.alloc (.cells #[.int .u8 tos, .int .u16 id, .bool keep, .int .u8 ttl, .int .u8 proto, .int .u32 src, .int .u32 dst, so, .slice ad zs.length cd] 56)).alloc (.cells zud.toArray 60)).heap.size = w.heap.size + 1 + 1 := by simp
 have P0 := hide p0
 have R0 := hide r0
 have HS := hide hs0
 clear p0 r0 hs0
 go_enter Tryz.func148, Tryz.ntmps148
 go_wp2_with fail
 generalize (w.alloc (.cells #[.int .u8 tos, .int .u16 id, .bool keep, .int .u8 ttl, .int .u8 proto, .int .u32 src, .int .u32 dst, so, .slice ad zs.length cd] 56)).alloc (.cells zud.toArray 60) = W0 at *
 refine (get16_at _ zs hB 6 W0 (hI.below hb0)).mono ?_
 rintro e w1 ⟨rfl, n1, hn1⟩
 have hb1 : Later W0 w1 := by rw [hn1]; exact below_draw (Later.refl W0) n1
 clear hn1
 have p1 := (hb1.block w.heap.size (by have := HS.out; omega)).trans P0.out
 have r1 := (hb1.block (w.heap.size + 1) (by have := HS.out; omega)).trans R0.out
 have hw1 : Below w.heap.size w w1 := hb0.trans (hb1.mono hb0.size)
 have hs1 : w.heap.size + 1 + 1 ≤ w1.heap.size := by have := hb1.size; have := HS.out; omega
 clear hb0 hb1 P0 R0 HS
 have K1 := block_cell p1
 generalize g6 : getAt2 zs 6 = x6
 have G6 := hide g6
 clear g6
 by_cases c1 : proto = 17
 ·have t1 : (proto != 17) = false := by simp [c1]
  have C1 := hide c1
  by_cases c2 : zs.length < 8
  ·have t2 : (zs.length : Int) < 8 := by omega
   have HF : Hid (pue proto src dst zs = 3) := by show _ = _; unfold pue; rw [if_neg (by simp [C1.out]), if_pos c2]
   clear c1
   have R1 := block_cell r1
   have F1 := block_frozen r1
   go_wp2_with fail
   generalize hV : World.setCell _ ⟨w.heap.size + 1, 3, none⟩ _ = V8
   have hV9 : V8 = putRow w1 (w.heap.size + 1) 0 zud := hV.symm
   have hb8 : But (fun b => b = w.heap.size + 1) w1 V8 := by rw [hV9]; exact putRow_but (E := fun b => b = w.heap.size + 1) (n := w.heap.size + 1) rfl _ _ _ _ (But.refl _ _)
   have p8 := putRow_all zud r1 rfl
   rw [← hV9] at p8
   clear hV hV9
   have P8 := block_cell p8
   have hw8 : Below w.heap.size w V8 := (hw1).trans (hb8.below (hw1).size (fun k h e => by omega))
   exact bodyPost_ret (v := .tuple #[.agg zud.toArray, .int .i64 3]) (by simp [results, Tryz.results148, go_sem, P8]) rfl (⟨hw8, .inl ⟨by rw [HF.out]; decide, by rw [HF.out]⟩⟩)
  ·have t2 : ¬ (zs.length : Int) < 8 := by omega
   rw [getAt2_lit zs 6 6 rfl (by omega)] at G6
   clear c1
   go_wp2_with fail
   refine (get16_rd _ zs hB 4 (by omega) w1 (hI.below hw1)).mono ?_
   rintro e w2 ⟨rfl, n2, hn2⟩
   have hb2 : Later w1 w2 := by rw [hn2]; exact below_draw (Later.refl w1) n2
   clear hn2
   have p2 := (hb2.block w.heap.size (by omega)).trans p1
   have r2 := (hb2.block (w.heap.size + 1) (by omega)).trans r1
   have hw2 : Below w.heap.size w w2 := hw1.trans (hb2.mono hw1.size)
   have hs2' : w.heap.size + 1 + 1 ≤ w2.heap.size := by have := hb2.size; omega
   clear hb2 p1 r1 hw1 hs1 K1
   have K2 := block_cell p2
   have b4 := wat_bd hB 4
   by_cases c3 : wat zs 4 = zs.length
   ·have t3 : (wat zs 4 != (zs.length : Int)) = false := by simp [c3]
    by_cases c4 : x6 = 0
    ·have t4 : (x6 == 0) = true := by simp [c4]
     have HF : Hid (pue proto src dst zs = 0) := by show _ = _; unfold pue; rw [if_neg (by simp [C1.out]), if_neg c2, if_neg (by simp [c3]), if_neg (by rw [G6.out]; simp [c4])]
     clear c2 c3 c4
     obtain ⟨b, off, cap, e0, hlc, hmc, hbb, hcs⟩ := hI.cells (by omega)
     have hcl := e0
     simp at hcl
     obtain ⟨rfl, rfl⟩ := hcl
     clear e0 hcs
     have i8 : (8 : Int) ≤ zs.length := by omega
     have i8c : (zs.length : Int) ≤ cd := by omega
     go_wp2_with fail
     obtain ⟨Φ, HΦ⟩ : ∃ Φ : Array Value → World → Prop, Hid (Φ = (fun arr W => ∃ ad cd, arr = #[.int .u16 (wat zs 0), .int .u16 (wat zs 2), .bool true, .slice ad (zs.length - 8) cd] ∧ Ow (w.heap.size + 1 + 1) W (.slice ad (zs.length - 8) cd) (zs.drop 8))) := ⟨_, rfl⟩
     have hΦ : Stays Φ := by
      rw [HΦ.out]
      rintro arr A B l ⟨ad, cd, h1, h2⟩
      exact ⟨ad, cd, h1, h2.later l⟩
     refine anyR_begin (R := KR (w.heap.size + 1) 4 60 Φ) (Keep.pre _ _ _) (fun w => KR.of hΦ (Later.drew w)) 11 rfl (by kernel_rfl) (fun W1 hW1 => ?_)
     have hg1 : Wr (w.heap.size + 1) 4 60 W1 := hW1.2.1 ⟨_, r2, rfl⟩
     have hbut : ∀ v1, KR (w.heap.size + 1) 4 60 Φ W1 v1 → But (fun b => b = w.heap.size + 1) w2 v1 := fun v1 h => hW1.1.trans h.1
     have hbel : ∀ v1, KR (w.heap.size + 1) 4 60 Φ W1 v1 → Below w.heap.size w v1 := fun v1 h => hw2.trans ((hbut v1 h).below (by omega) (fun k h e => by omega))
     have hr : ∀ v1, KR (w.heap.size + 1) 4 60 Φ W1 v1 → Rd w.heap.size v1 (.slice (some ⟨b, off, none⟩) zs.length cd) zs := fun v1 h => hI.below (hbel v1 h)
     refine rV (Keep.pre _ _ _) 0 rfl rfl ⟨_, fun v h => by (go_simp; rfl), ?_⟩; simp only [Act.put, sA, sB, sC]
     refine anyR_take (Keep.pre _ _ _) 1 (.int .u16 (wat zs 0)) rfl (by kernel_rfl) (by kernel_rfl) (by kernel_rfl) (fun _ _ _ h => h) rfl (fun v1 hv1 => goes_call 146 #[.slice (some ⟨b, off, none⟩) zs.length cd, .int .i64 0] (by go_simp) ?_) ?_
     ·exact (get16_rd _ zs hB 0 (by omega) v1 (hr v1 hv1)).mono fun e w' ⟨he, q, hw⟩ => ⟨he, KR.of hΦ (by rw [hw]; exact below_draw (Later.refl v1) q)⟩
     simp only [Act.put, sA, sB, sC]
     refine rV (Keep.pre _ _ _) 2 rfl rfl ⟨_, fun v h => by (go_simp; rfl), ?_⟩; simp only [Act.put, sA, sB, sC]
     refine anyR_take (Keep.pre _ _ _) 3 (.int .u16 (wat zs 2)) rfl (by kernel_rfl) (by kernel_rfl) (by kernel_rfl) (fun _ _ _ h => h) rfl (fun v1 hv1 => goes_call 146 #[.slice (some ⟨b, off, none⟩) zs.length cd, .int .i64 2] (by go_simp) ?_) ?_
     ·exact (get16_rd _ zs hB 2 (by omega) v1 (hr v1 hv1)).mono fun e w' ⟨he, q, hw⟩ => ⟨he, KR.of hΦ (by rw [hw]; exact below_draw (Later.refl v1) q)⟩
     simp only [Act.put, sA, sB, sC]
     refine rV (Keep.pre _ _ _) 4 rfl rfl ⟨_, fun v h => by (go_simp; rfl), ?_⟩; simp only [Act.put, sA, sB, sC]
     refine rV (Keep.pre _ _ _) 5 rfl rfl ⟨_, fun v h => by (go_simp; rfl), ?_⟩; simp only [Act.put, sA, sB, sC]
     refine rV (Keep.pre _ _ _) 6 rfl rfl ⟨_, fun v h => by (go_simp; rfl), ?_⟩; simp only [Act.put, sA, sB, sC]
     have hs8 : ∀ v1, KR (w.heap.size + 1) 4 60 Φ W1 v1 → Rd w.heap.size v1 (.slice (if cd = 8 then some (⟨b, off, none⟩ : Addr) else some ⟨b, off + 8, none⟩) (zs.length - 8) (cd - 8)) (zs.drop 8) := fun v1 h => (hr v1 h).cutAt 8 (by omega)
     generalize (if cd = 8 then some (⟨b, off, none⟩ : Addr) else some ⟨b, off + 8, none⟩) = ad8 at *
     refine anyR_one 7 rfl (by kernel_rfl) rfl (fun W2 hW2 => ?_)
     refine wp_enter 84 #[.slice ad8 (zs.length - 8) (cd - 8)] (by go_simp) ?_
     refine (cloneb_any _ (zs.drop 8) W2 (by simp; omega) ((hs8 W2 hW2).mono (hbel W2 hW2).size)).mono ?_
     rw [List.length_drop]
     rintro e W5 ⟨a5, c5, rfl, hO5, hb5⟩
     have hW15 := hW2.trans (KR.of hΦ hb5)
     have hs2 : w.heap.size + 1 + 1 ≤ W2.heap.size := Nat.le_trans hs2' (hbut W2 hW2).size
     refine ⟨KR.of hΦ hb5, ?_⟩
     simp only [Act.put, sA, sB, sC]
     refine rV (Keep.pre _ _ _) 8 rfl rfl ⟨_, fun v h => by (go_simp; rfl), ?_⟩; simp only [Act.put, sA, sB, sC]
     refine anyR_one 9 rfl (by kernel_rfl) rfl (fun W6 hW6 => ?_)
     have hW16 := hW15.trans hW6
     have hg6 := hW16.2.1 hg1
     have hg6' := hg6
     obtain ⟨cur, hcur, hsz⟩ := hg6'
     have k6 : ∀ j, W6.cell? ⟨w.heap.size + 1, j, none⟩ = cur[j]? := block_cell hcur
     have f6 : ∀ j, W6.frozen? ⟨w.heap.size + 1, j, none⟩ = false := block_frozen hcur
     unfold Oper.wp
     go_simp
     generalize hV7 : World.setCell _ ⟨w.heap.size + 1, 3, none⟩ _ = V7
     have hV8 : V7 = putRow W6 (w.heap.size + 1) 0 [.int .u16 (wat zs 0), .int .u16 (wat zs 2), .bool true, .slice a5 (zs.length - 8) c5] := hV7.symm
     have hSt := KR.store (Φ := Φ) [.int .u16 (wat zs 0), .int .u16 (wat zs 2), .bool true, .slice a5 (zs.length - 8) c5] hg6 rfl (by rw [HΦ.out]; exact ⟨a5, c5, rfl, ((hO5.but hW6.1 (fun b h e => by omega)).but (putRow_rb (rb := w.heap.size + 1) _ _) (fun b h e => by omega)).mono hs2⟩)
     rw [← hV8] at hSt
     clear hV7 hV8 k6 f6
     refine ⟨hSt.1, ?_⟩
     refine rV (Keep.pre _ _ _) 10 rfl rfl ⟨_, fun v h => by (go_simp; rfl), ?_⟩; simp only [Act.put, sA, sB, sC]
     refine anyR_done (by kernel_rfl) (fun W8 hW8 => ?_)
     obtain ⟨arr, hh8, hP8⟩ := hW8.2.2 hSt.2
     have hw8 := hbel W8 ((hW16.trans hSt.1).trans hW8)
     clear hSt hr hs8 hbut
     rw [HΦ.out] at hP8
     obtain ⟨ad8', cd8, rfl, hO8⟩ := hP8
     have r8 := block_cell hh8
     go_wp2_with fail
     exact bodyPost_ret (v := .tuple #[.agg #[.int .u16 (wat zs 0), .int .u16 (wat zs 2), .bool true, .slice ad8' (zs.length - 8) cd8], .int .i64 0]) (by simp [results, Tryz.results148, go_sem, r8]) rfl ⟨hw8, .inr ⟨HF.out, ad8', cd8, by rw [G6.out, t4], hO8.mono (by omega)⟩⟩
    ·have t4 : (x6 == 0) = false := by simp [c4]
     have hBs := (By_psd src dst 17 zs.length hsr hds (by omega)).append hB
     have hln : (psd src dst 17 zs.length ++ zs).length = 12 + zs.length := by rw [List.length_append, psd_length]
     have hBS := hide hBs
     have HLN := hide hln
     have C3 := hide c3
     have C4 := hide c4
     have C2 := hide c2
     clear hBs hln c3 c4 c2
     go_wp2_with fail
     rw [C1.out]
     refine (summed_any tos id ttl 17 src dst keep _ _ zs w2 ((hI.below hw2).mono hw2.size) hl hsr hds).mono ?_
     rintro e w3 ⟨a3, c3, rfl, hO3, hb3⟩
     go_wp2_with fail
     rw [← HLN.out] at hO3 ⊢
     refine (good_any _ _ hBS.out (by rw [HLN.out]; exact hl) w3 hO3.rd).mono ?_
     rintro e w4 ⟨rfl, hb4⟩
     have r4 := ((hb3.trans (hb4.mono hb3.size)).block (w.heap.size + 1) (by omega)).trans r2
     have hw4 : Below w.heap.size w w4 := hw2.trans ((hb3.trans (hb4.mono hb3.size)).mono hw2.size)
     have hs4 : w.heap.size + 1 + 1 ≤ w4.heap.size := by have := hb3.size; have := hb4.size; omega
     clear hO3 hb3 hb4 r2 p2 K2
     by_cases c5 : Mt.cks (psd src dst 17 zs.length ++ zs) = 0
     ·have t5 : (Mt.cks (psd src dst 17 zs.length ++ zs) == 0) = true := by simp [c5]
      have HF : Hid (pue proto src dst zs = 0) := by show _ = _; unfold pue; rw [if_neg (by simp [C1.out]), if_neg C2.out, if_neg (by simp [C3.out]), if_neg (by simp [c5])]
      clear c5
      obtain ⟨b, off, cap, e0, hlc, hmc, hbb, hcs⟩ := hI.cells (by omega)
      have hcl := e0
      simp at hcl
      obtain ⟨rfl, rfl⟩ := hcl
      clear e0 hcs
      have i8 : (8 : Int) ≤ zs.length := by omega
      have i8c : (zs.length : Int) ≤ cd := by omega
      go_wp2_with fail
      obtain ⟨Φ, HΦ⟩ : ∃ Φ : Array Value → World → Prop, Hid (Φ = (fun arr W => ∃ ad cd, arr = #[.int .u16 (wat zs 0), .int .u16 (wat zs 2), .bool false, .slice ad (zs.length - 8) cd] ∧ Ow (w.heap.size + 1 + 1) W (.slice ad (zs.length - 8) cd) (zs.drop 8))) := ⟨_, rfl⟩
      have hΦ : Stays Φ := by
       rw [HΦ.out]
       rintro arr A B l ⟨ad, cd, h1, h2⟩
       exact ⟨ad, cd, h1, h2.later l⟩
      refine anyR_begin (R := KR (w.heap.size + 1) 4 60 Φ) (Keep.pre _ _ _) (fun w => KR.of hΦ (Later.drew w)) 11 rfl (by kernel_rfl) (fun W1 hW1 => ?_)
      have hg1 : Wr (w.heap.size + 1) 4 60 W1 := hW1.2.1 ⟨_, r4, rfl⟩
      have hbut : ∀ v1, KR (w.heap.size + 1) 4 60 Φ W1 v1 → But (fun b => b = w.heap.size + 1) w4 v1 := fun v1 h => hW1.1.trans h.1
      have hbel : ∀ v1, KR (w.heap.size + 1) 4 60 Φ W1 v1 → Below w.heap.size w v1 := fun v1 h => hw4.trans ((hbut v1 h).below (by omega) (fun k h e => by omega))
      have hr : ∀ v1, KR (w.heap.size + 1) 4 60 Φ W1 v1 → Rd w.heap.size v1 (.slice (some ⟨b, off, none⟩) zs.length cd) zs := fun v1 h => hI.below (hbel v1 h)
      refine rV (Keep.pre _ _ _) 0 rfl rfl ⟨_, fun v h => by (go_simp; rfl), ?_⟩; simp only [Act.put, sA, sB, sC]
      refine anyR_take (Keep.pre _ _ _) 1 (.int .u16 (wat zs 0)) rfl (by kernel_rfl) (by kernel_rfl) (by kernel_rfl) (fun _ _ _ h => h) rfl (fun v1 hv1 => goes_call 146 #[.slice (some ⟨b, off, none⟩) zs.length cd, .int .i64 0] (by go_simp) ?_) ?_
      ·exact (get16_rd _ zs hB 0 (by omega) v1 (hr v1 hv1)).mono fun e w' ⟨he, q, hw⟩ => ⟨he, KR.of hΦ (by rw [hw]; exact below_draw (Later.refl v1) q)⟩
      simp only [Act.put, sA, sB, sC]
      refine rV (Keep.pre _ _ _) 2 rfl rfl ⟨_, fun v h => by (go_simp; rfl), ?_⟩; simp only [Act.put, sA, sB, sC]
      refine anyR_take (Keep.pre _ _ _) 3 (.int .u16 (wat zs 2)) rfl (by kernel_rfl) (by kernel_rfl) (by kernel_rfl) (fun _ _ _ h => h) rfl (fun v1 hv1 => goes_call 146 #[.slice (some ⟨b, off, none⟩) zs.length cd, .int .i64 2] (by go_simp) ?_) ?_
      ·exact (get16_rd _ zs hB 2 (by omega) v1 (hr v1 hv1)).mono fun e w' ⟨he, q, hw⟩ => ⟨he, KR.of hΦ (by rw [hw]; exact below_draw (Later.refl v1) q)⟩
      simp only [Act.put, sA, sB, sC]
      refine rV (Keep.pre _ _ _) 4 rfl rfl ⟨_, fun v h => by (go_simp; rfl), ?_⟩; simp only [Act.put, sA, sB, sC]
      refine rV (Keep.pre _ _ _) 5 rfl rfl ⟨_, fun v h => by (go_simp; rfl), ?_⟩; simp only [Act.put, sA, sB, sC]
      refine rV (Keep.pre _ _ _) 6 rfl rfl ⟨_, fun v h => by (go_simp; rfl), ?_⟩; simp only [Act.put, sA, sB, sC]
      have hs8 : ∀ v1, KR (w.heap.size + 1) 4 60 Φ W1 v1 → Rd w.heap.size v1 (.slice (if cd = 8 then some (⟨b, off, none⟩ : Addr) else some ⟨b, off + 8, none⟩) (zs.length - 8) (cd - 8)) (zs.drop 8) := fun v1 h => (hr v1 h).cutAt 8 (by omega)
      generalize (if cd = 8 then some (⟨b, off, none⟩ : Addr) else some ⟨b, off + 8, none⟩) = ad8 at *
      refine anyR_one 7 rfl (by kernel_rfl) rfl (fun W2 hW2 => ?_)
      refine wp_enter 84 #[.slice ad8 (zs.length - 8) (cd - 8)] (by go_simp) ?_
      refine (cloneb_any _ (zs.drop 8) W2 (by simp; omega) ((hs8 W2 hW2).mono (hbel W2 hW2).size)).mono ?_
      rw [List.length_drop]
      rintro e W5 ⟨a5, c5, rfl, hO5, hb5⟩
      have hW15 := hW2.trans (KR.of hΦ hb5)
      have hs2 : w.heap.size + 1 + 1 ≤ W2.heap.size := Nat.le_trans hs4 (hbut W2 hW2).size
      refine ⟨KR.of hΦ hb5, ?_⟩
      simp only [Act.put, sA, sB, sC]
      refine rV (Keep.pre _ _ _) 8 rfl rfl ⟨_, fun v h => by (go_simp; rfl), ?_⟩; simp only [Act.put, sA, sB, sC]
      refine anyR_one 9 rfl (by kernel_rfl) rfl (fun W6 hW6 => ?_)
      have hW16 := hW15.trans hW6
      have hg6 := hW16.2.1 hg1
      have hg6' := hg6
      obtain ⟨cur, hcur, hsz⟩ := hg6'
      have k6 : ∀ j, W6.cell? ⟨w.heap.size + 1, j, none⟩ = cur[j]? := block_cell hcur
      have f6 : ∀ j, W6.frozen? ⟨w.heap.size + 1, j, none⟩ = false := block_frozen hcur
      unfold Oper.wp
      go_simp
      generalize hV7 : World.setCell _ ⟨w.heap.size + 1, 3, none⟩ _ = V7
      have hV8 : V7 = putRow W6 (w.heap.size + 1) 0 [.int .u16 (wat zs 0), .int .u16 (wat zs 2), .bool false, .slice a5 (zs.length - 8) c5] := hV7.symm
      have hSt := KR.store (Φ := Φ) [.int .u16 (wat zs 0), .int .u16 (wat zs 2), .bool false, .slice a5 (zs.length - 8) c5] hg6 rfl (by rw [HΦ.out]; exact ⟨a5, c5, rfl, ((hO5.but hW6.1 (fun b h e => by omega)).but (putRow_rb (rb := w.heap.size + 1) _ _) (fun b h e => by omega)).mono hs2⟩)
      rw [← hV8] at hSt
      clear hV7 hV8 k6 f6
      refine ⟨hSt.1, ?_⟩
      refine rV (Keep.pre _ _ _) 10 rfl rfl ⟨_, fun v h => by (go_simp; rfl), ?_⟩; simp only [Act.put, sA, sB, sC]
      refine anyR_done (by kernel_rfl) (fun W8 hW8 => ?_)
      obtain ⟨arr, hh8, hP8⟩ := hW8.2.2 hSt.2
      have hw8 := hbel W8 ((hW16.trans hSt.1).trans hW8)
      clear hSt hr hs8 hbut
      rw [HΦ.out] at hP8
      obtain ⟨ad8', cd8, rfl, hO8⟩ := hP8
      have r8 := block_cell hh8
      go_wp2_with fail
      exact bodyPost_ret (v := .tuple #[.agg #[.int .u16 (wat zs 0), .int .u16 (wat zs 2), .bool false, .slice ad8' (zs.length - 8) cd8], .int .i64 0]) (by simp [results, Tryz.results148, go_sem, r8]) rfl ⟨hw8, .inr ⟨HF.out, ad8', cd8, by rw [G6.out, t4], hO8.mono (by omega)⟩⟩
     ·have t5 : (Mt.cks (psd src dst 17 zs.length ++ zs) == 0) = false := by simp [c5]
      have HF : Hid (pue proto src dst zs = 5) := by show _ = _; unfold pue; rw [if_neg (by simp [C1.out]), if_neg C2.out, if_neg (by simp [C3.out]), if_pos ⟨by rw [G6.out]; exact C4.out, c5⟩]
      clear c5
      have R1 := block_cell r4
      have F1 := block_frozen r4
      go_wp2_with fail
      generalize hV : World.setCell _ ⟨w.heap.size + 1, 3, none⟩ _ = V8
      have hV9 : V8 = putRow w4 (w.heap.size + 1) 0 zud := hV.symm
      have hb8 : But (fun b => b = w.heap.size + 1) w4 V8 := by rw [hV9]; exact putRow_but (E := fun b => b = w.heap.size + 1) (n := w.heap.size + 1) rfl _ _ _ _ (But.refl _ _)
      have p8 := putRow_all zud r4 rfl
      rw [← hV9] at p8
      clear hV hV9
      have P8 := block_cell p8
      have hw8 : Below w.heap.size w V8 := (hw4).trans (hb8.below (hw4).size (fun k h e => by omega))
      exact bodyPost_ret (v := .tuple #[.agg zud.toArray, .int .i64 5]) (by simp [results, Tryz.results148, go_sem, P8]) rfl (⟨hw8, .inl ⟨by rw [HF.out]; decide, by rw [HF.out]⟩⟩)
   ·have t3 : (wat zs 4 != (zs.length : Int)) = true := by simp [c3]
    have HF : Hid (pue proto src dst zs = 4) := by show _ = _; unfold pue; rw [if_neg (by simp [C1.out]), if_neg c2, if_pos c3]
    clear c2 c3
    have R1 := block_cell r2
    have F1 := block_frozen r2
    go_wp2_with fail
    generalize hV : World.setCell _ ⟨w.heap.size + 1, 3, none⟩ _ = V8
    have hV9 : V8 = putRow w2 (w.heap.size + 1) 0 zud := hV.symm
    have hb8 : But (fun b => b = w.heap.size + 1) w2 V8 := by rw [hV9]; exact putRow_but (E := fun b => b = w.heap.size + 1) (n := w.heap.size + 1) rfl _ _ _ _ (But.refl _ _)
    have p8 := putRow_all zud r2 rfl
    rw [← hV9] at p8
    clear hV hV9
    have P8 := block_cell p8
    have hw8 : Below w.heap.size w V8 := (hw2).trans (hb8.below (hw2).size (fun k h e => by omega))
    exact bodyPost_ret (v := .tuple #[.agg zud.toArray, .int .i64 4]) (by simp [results, Tryz.results148, go_sem, P8]) rfl (⟨hw8, .inl ⟨by rw [HF.out]; decide, by rw [HF.out]⟩⟩)
 ·have t1 : (proto != 17) = true := by simp [c1]
  have HF : Hid (pue proto src dst zs = 12) := by show _ = _; unfold pue; rw [if_pos c1]
  clear c1
  have R1 := block_cell r1
  have F1 := block_frozen r1
  go_wp2_with fail
  generalize hV : World.setCell _ ⟨w.heap.size + 1, 3, none⟩ _ = V8
  have hV9 : V8 = putRow w1 (w.heap.size + 1) 0 zud := hV.symm
  have hb8 : But (fun b => b = w.heap.size + 1) w1 V8 := by rw [hV9]; exact putRow_but (E := fun b => b = w.heap.size + 1) (n := w.heap.size + 1) rfl _ _ _ _ (But.refl _ _)
  have p8 := putRow_all zud r1 rfl
  rw [← hV9] at p8
  clear hV hV9
  have P8 := block_cell p8
  have hw8 : Below w.heap.size w V8 := (hw1).trans (hb8.below (hw1).size (fun k h e => by omega))
  exact bodyPost_ret (v := .tuple #[.agg zud.toArray, .int .i64 12]) (by simp [results, Tryz.results148, go_sem, P8]) rfl (⟨hw8, .inl ⟨by rw [HF.out]; decide, by rw [HF.out]⟩⟩)
theorem run_insq {P : Program} {q : IntKind} {t kt et : TypeId} (ht : P.underlying t = some (.map kt et)) (hk : P.underlying kt = some (.int q)) {w : World} {b : Nat} {es : Array MapEntry} {c : Nat} (hb : w.heap[b]? = some (.map es c)) (z : Int) (v : Value) (hf : Instr.findNow (.int q) (.int q z) es.toList 0 = some none) :
  ∃ w', (Instr.mapUpdate t (.map (some b)) (.int q z) v).run P w = .ok () w' ∧ w'.heap[b]? = some (.map (es.push ⟨.int q z, v, c⟩) (c + 1)) ∧ ∀ n, n ≤ b → Below n w w' := by
 have hc : (Instr.checkKey false 10000 kt (.int q z)).run P w = .ok () w := MapKept.run_checkKey (k := .int q z) hk (by simp [MapKept.IsKey]) false 9999
 have hlt := (bl9 hb)
 refine ⟨{ w with heap := w.heap.setIfInBounds b (.map (es.push ⟨.int q z, v, c⟩) (c + 1)) }, ?_, ?_, fun n hn => ⟨rfl, rfl, rfl, by simp, fun i hi => ?_⟩⟩
 ·simp [Instr.mapUpdate, run_underlying ht, MapKept.run_getObj_map hb, hc, MapKept.run_findKey hk hf, MapKept.run_setObj_map _ hb, Result.andThen]
 ·simp [hlt]
 ·rw [Array.getElem?_setIfInBounds_ne (by omega)]
theorem run_findq {P : Program} {q : IntKind} {t kt et : TypeId} (ht : P.underlying t = some (.map kt et)) (hk : P.underlying kt = some (.int q)) {w : World} {b : Nat} {es : Array MapEntry} {c : Nat} (hb : w.heap[b]? = some (.map es c)) (z : Int) (v : Value) (ok : Bool)
  (hf : ((∃ j, Instr.findNow (.int q) (.int q z) es.toList 0 = some (some (j, v))) ∧ ok = true ∨ (Instr.findNow (.int q) (.int q z) es.toList 0 = some none ∧ (zeroValue et).run P w = .ok v w ∧ ok = false))) : (Instr.lookup t (.map (some b)) (.int q z) true).run P w = .ok (.tuple #[v, .bool ok]) w := by
 have hc : (Instr.checkKey es.isEmpty 10000 kt (.int q z)).run P w = .ok () w := MapKept.run_checkKey (k := .int q z) hk (by simp [MapKept.IsKey]) _ 9999
 rcases hf with ⟨⟨j, hf⟩, rfl⟩ | ⟨hf, hz, rfl⟩
 ·simp [Instr.lookup, run_underlying ht, MapKept.run_getObj_map hb, hc, MapKept.run_findKey hk hf, Result.andThen]
 ·simp [Instr.lookup, run_underlying ht, MapKept.run_getObj_map hb, hc, MapKept.run_findKey hk hf, hz, Result.andThen]
def rdE : Array MapEntry := #[⟨.int .u8 6, .agg #[.func (.func 100) #[] #[], .func (.func 101) #[] #[]], 0⟩, ⟨.int .u8 17, .agg #[.func (.func 102) #[] #[], .func (.func 101) #[] #[]], 1⟩, ⟨.int .u8 1, .agg #[.func (.func 103) #[] #[], .func (.func 104) #[] #[]], 2⟩, ⟨.int .u8 47, .agg #[.func (.func 105) #[] #[], .func (.func 106) #[] #[]], 3⟩]
theorem readers_any (w : World) : Calls Tryz.prog 53 #[] w fun e w' => ∃ b, e = .returned (.map (some b)) ∧ Below w.heap.size w w' ∧ w'.heap[b]? = some (.map rdE 4) := by
 have hmm := @run_makeMap Tryz.prog
 have hb0 : Below w.heap.size w (w.alloc (.map #[] 0)) := (Below.refl _ _).alloc (Nat.le_refl _) _
 have hM0 := heap_alloc_new w (.map #[] 0)
 obtain ⟨w1, r1, m1, l1⟩ := run_insq (P := Tryz.prog) Tryz.underlying127 Tryz.underlying5 hM0 6 (.agg #[.func (.func 100) #[] #[], .func (.func 101) #[] #[]]) (by kernel_rfl)
 obtain ⟨w2, r2, m2, l2⟩ := run_insq (P := Tryz.prog) Tryz.underlying127 Tryz.underlying5 m1 17 (.agg #[.func (.func 102) #[] #[], .func (.func 101) #[] #[]]) (by kernel_rfl)
 obtain ⟨w3, r3, m3, l3⟩ := run_insq (P := Tryz.prog) Tryz.underlying127 Tryz.underlying5 m2 1 (.agg #[.func (.func 103) #[] #[], .func (.func 104) #[] #[]]) (by kernel_rfl)
 obtain ⟨w4, r4, m4, l4⟩ := run_insq (P := Tryz.prog) Tryz.underlying127 Tryz.underlying5 m3 47 (.agg #[.func (.func 105) #[] #[], .func (.func 106) #[] #[]]) (by kernel_rfl)
 have hb4 : Below w.heap.size w w4 := (((hb0.trans (l1 _ (Nat.le_refl _))).trans (l2 _ (Nat.le_refl _))).trans (l3 _ (Nat.le_refl _))).trans (l4 _ (Nat.le_refl _))
 clear m1 m2 m3 l1 l2 l3 l4 hM0 hb0
 have M4 := hide m4
 clear m4
 go_enter Tryz.func53, Tryz.ntmps53
 go_wp2_with fail
 go_ret
 exact ⟨_, rfl, hb4, M4.out⟩
theorem look_udp {w : World} {b : Nat} (hb : w.heap[b]? = some (.map rdE 4)) : (Instr.lookup 127 (.map (some b)) (.int .u8 17) true).run Tryz.prog w = .ok (.tuple #[.agg #[.func (.func 102) #[] #[], .func (.func 101) #[] #[]], .bool true]) w :=
 run_findq Tryz.underlying127 Tryz.underlying5 hb 17 _ true (.inl ⟨⟨1, by kernel_rfl⟩, rfl⟩)
theorem look_tcp {w : World} {b : Nat} (hb : w.heap[b]? = some (.map rdE 4)) : (Instr.lookup 127 (.map (some b)) (.int .u8 6) true).run Tryz.prog w = .ok (.tuple #[.agg #[.func (.func 100) #[] #[], .func (.func 101) #[] #[]], .bool true]) w :=
 run_findq Tryz.underlying127 Tryz.underlying5 hb 6 _ true (.inl ⟨⟨0, by kernel_rfl⟩, rfl⟩)
theorem look_icmp {w : World} {b : Nat} (hb : w.heap[b]? = some (.map rdE 4)) : (Instr.lookup 127 (.map (some b)) (.int .u8 1) true).run Tryz.prog w = .ok (.tuple #[.agg #[.func (.func 103) #[] #[], .func (.func 104) #[] #[]], .bool true]) w :=
 run_findq Tryz.underlying127 Tryz.underlying5 hb 1 _ true (.inl ⟨⟨2, by kernel_rfl⟩, rfl⟩)
theorem look_gre {w : World} {b : Nat} (hb : w.heap[b]? = some (.map rdE 4)) : (Instr.lookup 127 (.map (some b)) (.int .u8 47) true).run Tryz.prog w = .ok (.tuple #[.agg #[.func (.func 105) #[] #[], .func (.func 106) #[] #[]], .bool true]) w :=
 run_findq Tryz.underlying127 Tryz.underlying5 hb 47 _ true (.inl ⟨⟨3, by kernel_rfl⟩, rfl⟩)
theorem told_any (tos id ttl proto src dst a b e0 : Int) (keep : Bool) (so sd : Value) (w : World) : Calls Tryz.prog 54 #[.agg #[.int .u8 tos, .int .u16 id, .bool keep, .int .u8 ttl, .int .u8 proto, .int .u32 src, .int .u32 dst, so, sd], .agg #[.int .u16 a, .int .u16 b], .int .i64 e0] w fun e w' => Below w.heap.size w w' ∧ ((e0 ≠ 0 ∧ e = .returned (.tuple #[.agg #[.int .u8 0, .int .u32 0, .int .u32 0, .int .u16 0, .int .u16 0], .int .i64 e0])) ∨ (e0 = 0 ∧ e = .returned (.tuple #[.agg #[.int .u8 proto, .int .u32 src, .int .u32 dst, .int .u16 a, .int .u16 b], .int .i64 0]))) := by
 by_cases h : e0 = 0
 ·subst h
  go_enter Tryz.func54, Tryz.ntmps54
  go_wp2_with fail
  exact bodyPost_ret (v := .tuple #[.agg #[.int .u8 proto, .int .u32 src, .int .u32 dst, .int .u16 a, .int .u16 b], .int .i64 0]) (by simp [results, Tryz.results54, go_sem]) rfl ⟨(((Below.refl _ _).alloc (Nat.le_refl _) _).alloc (by simp) _).alloc (by simp; omega) _, .inr ⟨trivial, rfl⟩⟩
 ·have h1 : (e0 != 0) = true := by simp [h]
  have H := hide h
  clear h
  go_enter Tryz.func54, Tryz.ntmps54
  go_wp2_with fail
  exact bodyPost_ret (v := .tuple #[.agg #[.int .u8 0, .int .u32 0, .int .u32 0, .int .u16 0, .int .u16 0], .int .i64 e0]) (by simp [results, Tryz.results54, go_sem]) rfl ⟨(((Below.refl _ _).alloc (Nat.le_refl _) _).alloc (by simp) _).alloc (by simp; omega) _, .inl ⟨H.out, rfl⟩⟩
def otv (e0 proto src dst a b : Int) : Value := if e0 = 0 then .agg #[.int .u8 proto, .int .u32 src, .int .u32 dst, .int .u16 a, .int .u16 b] else .agg #[.int .u8 0, .int .u32 0, .int .u32 0, .int .u16 0, .int .u16 0]
theorem ofUdp_any (tos id ttl proto src dst : Int) (keep : Bool) (so sd : Value) (zd : List Int) (w : World) (hB : Mt.By zd) (hI : Rd w.heap.size w sd zd) (hl : 12 + zd.length ≤ 140737488355328) (hsr : 0 ≤ src ∧ src ≤ 4294967295) (hds : 0 ≤ dst ∧ dst ≤ 4294967295) :
  Calls Tryz.prog 102 #[.agg #[.int .u8 tos, .int .u16 id, .bool keep, .int .u8 ttl, .int .u8 proto, .int .u32 src, .int .u32 dst, so, sd]] w fun e w' => Below w.heap.size w w' ∧ ∃ a b : Int, e = .returned (.tuple #[.agg #[.int .u16 a, .int .u16 b], .int .i64 (pue proto src dst zd)]) ∧ (pue proto src dst zd = 0 → a = wat zd 0 ∧ b = wat zd 2) := by
 obtain ⟨ad, cd, rfl, _, _⟩ := hI.slice
 have hb0 : Below w.heap.size w ((w.alloc (.cells #[.int .u8 tos, .int .u16 id, .bool keep, .int .u8 ttl, .int .u8 proto, .int .u32 src, .int .u32 dst, so, .slice ad zd.length cd] 56)).alloc (.cells #[.int .u16 0, .int .u16 0] 130)) := ((Below.refl _ _).alloc (Nat.le_refl _) _).alloc (by simp) _
 have r0 := heap_alloc_new (w.alloc (.cells #[.int .u8 tos, .int .u16 id, .bool keep, .int .u8 ttl, .int .u8 proto, .int .u32 src, .int .u32 dst, so, .slice ad zd.length cd] 56)) (.cells #[.int .u16 0, .int .u16 0] 130)
 rw [World.size_alloc] at r0
 have R0 := hide r0
 clear r0
 go_enter Tryz.func102, Tryz.ntmps102
 go_wp2_with fail
 generalize (w.alloc (.cells #[.int .u8 tos, .int .u16 id, .bool keep, .int .u8 ttl, .int .u8 proto, .int .u32 src, .int .u32 dst, so, .slice ad zd.length cd] 56)).alloc (.cells #[.int .u16 0, .int .u16 0] 130) = w0 at *
 refine (parseUdp_any tos id ttl proto src dst keep _ _ zd w0 hB ((hI.below hb0).mono hb0.size) (by omega) hsr hds).mono ?_
 rintro e w1 ⟨hb1, ⟨hf, rfl⟩ | ⟨hf, a1, c1, rfl, hO⟩⟩
 ·rw [show zud.toArray = #[.int .u16 0, .int .u16 0, .bool false, .slice none 0 0] from rfl]
  generalize hpu : pue proto src dst zd = f at *
  have HPU := hide hpu
  have HF := hide hf
  clear hf hpu
  have lq : Later w1 (w1.alloc (.cells #[.int .u16 0, .int .u16 0, .bool false, .slice none 0 0] 60)) := (Below.refl _ _).alloc (Nat.le_refl _) _
  have l1 := Later.trans hb1 lq
  have r1 := (l1.block _ (bl9 R0.out)).trans R0.out
  have hw1 := hb0.trans (l1.mono hb0.size)
  have kX := block_cell r1
  have fX := block_frozen r1
  go_wp2_with fail
  generalize w1.alloc (.cells #[.int .u16 0, .int .u16 0, .bool false, .slice none 0 0] 60) = W at *
  generalize hV : World.setCell _ ⟨w.heap.size + 1, 1, none⟩ _ = V
  have hV8 : V = putRow W (w.heap.size + 1) 0 [.int .u16 (0), .int .u16 (0)] := hV.symm
  have hbV : But (fun b => b = w.heap.size + 1) W V := by rw [hV8]; exact putRow_but (E := fun b => b = w.heap.size + 1) (n := w.heap.size + 1) rfl _ _ _ _ (But.refl _ _)
  have pV := putRow_all [Value.int .u16 (0), .int .u16 (0)] r1 rfl
  rw [← hV8] at pV
  clear hV hV8 kX fX
  have PV := block_cell pV
  have hwV : Below w.heap.size w V := hw1.trans (hbV.below hw1.size (fun k hk e => by omega))
  exact bodyPost_ret (v := .tuple #[.agg #[.int .u16 (0), .int .u16 (0)], .int .i64 f]) (by simp [results, Tryz.results102, go_sem, PV]) rfl ⟨hwV, _, _, by rw [HPU.out], fun h => absurd (HPU.out.symm.trans h) HF.out⟩
 ·have HF := hide hf
  clear hf
  have lq : Later w1 (w1.alloc (.cells #[.int .u16 (wat zd 0), .int .u16 (wat zd 2), .bool (wat zd 6 == 0), .slice a1 (zd.length - 8) c1] 60)) := (Below.refl _ _).alloc (Nat.le_refl _) _
  have l1 := Later.trans hb1 lq
  have r1 := (l1.block _ (bl9 R0.out)).trans R0.out
  have hw1 := hb0.trans (l1.mono hb0.size)
  have kX := block_cell r1
  have fX := block_frozen r1
  go_wp2_with fail
  generalize w1.alloc (.cells #[.int .u16 (wat zd 0), .int .u16 (wat zd 2), .bool (wat zd 6 == 0), .slice a1 (zd.length - 8) c1] 60) = W at *
  generalize hV : World.setCell _ ⟨w.heap.size + 1, 1, none⟩ _ = V
  have hV8 : V = putRow W (w.heap.size + 1) 0 [.int .u16 (wat zd 0), .int .u16 (wat zd 2)] := hV.symm
  have hbV : But (fun b => b = w.heap.size + 1) W V := by rw [hV8]; exact putRow_but (E := fun b => b = w.heap.size + 1) (n := w.heap.size + 1) rfl _ _ _ _ (But.refl _ _)
  have pV := putRow_all [Value.int .u16 (wat zd 0), .int .u16 (wat zd 2)] r1 rfl
  rw [← hV8] at pV
  clear hV hV8 kX fX
  have PV := block_cell pV
  have hwV : Below w.heap.size w V := hw1.trans (hbV.below hw1.size (fun k hk e => by omega))
  exact bodyPost_ret (v := .tuple #[.agg #[.int .u16 (wat zd 0), .int .u16 (wat zd 2)], .int .i64 0]) (by simp [results, Tryz.results102, go_sem, PV]) rfl ⟨hwV, _, _, by rw [HF.out], fun _ => ⟨rfl, rfl⟩⟩
theorem run_store_fn (P : Program) (w : World) (a : Addr) (m : Mode) (f : Fn) (xs ys : Array Value) : (store a (.func f xs ys) m).run P w = stored P w a (.func f xs ys) m := run_store P w a _ m rfl
theorem otv_ok (proto src dst a b : Int) : otv 0 proto src dst a b = .agg #[.int .u8 proto, .int .u32 src, .int .u32 dst, .int .u16 a, .int .u16 b] := rfl
theorem otv_no {e0 : Int} (h : e0 ≠ 0) (proto src dst a b : Int) : otv e0 proto src dst a b = .agg #[.int .u8 0, .int .u32 0, .int .u32 0, .int .u16 0, .int .u16 0] := if_neg h
theorem of_gen (pr x y e0 : Int) (fw fb : FuncId) (tos id ttl src dst : Int) (keep : Bool) (so : Value) (ad : Option Addr) (ld cd : Nat) (w : World)
  (hlk0 : ∀ (w : World) (b : Nat), w.heap[b]? = some (.map rdE 4) → (Instr.lookup 127 (.map (some b)) (.int .u8 pr) true).run Tryz.prog w = .ok (.tuple #[.agg #[.func (.func fw) #[] #[], .func (.func fb) #[] #[]], .bool true]) w)
  (hcf : ∀ (args : Array Value) (w : World), (callFunc fw args).run Tryz.prog w = .ok (.enter fw args) w)
  (hf : ∀ w', Below w.heap.size w w' → Calls Tryz.prog fw #[.agg #[.int .u8 tos, .int .u16 id, .bool keep, .int .u8 ttl, .int .u8 pr, .int .u32 src, .int .u32 dst, so, .slice ad ld cd]] w' fun e w'' => Below w'.heap.size w' w'' ∧ ∃ a b : Int, e = .returned (.tuple #[.agg #[.int .u16 a, .int .u16 b], .int .i64 e0]) ∧ (e0 = 0 → a = x ∧ b = y)) :
  Calls Tryz.prog 21 #[.agg #[.int .u8 tos, .int .u16 id, .bool keep, .int .u8 ttl, .int .u8 pr, .int .u32 src, .int .u32 dst, so, .slice ad ld cd]] w fun e w' => Below w.heap.size w w' ∧ e = .returned (.tuple #[otv e0 pr src dst x y, .int .i64 e0]) := by
 have hb0 : Below w.heap.size w ((w.alloc (.cells #[.int .u8 tos, .int .u16 id, .bool keep, .int .u8 ttl, .int .u8 pr, .int .u32 src, .int .u32 dst, so, .slice ad ld cd] 56)).alloc (.cells #[.int .u8 0, .int .u32 0, .int .u32 0, .int .u16 0, .int .u16 0] 68)) := ((Below.refl _ _).alloc (Nat.le_refl _) _).alloc (by simp) _
 have p0 : ((w.alloc (.cells #[.int .u8 tos, .int .u16 id, .bool keep, .int .u8 ttl, .int .u8 pr, .int .u32 src, .int .u32 dst, so, .slice ad ld cd] 56)).alloc (.cells #[.int .u8 0, .int .u32 0, .int .u32 0, .int .u16 0, .int .u16 0] 68)).heap[w.heap.size]? = some (.cells #[.int .u8 tos, .int .u16 id, .bool keep, .int .u8 ttl, .int .u8 pr, .int .u32 src, .int .u32 dst, so, .slice ad ld cd] 56) := (Below.heap_alloc _ _ _ (by simp)).trans (heap_alloc_new w _)
 have r0 := heap_alloc_new (w.alloc (.cells #[.int .u8 tos, .int .u16 id, .bool keep, .int .u8 ttl, .int .u8 pr, .int .u32 src, .int .u32 dst, so, .slice ad ld cd] 56)) (.cells #[.int .u8 0, .int .u32 0, .int .u32 0, .int .u16 0, .int .u16 0] 68)
 rw [World.size_alloc] at r0
 have hs0 : ((w.alloc (.cells #[.int .u8 tos, .int .u16 id, .bool keep, .int .u8 ttl, .int .u8 pr, .int .u32 src, .int .u32 dst, so, .slice ad ld cd] 56)).alloc (.cells #[.int .u8 0, .int .u32 0, .int .u32 0, .int .u16 0, .int .u16 0] 68)).heap.size = w.heap.size + 2 := by simp
 have HS0 := hide hs0
 have P0 := hide p0
 have R0 := hide r0
 clear r0 hs0 p0
 go_enter Tryz.func21, Tryz.ntmps21
 go_upto_region 1 with fail
 generalize (w.alloc (.cells #[.int .u8 tos, .int .u16 id, .bool keep, .int .u8 ttl, .int .u8 pr, .int .u32 src, .int .u32 dst, so, .slice ad ld cd] 56)).alloc (.cells #[.int .u8 0, .int .u32 0, .int .u32 0, .int .u16 0, .int .u16 0] 68) = w0 at *
 have hlt0 : w.heap.size + 1 < w0.heap.size := by have := HS0.out; omega
 have p0 := P0.out
 go_cut [4, 5] (fun q x wx => ∃ g, q = .pointer (some ⟨g, 0, none⟩) ∧ x = .bool true ∧ wx.heap[g]? = some (.cells #[.func (.func fw) #[] #[], .func (.func fb) #[] #[]] 125 (0, 0)) ∧ Below w0.heap.size w0 wx)
 case first =>
  refine anyT_begin (R := But (fun b => w0.heap.size ≤ b)) 10 rfl (by kernel_rfl) ?_
  have hd : Later w0 w0.drew := Later.drew w0
  have pd := (hd.block w.heap.size (bl9 p0)).trans p0
  have bd : Below w0.heap.size w0 w0.drew := hd
  generalize w0.drew = Wd at *
  have ha : ∀ v1, But (fun b => w0.heap.size ≤ b) Wd v1 → ∀ i, v1.cell? ⟨w.heap.size, i, none⟩ = #[Value.int .u8 tos, .int .u16 id, .bool keep, .int .u8 ttl, .int .u8 pr, .int .u32 src, .int .u32 dst, so, .slice ad ld cd][i]? := fun v1 h => block_cell ((h.block w.heap.size (bl9 pd) (by omega)).trans pd)
  have hz : w0.heap.size ≤ Wd.heap.size := bd.size
  refine tV (But.pre _) 1 rfl rfl ⟨_, fun v h => by (go_simp; rfl), ?_⟩; simp only [Act.put, sA, sB, sC]
  refine tV (But.pre _) 2 rfl rfl ⟨_, fun v h => by (go_simp; rfl), ?_⟩; simp only [Act.put, sA, sB, sC]
  refine anyT_two 0 7 rfl rfl (by kernel_rfl) rfl rfl ?_ ?_
  ·skip
   refine wp_enter 53 #[] (by go_simp) ?_
   refine (readers_any Wd).mono ?_
   rintro e W3 ⟨m, rfl, hb3, hM3⟩
   have l3 : Later Wd W3 := hb3
   refine ⟨But.of l3, ?_⟩
   simp only [Act.put, sA, sB, sC]
   have hlk := hlk0 _ _ hM3
   refine anyT_two 3 7 rfl rfl (by kernel_rfl) rfl rfl ?_ ?_
   ·unfold Oper.wp
    go_simp
    refine ⟨But.refl _ _, ?_⟩
    clear hlk
    refine tV (But.pre _) 4 rfl rfl ⟨_, fun v h => by (go_simp; rfl), ?_⟩; simp only [Act.put, sA, sB, sC]
    refine tV (But.pre _) 5 rfl rfl ⟨_, fun v h => by (go_simp; rfl), ?_⟩; simp only [Act.put, sA, sB, sC]
    refine tV (But.pre _) 6 rfl rfl ⟨_, fun v h => by (go_simp; rfl), ?_⟩; simp only [Act.put, sA, sB, sC]
    refine anyT_one 7 rfl (by kernel_rfl) rfl ?_
    unfold Oper.wp
    go_simp
    have l4 : Later W3 (W3.alloc (.cells #[.nilFunc, .nilFunc] 125)) := (Below.refl _ _).alloc (Nat.le_refl _) _
    have g4 := heap_alloc_new W3 (.cells #[.nilFunc, .nilFunc] 125)
    have b4 : Below w0.heap.size w0 (W3.alloc (.cells #[.nilFunc, .nilFunc] 125)) := (bd.trans (l3.mono hz)).trans (l4.mono (Nat.le_trans hz l3.size))
    have hge : w0.heap.size ≤ W3.heap.size := Nat.le_trans hz l3.size
    refine ⟨But.of l4, ?_⟩
    generalize W3.alloc (.cells #[.nilFunc, .nilFunc] 125) = W4 at *
    generalize W3.heap.size = g at *
    have kg := block_cell g4
    have fg := block_frozen g4
    have hsf := run_store_fn Tryz.prog
    refine anyT_one 8 rfl (by kernel_rfl) rfl ?_
    unfold Oper.wp
    go_simp
    generalize hV : World.setCell _ ⟨g, 1, none⟩ _ = V
    have hV8 : V = putRow W4 (g) 0 [.func (.func fw) #[] #[], .func (.func fb) #[] #[]] := hV.symm
    have hbV : But (fun b => w0.heap.size ≤ b) W4 V := by rw [hV8]; exact putRow_but (E := fun b => w0.heap.size ≤ b) (n := g) hge _ _ _ _ (But.refl _ _)
    have pV := putRow_all [Value.func (.func fw) #[] #[], .func (.func fb) #[] #[]] g4 rfl
    rw [← hV8] at pV
    clear hV hV8 kg fg hsf
    refine ⟨hbV, ?_⟩
    refine anyT_one 9 rfl (by kernel_rfl) rfl ?_
    unfold Oper.wp
    go_simp
    refine ⟨But.refl _ _, ?_⟩
    refine anyT_done (by kernel_rfl) ?_
    have hbl : Below w0.heap.size w0 V := b4.trans (hbV.below b4.size (fun k hk e => by omega))
    clear ha
    go_wp2_with fail
    go_meet
    exact ⟨_, rfl, rfl, pV, hbl⟩
   ·unfold Oper.wp
    go_simp
    have l4 : Later W3 (W3.alloc (.cells #[.nilFunc, .nilFunc] 125)) := (Below.refl _ _).alloc (Nat.le_refl _) _
    have g4 := heap_alloc_new W3 (.cells #[.nilFunc, .nilFunc] 125)
    have b4 : Below w0.heap.size w0 (W3.alloc (.cells #[.nilFunc, .nilFunc] 125)) := (bd.trans (l3.mono hz)).trans (l4.mono (Nat.le_trans hz l3.size))
    have hge : w0.heap.size ≤ W3.heap.size := Nat.le_trans hz l3.size
    have hM4 := (l4.block m (bl9 hM3)).trans hM3
    refine ⟨But.of l4, ?_⟩
    clear hlk
    generalize W3.alloc (.cells #[.nilFunc, .nilFunc] 125) = W4 at *
    generalize W3.heap.size = g at *
    have hlk := hlk0 _ _ hM4
    refine anyT_one 3 rfl (by kernel_rfl) rfl ?_
    unfold Oper.wp
    go_simp
    refine ⟨But.refl _ _, ?_⟩
    clear hlk
    refine tV (But.pre _) 4 rfl rfl ⟨_, fun v h => by (go_simp; rfl), ?_⟩; simp only [Act.put, sA, sB, sC]
    refine tV (But.pre _) 5 rfl rfl ⟨_, fun v h => by (go_simp; rfl), ?_⟩; simp only [Act.put, sA, sB, sC]
    refine tV (But.pre _) 6 rfl rfl ⟨_, fun v h => by (go_simp; rfl), ?_⟩; simp only [Act.put, sA, sB, sC]
    have kg := block_cell g4
    have fg := block_frozen g4
    have hsf := run_store_fn Tryz.prog
    refine anyT_one 8 rfl (by kernel_rfl) rfl ?_
    unfold Oper.wp
    go_simp
    generalize hV : World.setCell _ ⟨g, 1, none⟩ _ = V
    have hV8 : V = putRow W4 (g) 0 [.func (.func fw) #[] #[], .func (.func fb) #[] #[]] := hV.symm
    have hbV : But (fun b => w0.heap.size ≤ b) W4 V := by rw [hV8]; exact putRow_but (E := fun b => w0.heap.size ≤ b) (n := g) hge _ _ _ _ (But.refl _ _)
    have pV := putRow_all [Value.func (.func fw) #[] #[], .func (.func fb) #[] #[]] g4 rfl
    rw [← hV8] at pV
    clear hV hV8 kg fg hsf
    refine ⟨hbV, ?_⟩
    refine anyT_one 9 rfl (by kernel_rfl) rfl ?_
    unfold Oper.wp
    go_simp
    refine ⟨But.refl _ _, ?_⟩
    refine anyT_done (by kernel_rfl) ?_
    have hbl : Below w0.heap.size w0 V := b4.trans (hbV.below b4.size (fun k hk e => by omega))
    clear ha
    go_wp2_with fail
    go_meet
    exact ⟨_, rfl, rfl, pV, hbl⟩
  ·unfold Oper.wp
   go_simp
   have l4 : Later Wd (Wd.alloc (.cells #[.nilFunc, .nilFunc] 125)) := (Below.refl _ _).alloc (Nat.le_refl _) _
   have g4 := heap_alloc_new Wd (.cells #[.nilFunc, .nilFunc] 125)
   have b4 : Below w0.heap.size w0 (Wd.alloc (.cells #[.nilFunc, .nilFunc] 125)) := bd.trans (l4.mono hz)
   refine ⟨But.of l4, ?_⟩
   have hge : w0.heap.size ≤ Wd.heap.size := hz
   generalize Wd.alloc (.cells #[.nilFunc, .nilFunc] 125) = W4 at *
   generalize Wd.heap.size = g at *
   refine anyT_one 0 rfl (by kernel_rfl) rfl ?_
   refine wp_enter 53 #[] (by go_simp) ?_
   refine (readers_any W4).mono ?_
   rintro e W5 ⟨m, rfl, hb5, hM5⟩
   have l5 : Later W4 W5 := hb5
   have g5 := (l5.block g (bl9 g4)).trans g4
   have b5 : Below w0.heap.size w0 W5 := b4.trans (l5.mono b4.size)
   refine ⟨But.of l5, ?_⟩
   simp only [Act.put, sA, sB, sC]
   have hlk := hlk0 _ _ hM5
   refine anyT_one 3 rfl (by kernel_rfl) rfl ?_
   unfold Oper.wp
   go_simp
   refine ⟨But.refl _ _, ?_⟩
   clear hlk
   refine tV (But.pre _) 4 rfl rfl ⟨_, fun v h => by (go_simp; rfl), ?_⟩; simp only [Act.put, sA, sB, sC]
   refine tV (But.pre _) 5 rfl rfl ⟨_, fun v h => by (go_simp; rfl), ?_⟩; simp only [Act.put, sA, sB, sC]
   refine tV (But.pre _) 6 rfl rfl ⟨_, fun v h => by (go_simp; rfl), ?_⟩; simp only [Act.put, sA, sB, sC]
   have kg := block_cell g5
   have fg := block_frozen g5
   have hsf := run_store_fn Tryz.prog
   refine anyT_one 8 rfl (by kernel_rfl) rfl ?_
   unfold Oper.wp
   go_simp
   generalize hV : World.setCell _ ⟨g, 1, none⟩ _ = V
   have hV8 : V = putRow W5 (g) 0 [.func (.func fw) #[] #[], .func (.func fb) #[] #[]] := hV.symm
   have hbV : But (fun b => w0.heap.size ≤ b) W5 V := by rw [hV8]; exact putRow_but (E := fun b => w0.heap.size ≤ b) (n := g) hge _ _ _ _ (But.refl _ _)
   have pV := putRow_all [Value.func (.func fw) #[] #[], .func (.func fb) #[] #[]] g5 rfl
   rw [← hV8] at pV
   clear hV hV8 kg fg hsf
   refine ⟨hbV, ?_⟩
   refine anyT_one 9 rfl (by kernel_rfl) rfl ?_
   unfold Oper.wp
   go_simp
   refine ⟨But.refl _ _, ?_⟩
   refine anyT_done (by kernel_rfl) ?_
   have hbl : Below w0.heap.size w0 V := b5.trans (hbV.below b5.size (fun k hk e => by omega))
   clear ha
   go_wp2_with fail
   go_meet
   exact ⟨_, rfl, rfl, pV, hbl⟩
 case rest =>
  obtain ⟨g, rfl, rfl, hg, hbc⟩ := hcut
  have pc := (hbc.block w.heap.size (bl9 p0)).trans p0
  have rc := (hbc.block _ (bl9 R0.out)).trans R0.out
  have hwc := hb0.trans (hbc.mono hb0.size)
  have kg := block_cell hg
  have kp := block_cell pc
  go_wp2_with fail
  refine (hf wc hwc).mono ?_
  rintro e w5 ⟨hb5, u, v, rfl, hab⟩
  have HAB := hide hab
  clear hab
  have l6 : Later w5 (w5.alloc (.cells #[.int .u16 u, .int .u16 v] 130)) := (Below.refl _ _).alloc (Nat.le_refl _) _
  have l56 := Later.trans hb5 l6
  have p6 := (l56.block w.heap.size (bl9 pc)).trans pc
  have r6 := (l56.block _ (bl9 rc)).trans rc
  have hw6 := hwc.trans (l56.mono hwc.size)
  clear kg kp
  have kp := block_cell p6
  go_wp2_with fail
  generalize w5.alloc (.cells #[.int .u16 u, .int .u16 v] 130) = w6 at *
  refine (told_any tos id ttl pr src dst u v e0 keep so _ w6).mono ?_
  rintro e w7 ⟨hb7, ⟨hx, rfl⟩ | ⟨hx, rfl⟩⟩
  ·have HX := hide hx
   clear hx
   have r7 := (Below.block hb7 _ (bl9 r6)).trans r6
   have hw7 := hw6.trans (hb7.mono hw6.size)
   have k7 := block_cell r7
   have f7 := block_frozen r7
   clear kp
   go_wp2_with fail
   generalize hV : World.setCell _ ⟨w.heap.size + 1, 4, none⟩ _ = V
   have hV8 : V = putRow w7 (w.heap.size + 1) 0 [.int .u8 0, .int .u32 0, .int .u32 0, .int .u16 0, .int .u16 0] := hV.symm
   have hbV : But (fun b => b = w.heap.size + 1) w7 V := by rw [hV8]; exact putRow_but (E := fun b => b = w.heap.size + 1) (n := w.heap.size + 1) rfl _ _ _ _ (But.refl _ _)
   have pV := putRow_all ([.int .u8 0, .int .u32 0, .int .u32 0, .int .u16 0, .int .u16 0] : List Value) r7 rfl
   rw [← hV8] at pV
   clear hV hV8 k7 f7
   have PV := block_cell pV
   have hwV : Below w.heap.size w V := hw7.trans (hbV.below hw7.size (fun k hk e => by omega))
   exact bodyPost_ret (v := .tuple #[.agg #[.int .u8 0, .int .u32 0, .int .u32 0, .int .u16 0, .int .u16 0], .int .i64 e0]) (by simp [results, Tryz.results21, go_sem, PV]) rfl ⟨hwV, by rw [otv_no HX.out]⟩
  ·subst hx
   obtain ⟨rfl, rfl⟩ := HAB.out rfl
   have r7 := (Below.block hb7 _ (bl9 r6)).trans r6
   have hw7 := hw6.trans (hb7.mono hw6.size)
   have k7 := block_cell r7
   have f7 := block_frozen r7
   clear kp
   go_wp2_with fail
   generalize hV : World.setCell _ ⟨w.heap.size + 1, 4, none⟩ _ = V
   have hV8 : V = putRow w7 (w.heap.size + 1) 0 [.int .u8 pr, .int .u32 src, .int .u32 dst, .int .u16 u, .int .u16 v] := hV.symm
   have hbV : But (fun b => b = w.heap.size + 1) w7 V := by rw [hV8]; exact putRow_but (E := fun b => b = w.heap.size + 1) (n := w.heap.size + 1) rfl _ _ _ _ (But.refl _ _)
   have pV := putRow_all ([.int .u8 pr, .int .u32 src, .int .u32 dst, .int .u16 u, .int .u16 v] : List Value) r7 rfl
   rw [← hV8] at pV
   clear hV hV8 k7 f7
   have PV := block_cell pV
   have hwV : Below w.heap.size w V := hw7.trans (hbV.below hw7.size (fun k hk e => by omega))
   exact bodyPost_ret (v := .tuple #[.agg #[.int .u8 pr, .int .u32 src, .int .u32 dst, .int .u16 u, .int .u16 v], .int .i64 0]) (by simp [results, Tryz.results21, go_sem, PV]) rfl ⟨hwV, rfl⟩
theorem cf_tcp (args : Array Value) (w : World) : (callFunc 100 args).run Tryz.prog w = .ok (.enter 100 args) w := by kernel_rfl
theorem cf_udp (args : Array Value) (w : World) : (callFunc 102 args).run Tryz.prog w = .ok (.enter 102 args) w := by kernel_rfl
theorem cf_icmp (args : Array Value) (w : World) : (callFunc 103 args).run Tryz.prog w = .ok (.enter 103 args) w := by kernel_rfl
theorem cf_gre (args : Array Value) (w : World) : (callFunc 105 args).run Tryz.prog w = .ok (.enter 105 args) w := by kernel_rfl
abbrev Opt := Int × List Int
def ob1 (o : Opt) : List Int := if o.1 = 1 then [1] else o.1 :: (2 + (o.2.length : Int)) :: o.2
def okO (o : Opt) : Prop := o.1 ≠ 0 ∧ (o.1 = 1 → o.2 = [])
instance (o : Opt) : Decidable (okO o) := by unfold okO; exact inferInstance
def obs (os : List Opt) : List Int := os.flatMap ob1
def obOk (os : List Opt) : Prop := (∀ o ∈ os, okO o) ∧ (obs os).length ≤ 40
instance (os : List Opt) : Decidable (obOk os) := by unfold obOk; exact inferInstance
def po : Nat → List Int → Option (List Opt)
 | 0, _ => none
 | _ + 1, [] => some []
 | n + 1, k :: r =>
  if k = 0 then (if ∀ x ∈ r, x = 0 then some [] else none)
  else if k = 1 then (po n r).map ((1, []) :: ·)
  else match r with
   | [] => none
   | s :: r' => if s < 2 ∨ (r'.length : Int) + 2 < s then none else (po n (r'.drop (s.toNat - 2))).map ((k, r'.take (s.toNat - 2)) :: ·)
theorem po_fuel : ∀ (n m : Nat) (l : List Int), l.length < n → l.length < m → po n l = po m l
 | 0, _, _, h, _ => by omega
 | _ + 1, 0, _, _, h => by omega
 | n + 1, m + 1, [], _, _ => rfl
 | n + 1, m + 1, k :: r, h, h' => by
  simp at h h'
  unfold po
  split
  ·rfl
  split
  ·rw [po_fuel n m r (by omega) (by omega)]
  cases r with
  | nil => rfl
  | cons s r' =>
   dsimp only
   split
   ·rfl
   ·rw [po_fuel n m (r'.drop (s.toNat - 2)) (by simp at h ⊢; omega) (by simp at h' ⊢; omega)]
def opts (zs : List Int) : Option (List Opt) := po (zs.length + 1) zs
theorem opts_zero (r : List Int) : opts (0 :: r) = if ∀ x ∈ r, x = 0 then some [] else none := by unfold opts po; rw [if_pos rfl]
theorem opts_one (r : List Int) : opts (1 :: r) = (opts r).map ((1, []) :: ·) := by
 show po ((r.length + 1) + 1) (1 :: r) = _
 unfold opts
 conv => lhs; unfold po
 rw [if_neg (by decide), if_pos rfl]
theorem opts_bare (k : Int) (h0 : k ≠ 0) (h1 : k ≠ 1) : opts [k] = none := by unfold opts po; rw [if_neg h0, if_neg h1]
theorem opts_wrong (k s : Int) (r : List Int) (h0 : k ≠ 0) (h1 : k ≠ 1) (h : s < 2 ∨ (r.length : Int) + 2 < s) : opts (k :: s :: r) = none := by
 unfold opts po; rw [if_neg h0, if_neg h1]; simp only; rw [if_pos h]
theorem opts_more (k s : Int) (r : List Int) (h0 : k ≠ 0) (h1 : k ≠ 1) (h : 2 ≤ s) (h' : s ≤ (r.length : Int) + 2) : opts (k :: s :: r) = (opts (r.drop (s.toNat - 2))).map ((k, r.take (s.toNat - 2)) :: ·) := by
 show po ((k :: s :: r).length + 1) (k :: s :: r) = _
 unfold opts
 conv => lhs; unfold po
 rw [if_neg h0, if_neg h1]
 simp only
 rw [if_neg (by omega), po_fuel _ ((r.drop (s.toNat - 2)).length + 1) (r.drop (s.toNat - 2)) (by simp; omega) (by omega)]
end Go.Proofs.YtofknbfbmaefoaaGreatDoor
