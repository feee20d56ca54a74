import Derived.Test.YtofknbfbmaefoaaGreatDoorX17
import Derived.Test.YtofknbfbmaefoaaGreatDoorX10
import Derived.Test.YtofknbfbmaefoaaGreatDoorX11
import Derived.Test.YtofknbfbmaefoaaGreatDoorX14
import Derived.Test.YtofknbfbmaefoaaGreatDoorX18
import Derived.Laws.Cover3
namespace Go.Proofs.YtofknbfbmaefoaaGreatDoor
set_option maxHeartbeats 8000000
open Go.RowKit Go.Shelf
set_option maxRecDepth 100000
set_option linter.unusedVariables false
set_option linter.unusedSimpArgs false
theorem Ow.other {base mb : Nat} {W W' : World} {v : Value} {zs : List Int} {cur : Array Value} {t : TypeId} (h : Ow base W v zs) (hm : W.heap[mb]? = some (.cells cur t (0, 0))) (ht : t ≠ 5) (hb : But (fun b => b = mb) W W') : Ow base W' v zs := by
 rcases h with h | ⟨g, cap, c, h1, h2, h3, h4, h5, h6, h7⟩
 ·exact .inl h
 ·refine .inr ⟨g, cap, c, h1, h2, h3, h4, h5, (hb.block g (bl9 h6) (fun e => ?_)).trans h6, h7⟩
  subst e
  rw [hm] at h6
  simp at h6
  exact ht h6.2
def ofe (proto src dst : Int) (zd : List Int) : Int := if proto = 6 then pte 6 src dst zd else if proto = 17 then pue 17 src dst zd else if proto = 1 then oie zd else if proto = 47 then pge 47 zd else 12
def ofa (proto : Int) (zd : List Int) : Int := if proto = 6 then wat zd 0 else if proto = 17 then wat zd 0 else if proto = 1 then wat zd 4 else 0
def ofb (proto : Int) (zd : List Int) : Int := if proto = 6 then wat zd 2 else if proto = 17 then wat zd 2 else if proto = 1 then wat zd 4 else getAt2 zd 6
theorem of_any (tos id ttl proto src dst : Int) (keep : Bool) (so sd : Value) (zd : List Int) (w : World) (hT : Tb w) (hB : Mt.By zd) (hI : Rd w.heap.size w sd zd) (hl : 12 + zd.length ≤ 140737488355328) (hsr : 0 ≤ src ∧ src ≤ 4294967295) (hds : 0 ≤ dst ∧ dst ≤ 4294967295) :
  Calls Tryz.prog 21 #[.agg #[.int .u8 tos, .int .u16 id, .bool keep, .int .u8 ttl, .int .u8 proto, .int .u32 src, .int .u32 dst, so, sd]] w fun e w' => Below w.heap.size w w' ∧ e = .returned (.tuple #[otv (ofe proto src dst zd) proto src dst (ofa proto zd) (ofb proto zd), .int .i64 (ofe proto src dst zd)]) := by
 obtain ⟨ad, cd, rfl, _, _⟩ := hI.slice
 by_cases h6 : proto = 6
 ·subst h6
  exact of_gen 6 (wat zd 0) (wat zd 2) (pte 6 src dst zd) _ _ tos id ttl src dst keep so ad zd.length cd w (fun _ _ h => look_tcp h) cf_tcp (fun w' hb => ofTcp_any tos id ttl 6 src dst keep so _ zd w' hB ((hI.below hb).mono hb.size) hl hsr hds)
 by_cases h17 : proto = 17
 ·subst h17
  exact of_gen 17 (wat zd 0) (wat zd 2) (pue 17 src dst zd) _ _ tos id ttl src dst keep so ad zd.length cd w (fun _ _ h => look_udp h) cf_udp (fun w' hb => ofUdp_any tos id ttl 17 src dst keep so _ zd w' hB ((hI.below hb).mono hb.size) hl hsr hds)
 by_cases h1 : proto = 1
 ·subst h1
  exact of_gen 1 (wat zd 4) (wat zd 4) (oie zd) _ _ tos id ttl src dst keep so ad zd.length cd w (fun _ _ h => look_icmp h) cf_icmp (fun w' hb => ofIcmp_any tos id ttl src dst keep so _ zd w' hB ((hI.below hb).mono hb.size) (by omega))
 by_cases h47 : proto = 47
 ·subst h47
  exact of_gen 47 0 (getAt2 zd 6) (pge 47 zd) _ _ tos id ttl src dst keep so ad zd.length cd w (fun _ _ h => look_gre h) cf_gre (fun w' hb => ofGre_any tos id ttl 47 src dst keep so _ zd w' (hT.below hb hT.pos) hB ((hI.below hb).mono hb.size) hl hsr hds)
 have he : ofe proto src dst zd = 12 := by unfold ofe; rw [if_neg h6, if_neg h17, if_neg h1, if_neg h47]
 rw [he]
 exact of_other proto tos id ttl src dst keep so ad zd.length cd w ⟨h6, h17, h1, h47⟩
theorem rof_udp (tos id ttl src dst : Int) (keep : Bool) (so sd : Value) (zd : List Int) (w : World) (hB : Mt.By zd) (hI : Rd w.heap.size w sd zd) (hl : 12 + zd.length ≤ 1099511627776) (hsr : 0 ≤ src ∧ src ≤ 4294967295) (hds : 0 ≤ dst ∧ dst ≤ 4294967295) :
  Calls Tryz.prog 30 #[.agg #[.int .u8 tos, .int .u16 id, .bool keep, .int .u8 ttl, .int .u8 17, .int .u32 src, .int .u32 dst, so, sd]] w fun e w' => Below w.heap.size w w' ∧ e = .returned (.tuple #[otv (ofe 17 src dst zd) 17 src dst (ofa 17 zd) (ofb 17 zd), .int .i64 (ofe 17 src dst zd)]) := by
 rw [show ofe 17 src dst zd = pue 17 src dst zd from rfl,show ofa 17 zd = wat zd 0 from rfl,show ofb 17 zd = wat zd 2 from rfl]
 obtain ⟨ad, cd, rfl, _, _⟩ := hI.slice
 have hb0 : Below w.heap.size w (((w.alloc (.cells #[.int .u8 tos, .int .u16 id, .bool keep, .int .u8 ttl, .int .u8 17, .int .u32 src, .int .u32 dst, so, .slice ad zd.length cd] 56)).alloc (.cells #[.int .u8 0, .int .u32 0, .int .u32 0, .int .u16 0, .int .u16 0] 68)).alloc (.cells #[.int .u8 17, .int .u32 src, .int .u32 dst, .int .u16 0, .int .u16 0] 68)) := ((((Below.refl _ _).alloc (Nat.le_refl _) _).alloc (by simp) _).alloc (by simp <;> omega) _)
 have r0 : (((w.alloc (.cells #[.int .u8 tos, .int .u16 id, .bool keep, .int .u8 ttl, .int .u8 17, .int .u32 src, .int .u32 dst, so, .slice ad zd.length cd] 56)).alloc (.cells #[.int .u8 0, .int .u32 0, .int .u32 0, .int .u16 0, .int .u16 0] 68)).alloc (.cells #[.int .u8 17, .int .u32 src, .int .u32 dst, .int .u16 0, .int .u16 0] 68)).heap[w.heap.size + 1]? = some (.cells #[.int .u8 0, .int .u32 0, .int .u32 0, .int .u16 0, .int .u16 0] 68) := by
  have := heap_alloc_new (w.alloc (.cells #[.int .u8 tos, .int .u16 id, .bool keep, .int .u8 ttl, .int .u8 17, .int .u32 src, .int .u32 dst, so, .slice ad zd.length cd] 56)) (.cells #[.int .u8 0, .int .u32 0, .int .u32 0, .int .u16 0, .int .u16 0] 68)
  rw [World.size_alloc] at this
  exact (Below.heap_alloc _ _ _ (by simp)).trans this
 have t0 : (((w.alloc (.cells #[.int .u8 tos, .int .u16 id, .bool keep, .int .u8 ttl, .int .u8 17, .int .u32 src, .int .u32 dst, so, .slice ad zd.length cd] 56)).alloc (.cells #[.int .u8 0, .int .u32 0, .int .u32 0, .int .u16 0, .int .u16 0] 68)).alloc (.cells #[.int .u8 17, .int .u32 src, .int .u32 dst, .int .u16 0, .int .u16 0] 68)).heap[w.heap.size + 1 + 1]? = some (.cells #[.int .u8 17, .int .u32 src, .int .u32 dst, .int .u16 0, .int .u16 0] 68) := by
  have := heap_alloc_new ((w.alloc (.cells #[.int .u8 tos, .int .u16 id, .bool keep, .int .u8 ttl, .int .u8 17, .int .u32 src, .int .u32 dst, so, .slice ad zd.length cd] 56)).alloc (.cells #[.int .u8 0, .int .u32 0, .int .u32 0, .int .u16 0, .int .u16 0] 68)) (.cells #[.int .u8 17, .int .u32 src, .int .u32 dst, .int .u16 0, .int .u16 0] 68)
  simpa only [World.size_alloc] using this
 have R0 := hide r0
 have T0 := hide t0
 clear r0 t0
 go_enter Tryz.func30, Tryz.ntmps30
 go_wp2_with fail
 generalize (((w.alloc (.cells #[.int .u8 tos, .int .u16 id, .bool keep, .int .u8 ttl, .int .u8 17, .int .u32 src, .int .u32 dst, so, .slice ad zd.length cd] 56)).alloc (.cells #[.int .u8 0, .int .u32 0, .int .u32 0, .int .u16 0, .int .u16 0] 68)).alloc (.cells #[.int .u8 17, .int .u32 src, .int .u32 dst, .int .u16 0, .int .u16 0] 68)) = w0 at *
 refine (rparseUdp_any tos id ttl 17 src dst keep _ _ zd w0 hB ((hI.below hb0).mono hb0.size) (by omega) hsr hds).mono ?_
 rintro e w1 ⟨hb1, ⟨hf, rfl⟩ | ⟨hf, a1, c1, rfl, hO⟩⟩
 ·rw [show zud.toArray = #[.int .u16 0, .int .u16 0, .bool false, .slice none 0 0] from rfl]
  generalize hpu : pue 17 src dst zd = f at *
  have HPU := hide hpu
  have HF := hide hf
  clear hf hpu
  have lq : Later w1 (w1.alloc (.cells #[.int .u16 0, .int .u16 0, .bool false, .slice none 0 0] 60)) := (Below.refl _ _).alloc (Nat.le_refl _) _
  have l1 := Later.trans hb1 lq
  have rX := later_keep l1 R0.out
  have hwX := hb0.trans (l1.mono hb0.size)
  have kX := block_cell rX
  have fX := block_frozen rX
  have hne : (f != 0) = true := by simp [HF.out]
  go_wp2_with fail
  generalize w1.alloc (.cells #[.int .u16 0, .int .u16 0, .bool false, .slice none 0 0] 60) = W at *
  generalize hV : World.setCell _ ⟨w.heap.size + 1, 4, none⟩ _ = VV
  have hV8 : VV = putRow W (w.heap.size + 1) 0 [.int .u8 0, .int .u32 0, .int .u32 0, .int .u16 0, .int .u16 0] := hV.symm
  have hbV : But (fun b => b = w.heap.size + 1) W VV := by rw [hV8]; exact putRow_but (E := fun b => b = w.heap.size + 1) (n := w.heap.size + 1) rfl _ _ _ _ (But.refl _ _)
  have pV := putRow_all ([.int .u8 0, .int .u32 0, .int .u32 0, .int .u16 0, .int .u16 0] : List Value) rX rfl
  rw [← hV8] at pV
  clear hV hV8 kX fX
  have PV := block_cell pV
  have hwV : Below w.heap.size w VV := hwX.trans (hbV.below hwX.size (fun k hk e => by omega))
  exact bodyPost_ret (v := .tuple #[.agg #[.int .u8 0, .int .u32 0, .int .u32 0, .int .u16 0, .int .u16 0], .int .i64 f]) (by simp [results, Tryz.results30, go_sem, PV]) rfl ⟨hwV, by rw [HPU.out, otv_no HF.out]⟩
 ·have HF := hide hf
  clear hf
  have lq : Later w1 (w1.alloc (.cells #[.int .u16 (wat zd 0), .int .u16 (wat zd 2), .bool (wat zd 6 == 0), .slice a1 (zd.length - 8) c1] 60)) := (Below.refl _ _).alloc (Nat.le_refl _) _
  have l1 := Later.trans hb1 lq
  have sX := heap_alloc_new w1 (.cells #[.int .u16 (wat zd 0), .int .u16 (wat zd 2), .bool (wat zd 6 == 0), .slice a1 (zd.length - 8) c1] 60)
  have rX0 := later_keep l1 R0.out
  have tX0 := later_keep l1 T0.out
  have hw2 := hb0.trans (l1.mono hb0.size)
  have hlt : w.heap.size + 1 + 1 < w1.heap.size := Nat.lt_of_lt_of_le (bl9 T0.out) hb1.size
  go_upto_region 13 with fail
  generalize w1.alloc (.cells #[.int .u16 (wat zd 0), .int .u16 (wat zd 2), .bool (wat zd 6 == 0), .slice a1 (zd.length - 8) c1] 60) = W at *
  have hbz := hlt
  generalize w1.heap.size = g at *
  refine anyT_begin (R := But (fun b => b = w.heap.size + 1 + 1)) 8 rfl (by kernel_rfl) ?_
  have ld : Later W W.drew := Later.drew W
  have sd := later_keep ld sX
  have td := later_keep ld tX0
  generalize W.drew = Wd at *
  have ha : ∀ v1, But (fun b => b = w.heap.size + 1 + 1) Wd v1 → ∀ i, v1.cell? ⟨g, i, none⟩ = #[Value.int .u16 (wat zd 0), .int .u16 (wat zd 2), .bool (wat zd 6 == 0), .slice a1 (zd.length - 8) c1][i]? := fun v1 h => block_cell ((h.block g (bl9 sd) (by omega)).trans sd)
  refine tV (But.pre _) 0 rfl rfl ⟨_, fun v h => by (go_simp; rfl), ?_⟩; simp only [Act.put, sA, sB, sC]
  refine tV (But.pre _) 1 rfl rfl ⟨_, fun v h => by (go_simp; rfl), ?_⟩; simp only [Act.put, sA, sB, sC]
  refine tV (But.pre _) 2 rfl rfl ⟨_, fun v h => by (go_simp; rfl), ?_⟩; simp only [Act.put, sA, sB, sC]
  refine tV (But.pre _) 3 rfl rfl ⟨_, fun v h => by (go_simp; rfl), ?_⟩; simp only [Act.put, sA, sB, sC]
  clear ha
  refine tV (But.pre _) 4 rfl rfl ⟨_, fun v h => by (go_simp; rfl), ?_⟩; simp only [Act.put, sA, sB, sC]
  have kx := block_cell td
  have fx := block_frozen td
  refine anyT_one 5 rfl (by kernel_rfl) rfl ?_
  unfold Oper.wp
  go_simp
  generalize hV : Wd.setCell ⟨w.heap.size + 1 + 1, 3, none⟩ _ = V
  have pV := heap_set1 td 3 (.int .u16 (wat zd 0))
  rw [hV] at pV
  have hbV : But (fun b => b = w.heap.size + 1 + 1) Wd V := by rw [← hV]; exact (But.refl (fun b => b = w.heap.size + 1 + 1) _).setCell (p := ⟨w.heap.size + 1 + 1, 3, none⟩) rfl _
  refine ⟨hbV, ?_⟩
  clear hV kx fx
  simp only [List.setIfInBounds_toArray, List.set_cons_zero, List.set_cons_succ] at pV
  refine tV (But.pre _) 6 rfl rfl ⟨_, fun v h => by (go_simp; rfl), ?_⟩; simp only [Act.put, sA, sB, sC]
  have kx := block_cell pV
  have fx := block_frozen pV
  refine anyT_one 7 rfl (by kernel_rfl) rfl ?_
  unfold Oper.wp
  go_simp
  generalize hU : V.setCell ⟨w.heap.size + 1 + 1, 4, none⟩ _ = U
  have pU := heap_set1 pV 4 (.int .u16 (wat zd 2))
  rw [hU] at pU
  have hbU : But (fun b => b = w.heap.size + 1 + 1) V U := by rw [← hU]; exact (But.refl (fun b => b = w.heap.size + 1 + 1) _).setCell (p := ⟨w.heap.size + 1 + 1, 4, none⟩) rfl _
  refine ⟨hbU, ?_⟩
  clear hU kx fx
  simp only [List.setIfInBounds_toArray, List.set_cons_zero, List.set_cons_succ] at pU
  refine anyT_done (by kernel_rfl) ?_
  have hfin : But (fun b => b = w.heap.size + 1 + 1) W U := (But.of ld).trans (hbV.trans hbU)
  have hsY := (bl9 rX0)
  have rX := (hfin.block (w.heap.size + 1) hsY (by omega)).trans rX0
  have hwX := hw2.trans (hfin.below hw2.size (fun k hk e => by omega))
  have kt := block_cell pU
  have kX := block_cell rX
  have fX := block_frozen rX
  go_wp2_with fail
  generalize hV : World.setCell _ ⟨w.heap.size + 1, 4, none⟩ _ = VV
  have hV8 : VV = putRow U (w.heap.size + 1) 0 [.int .u8 17, .int .u32 src, .int .u32 dst, .int .u16 (wat zd 0), .int .u16 (wat zd 2)] := hV.symm
  have hbV : But (fun b => b = w.heap.size + 1) U VV := by rw [hV8]; exact putRow_but (E := fun b => b = w.heap.size + 1) (n := w.heap.size + 1) rfl _ _ _ _ (But.refl _ _)
  have pV := putRow_all ([.int .u8 17, .int .u32 src, .int .u32 dst, .int .u16 (wat zd 0), .int .u16 (wat zd 2)] : List Value) rX rfl
  rw [← hV8] at pV
  clear hV hV8 kX fX
  have PV := block_cell pV
  have hwV : Below w.heap.size w VV := hwX.trans (hbV.below hwX.size (fun k hk e => by omega))
  exact bodyPost_ret (v := .tuple #[.agg #[.int .u8 17, .int .u32 src, .int .u32 dst, .int .u16 (wat zd 0), .int .u16 (wat zd 2)], .int .i64 0]) (by simp [results, Tryz.results30, go_sem, PV]) rfl ⟨hwV, by rw [HF.out]; rfl⟩
theorem rd8 {W : World} {b : Nat} {x0 x1 x2 x3 x4 x5 x6 x7 : Int} (h : W.heap[b]? = some (.cells #[.int .u8 x0, .int .u8 x1, .int .u8 x2, .int .u8 x3, .int .u8 x4, .int .u8 x5, .int .u8 x6, .int .u8 x7] 132 (0, 0))) : Rd W.heap.size W (.slice (some ⟨b, 0, none⟩) 8 8) [x0, x1, x2, x3, x4, x5, x6, x7] := by
 refine .inr ⟨b, 0, 8, rfl, by simp, by simp, by omega, (bl9 h), fun j hj => ?_⟩
 rw [Nat.zero_add, block_cell h j]
 simp at hj
 match j, hj with
 | 0, _ => rfl
 | 1, _ => rfl
 | 2, _ => rfl
 | 3, _ => rfl
 | 4, _ => rfl
 | 5, _ => rfl
 | 6, _ => rfl
 | 7, _ => rfl
theorem ofTwo_any (x0 x1 x2 x3 x4 x5 x6 x7 : Int) (w : World) (hBx : Mt.By [x0, x1, x2, x3, x4, x5, x6, x7]) :
  Calls Tryz.prog 101 #[.agg #[.int .u8 x0, .int .u8 x1, .int .u8 x2, .int .u8 x3, .int .u8 x4, .int .u8 x5, .int .u8 x6, .int .u8 x7]] w fun e w' => Below w.heap.size w w' ∧ e = .returned (.tuple #[.agg #[.int .u16 (getAt2 [x0, x1, x2, x3, x4, x5, x6, x7] 0), .int .u16 (getAt2 [x0, x1, x2, x3, x4, x5, x6, x7] 2)], .int .i64 0]) := by
 have hb0 : Below w.heap.size w ((w.alloc (.cells #[.int .u8 x0, .int .u8 x1, .int .u8 x2, .int .u8 x3, .int .u8 x4, .int .u8 x5, .int .u8 x6, .int .u8 x7] 132)).alloc (.cells #[.int .u16 0, .int .u16 0] 130)) := ((Below.refl _ _).alloc (Nat.le_refl _) _).alloc (by simp) _
 have p0 : ((w.alloc (.cells #[.int .u8 x0, .int .u8 x1, .int .u8 x2, .int .u8 x3, .int .u8 x4, .int .u8 x5, .int .u8 x6, .int .u8 x7] 132)).alloc (.cells #[.int .u16 0, .int .u16 0] 130)).heap[w.heap.size]? = some (.cells #[.int .u8 x0, .int .u8 x1, .int .u8 x2, .int .u8 x3, .int .u8 x4, .int .u8 x5, .int .u8 x6, .int .u8 x7] 132) := (Below.heap_alloc _ _ _ (by simp)).trans (heap_alloc_new w _)
 have r0 := heap_alloc_new (w.alloc (.cells #[.int .u8 x0, .int .u8 x1, .int .u8 x2, .int .u8 x3, .int .u8 x4, .int .u8 x5, .int .u8 x6, .int .u8 x7] 132)) (.cells #[.int .u16 0, .int .u16 0] 130)
 rw [World.size_alloc] at r0
 have P0 := hide p0
 have R0 := hide r0
 clear r0 p0
 have hB : Mt.By [x0, x1, x2, x3, x4, x5, x6, x7] := hBx
 go_enter Tryz.func101, Tryz.ntmps101
 go_upto_region 1 with fail
 generalize ((w.alloc (.cells #[.int .u8 x0, .int .u8 x1, .int .u8 x2, .int .u8 x3, .int .u8 x4, .int .u8 x5, .int .u8 x6, .int .u8 x7] 132)).alloc (.cells #[.int .u16 0, .int .u16 0] 130)) = w0 at *
 refine anyT_begin (R := But (fun b => b = w.heap.size + 1)) 7 rfl (by kernel_rfl) ?_
 have ld : Later w0 w0.drew := Later.drew w0
 have pWd := later_keep ld P0.out
 have rWd := later_keep ld R0.out
 generalize w0.drew = Wd at *
 refine tV (But.pre _) 0 rfl rfl ⟨_, fun v h => by (go_simp; rfl), ?_⟩; simp only [Act.put, sA, sB, sC]
 refine tV (But.pre _) 2 rfl rfl ⟨_, fun v h => by (go_simp; rfl), ?_⟩; simp only [Act.put, sA, sB, sC]
 refine anyT_one 1 rfl (by kernel_rfl) rfl ?_
 refine wp_enter 146 #[.slice (some ⟨w.heap.size, 0, none⟩) 8 8, .int .i64 0] (by go_simp) ?_
 refine (get16_at _ [x0, x1, x2, x3, x4, x5, x6, x7] hB 0 Wd (rd8 pWd)).mono ?_
 rintro e W1 ⟨rfl, nW1, eW1⟩
 have lW1 : Later Wd W1 := by rw [eW1]; exact below_draw (Later.refl Wd) nW1
 clear eW1
 have pW1 := later_keep lW1 pWd
 have rW1 := later_keep lW1 rWd
 refine ⟨But.of lW1, ?_⟩
 simp only [Act.put, sA, sB, sC]
 refine anyT_one 3 rfl (by kernel_rfl) rfl ?_
 refine wp_enter 146 #[.slice (some ⟨w.heap.size, 0, none⟩) 8 8, .int .i64 2] (by go_simp) ?_
 refine (get16_at _ [x0, x1, x2, x3, x4, x5, x6, x7] hB 2 W1 (rd8 pW1)).mono ?_
 rintro e W2 ⟨rfl, nW2, eW2⟩
 have lW2 : Later W1 W2 := by rw [eW2]; exact below_draw (Later.refl W1) nW2
 clear eW2
 have pW2 := later_keep lW2 pW1
 have rW2 := later_keep lW2 rW1
 refine ⟨But.of lW2, ?_⟩
 simp only [Act.put, sA, sB, sC]
 generalize hg0 : getAt2 [x0, x1, x2, x3, x4, x5, x6, x7] 0 = g0 at *
 have HG0 := hide hg0
 clear hg0
 generalize hg2 : getAt2 [x0, x1, x2, x3, x4, x5, x6, x7] 2 = g2 at *
 have HG2 := hide hg2
 clear hg2
 refine tV (But.pre _) 4 rfl rfl ⟨_, fun v h => by (go_simp; rfl), ?_⟩; simp only [Act.put, sA, sB, sC]
 have rX := rW2
 have hwX : Below w.heap.size w W2 := hb0.trans ((ld.trans (lW1.trans lW2)).mono hb0.size)
 have kX := block_cell rX
 have fX := block_frozen rX
 refine anyT_one 5 rfl (by kernel_rfl) rfl ?_
 unfold Oper.wp
 go_simp
 generalize hV : World.setCell _ ⟨w.heap.size + 1, 1, none⟩ _ = V
 have hV8 : V = putRow W2 (w.heap.size + 1) 0 [.int .u16 g0, .int .u16 g2] := hV.symm
 have hbV : But (fun b => b = w.heap.size + 1) W2 V := by rw [hV8]; exact putRow_but (E := fun b => b = w.heap.size + 1) (n := w.heap.size + 1) rfl _ _ _ _ (But.refl _ _)
 have pV := putRow_all ([.int .u16 g0, .int .u16 g2] : List Value) rX rfl
 rw [← hV8] at pV
 clear hV hV8 kX fX
 refine ⟨hbV, ?_⟩
 refine anyT_one 6 rfl (by kernel_rfl) rfl ?_
 unfold Oper.wp
 go_simp
 refine ⟨But.refl _ _, ?_⟩
 refine anyT_done (by kernel_rfl) ?_
 go_wp2_with fail
 have PV := block_cell pV
 have hwV : Below w.heap.size w V := hwX.trans (hbV.below hwX.size (fun k hk e => by omega))
 exact bodyPost_ret (v := .tuple #[.agg #[.int .u16 g0, .int .u16 g2], .int .i64 0]) (by simp [results, Tryz.results101, go_sem, PV]) rfl ⟨hwV, by rw [HG0.out, HG2.out]⟩
theorem ofEcho_any (x0 x1 x2 x3 x4 x5 x6 x7 : Int) (w : World) (hBx : Mt.By [x0, x1, x2, x3, x4, x5, x6, x7]) :
  Calls Tryz.prog 104 #[.agg #[.int .u8 x0, .int .u8 x1, .int .u8 x2, .int .u8 x3, .int .u8 x4, .int .u8 x5, .int .u8 x6, .int .u8 x7]] w fun e w' => Below w.heap.size w w' ∧ ((ecb x0 x1 = true ∧ e = .returned (.tuple #[.agg #[.int .u16 (getAt2 [x0, x1, x2, x3, x4, x5, x6, x7] 4), .int .u16 (getAt2 [x0, x1, x2, x3, x4, x5, x6, x7] 4)], .int .i64 0])) ∨ (ecb x0 x1 = false ∧ e = .returned (.tuple #[.agg #[.int .u16 0, .int .u16 0], .int .i64 12]))) := by
 have hb0 : Below w.heap.size w ((w.alloc (.cells #[.int .u8 x0, .int .u8 x1, .int .u8 x2, .int .u8 x3, .int .u8 x4, .int .u8 x5, .int .u8 x6, .int .u8 x7] 132)).alloc (.cells #[.int .u16 0, .int .u16 0] 130)) := ((Below.refl _ _).alloc (Nat.le_refl _) _).alloc (by simp) _
 have p0 : ((w.alloc (.cells #[.int .u8 x0, .int .u8 x1, .int .u8 x2, .int .u8 x3, .int .u8 x4, .int .u8 x5, .int .u8 x6, .int .u8 x7] 132)).alloc (.cells #[.int .u16 0, .int .u16 0] 130)).heap[w.heap.size]? = some (.cells #[.int .u8 x0, .int .u8 x1, .int .u8 x2, .int .u8 x3, .int .u8 x4, .int .u8 x5, .int .u8 x6, .int .u8 x7] 132) := (Below.heap_alloc _ _ _ (by simp)).trans (heap_alloc_new w _)
 have r0 := heap_alloc_new (w.alloc (.cells #[.int .u8 x0, .int .u8 x1, .int .u8 x2, .int .u8 x3, .int .u8 x4, .int .u8 x5, .int .u8 x6, .int .u8 x7] 132)) (.cells #[.int .u16 0, .int .u16 0] 130)
 rw [World.size_alloc] at r0
 have P0 := hide p0
 have R0 := hide r0
 clear r0 p0
 have hB : Mt.By [x0, x1, x2, x3, x4, x5, x6, x7] := hBx
 go_enter Tryz.func104, Tryz.ntmps104
 go_upto_region 1 with fail
 generalize ((w.alloc (.cells #[.int .u8 x0, .int .u8 x1, .int .u8 x2, .int .u8 x3, .int .u8 x4, .int .u8 x5, .int .u8 x6, .int .u8 x7] 132)).alloc (.cells #[.int .u16 0, .int .u16 0] 130)) = w0 at *
 refine anyT_begin (R := But (fun b => b = w.heap.size + 1)) 12 rfl (by kernel_rfl) ?_
 have ld : Later w0 w0.drew := Later.drew w0
 have pWd := later_keep ld P0.out
 have rWd := later_keep ld R0.out
 generalize w0.drew = Wd at *
 have ha : ∀ v1, But (fun b => b = w.heap.size + 1) Wd v1 → ∀ i, v1.cell? ⟨w.heap.size, i, none⟩ = #[Value.int .u8 x0, .int .u8 x1, .int .u8 x2, .int .u8 x3, .int .u8 x4, .int .u8 x5, .int .u8 x6, .int .u8 x7][i]? := fun v1 h => block_cell ((h.block w.heap.size (bl9 pWd) (by omega)).trans pWd)
 refine tV (But.pre _) 0 rfl rfl ⟨_, fun v h => by (go_simp; rfl), ?_⟩; simp only [Act.put, sA, sB, sC]
 refine tV (But.pre _) 1 rfl rfl ⟨_, fun v h => by (go_simp; rfl), ?_⟩; simp only [Act.put, sA, sB, sC]
 refine tV (But.pre _) 2 rfl rfl ⟨_, fun v h => by (go_simp; rfl), ?_⟩; simp only [Act.put, sA, sB, sC]
 refine tV (But.pre _) 3 rfl rfl ⟨_, fun v h => by (go_simp; rfl), ?_⟩; simp only [Act.put, sA, sB, sC]
 clear ha
 refine tV (But.pre _) 4 rfl rfl ⟨_, fun v h => by (go_simp; rfl), ?_⟩; simp only [Act.put, sA, sB, sC]
 refine tV (But.pre _) 5 rfl rfl ⟨_, fun v h => by (go_simp; rfl), ?_⟩; simp only [Act.put, sA, sB, sC]
 refine anyT_one 6 rfl (by kernel_rfl) rfl ?_
 refine wp_enter 146 #[.slice (some ⟨w.heap.size, 0, none⟩) 8 8, .int .i64 4] (by go_simp) ?_
 refine (get16_at _ [x0, x1, x2, x3, x4, x5, x6, x7] hB 4 Wd (rd8 pWd)).mono ?_
 rintro e W1 ⟨rfl, nW1, eW1⟩
 have lW1 : Later Wd W1 := by rw [eW1]; exact below_draw (Later.refl Wd) nW1
 clear eW1
 have pW1 := later_keep lW1 pWd
 have rW1 := later_keep lW1 rWd
 refine ⟨But.of lW1, ?_⟩
 simp only [Act.put, sA, sB, sC]
 generalize hg4 : getAt2 [x0, x1, x2, x3, x4, x5, x6, x7] 4 = g4 at *
 have HG4 := hide hg4
 clear hg4
 refine anyT_one 7 rfl (by kernel_rfl) rfl ?_
 refine wp_enter 149 #[.agg #[.int .u8 x0, .int .u8 x1, .int .u32 0, .slice none 0 0], .int .u16 g4] (by go_simp) ?_
 refine (ofNumber_any x0 x1 0 g4 _ W1).mono ?_
 rintro e W2 ⟨hb2, ⟨he, rfl⟩ | ⟨he, rfl⟩⟩
 ·have HE := hide he
  clear he
  have l2 : Later W1 W2 := hb2
  have rX := later_keep l2 rW1
  have hwX : Below w.heap.size w W2 := hb0.trans ((ld.trans (lW1.trans l2)).mono hb0.size)
  refine ⟨But.of l2, ?_⟩
  simp only [Act.put, sA, sB, sC]
  refine tV (But.pre _) 8 rfl rfl ⟨_, fun v h => by (go_simp; rfl), ?_⟩; simp only [Act.put, sA, sB, sC]
  refine tV (But.pre _) 9 rfl rfl ⟨_, fun v h => by (go_simp; rfl), ?_⟩; simp only [Act.put, sA, sB, sC]
  have kX := block_cell rX
  have fX := block_frozen rX
  refine anyT_one 10 rfl (by kernel_rfl) rfl ?_
  unfold Oper.wp
  go_simp
  generalize hV : World.setCell _ ⟨w.heap.size + 1, 1, none⟩ _ = V
  have hV8 : V = putRow W2 (w.heap.size + 1) 0 [.int .u16 g4, .int .u16 g4] := hV.symm
  have hbV : But (fun b => b = w.heap.size + 1) W2 V := by rw [hV8]; exact putRow_but (E := fun b => b = w.heap.size + 1) (n := w.heap.size + 1) rfl _ _ _ _ (But.refl _ _)
  have pV := putRow_all ([.int .u16 g4, .int .u16 g4] : List Value) rX rfl
  rw [← hV8] at pV
  clear hV hV8 kX fX
  refine ⟨hbV, ?_⟩
  refine anyT_one 11 rfl (by kernel_rfl) rfl ?_
  unfold Oper.wp
  go_simp
  refine ⟨But.refl _ _, ?_⟩
  refine anyT_done (by kernel_rfl) ?_
  go_wp2_with fail
  have PV := block_cell pV
  have hwV : Below w.heap.size w V := hwX.trans (hbV.below hwX.size (fun k hk e => by omega))
  exact bodyPost_ret (v := .tuple #[.agg #[.int .u16 g4, .int .u16 g4], .int .i64 0]) (by simp [results, Tryz.results104, go_sem, PV]) rfl ⟨hwV, .inl ⟨HE.out, by rw [HG4.out]⟩⟩
 ·have HE := hide he
  clear he
  have l2 : Later W1 W2 := hb2
  have rX := later_keep l2 rW1
  have hwX : Below w.heap.size w W2 := hb0.trans ((ld.trans (lW1.trans l2)).mono hb0.size)
  refine ⟨But.of l2, ?_⟩
  simp only [Act.put, sA, sB, sC]
  refine tV (But.pre _) 8 rfl rfl ⟨_, fun v h => by (go_simp; rfl), ?_⟩; simp only [Act.put, sA, sB, sC]
  refine tV (But.pre _) 9 rfl rfl ⟨_, fun v h => by (go_simp; rfl), ?_⟩; simp only [Act.put, sA, sB, sC]
  have kX := block_cell rX
  have fX := block_frozen rX
  refine anyT_one 10 rfl (by kernel_rfl) rfl ?_
  unfold Oper.wp
  go_simp
  generalize hV : World.setCell _ ⟨w.heap.size + 1, 1, none⟩ _ = V
  have hV8 : V = putRow W2 (w.heap.size + 1) 0 [.int .u16 0, .int .u16 0] := hV.symm
  have hbV : But (fun b => b = w.heap.size + 1) W2 V := by rw [hV8]; exact putRow_but (E := fun b => b = w.heap.size + 1) (n := w.heap.size + 1) rfl _ _ _ _ (But.refl _ _)
  have pV := putRow_all ([.int .u16 0, .int .u16 0] : List Value) rX rfl
  rw [← hV8] at pV
  clear hV hV8 kX fX
  refine ⟨hbV, ?_⟩
  refine anyT_one 11 rfl (by kernel_rfl) rfl ?_
  unfold Oper.wp
  go_simp
  refine ⟨But.refl _ _, ?_⟩
  refine anyT_done (by kernel_rfl) ?_
  go_wp2_with fail
  have PV := block_cell pV
  have hwV : Below w.heap.size w V := hwX.trans (hbV.below hwX.size (fun k hk e => by omega))
  exact bodyPost_ret (v := .tuple #[.agg #[.int .u16 0, .int .u16 0], .int .i64 12]) (by simp [results, Tryz.results104, go_sem, PV]) rfl ⟨hwV, .inr ⟨HE.out, rfl⟩⟩
theorem ofBegin_any (x0 x1 x2 x3 x4 x5 x6 x7 : Int) (w : World) (hT : Tb w) (hBx : Mt.By [x0, x1, x2, x3, x4, x5, x6, x7]) :
  Calls Tryz.prog 106 #[.agg #[.int .u8 x0, .int .u8 x1, .int .u8 x2, .int .u8 x3, .int .u8 x4, .int .u8 x5, .int .u8 x6, .int .u8 x7]] w fun e w' => Below w.heap.size w w' ∧ ((pge 47 [x0, x1, x2, x3, x4, x5, x6, x7] = 4 ∧ e = .returned (.tuple #[.agg #[.int .u16 0, .int .u16 0], .int .i64 4])) ∨ (pge 47 [x0, x1, x2, x3, x4, x5, x6, x7] ≠ 4 ∧ e = .returned (.tuple #[.agg #[.int .u16 0, .int .u16 (getAt2 [x0, x1, x2, x3, x4, x5, x6, x7] 6)], .int .i64 0]))) := by
 have hb0 : Below w.heap.size w ((w.alloc (.cells #[.int .u8 x0, .int .u8 x1, .int .u8 x2, .int .u8 x3, .int .u8 x4, .int .u8 x5, .int .u8 x6, .int .u8 x7] 132)).alloc (.cells #[.int .u16 0, .int .u16 0] 130)) := ((Below.refl _ _).alloc (Nat.le_refl _) _).alloc (by simp) _
 have p0 : ((w.alloc (.cells #[.int .u8 x0, .int .u8 x1, .int .u8 x2, .int .u8 x3, .int .u8 x4, .int .u8 x5, .int .u8 x6, .int .u8 x7] 132)).alloc (.cells #[.int .u16 0, .int .u16 0] 130)).heap[w.heap.size]? = some (.cells #[.int .u8 x0, .int .u8 x1, .int .u8 x2, .int .u8 x3, .int .u8 x4, .int .u8 x5, .int .u8 x6, .int .u8 x7] 132) := (Below.heap_alloc _ _ _ (by simp)).trans (heap_alloc_new w _)
 have r0 := heap_alloc_new (w.alloc (.cells #[.int .u8 x0, .int .u8 x1, .int .u8 x2, .int .u8 x3, .int .u8 x4, .int .u8 x5, .int .u8 x6, .int .u8 x7] 132)) (.cells #[.int .u16 0, .int .u16 0] 130)
 rw [World.size_alloc] at r0
 have P0 := hide p0
 have R0 := hide r0
 clear r0 p0
 have hB : Mt.By [x0, x1, x2, x3, x4, x5, x6, x7] := hBx
 go_enter Tryz.func106, Tryz.ntmps106
 go_wp2_with fail
 generalize ((w.alloc (.cells #[.int .u8 x0, .int .u8 x1, .int .u8 x2, .int .u8 x3, .int .u8 x4, .int .u8 x5, .int .u8 x6, .int .u8 x7] 132)).alloc (.cells #[.int .u16 0, .int .u16 0] 130)) = w0 at *
 refine (parseGre_any 0 0 0 47 0 0 false _ _ [x0, x1, x2, x3, x4, x5, x6, x7] w0 (hT.below hb0 hT.pos) hB (rd8 P0.out) (by simp)).mono ?_
 rintro e w1 ⟨hb1, ⟨hf, rfl⟩ | ⟨hf, a1, c1, rfl, hO⟩⟩
 ·rw [show zf.toArray = #[.int .u16 0, .bool false, .bool false, .int .u32 0, .int .u32 0, .slice none 0 0] from rfl]
  generalize hpg : pge 47 [x0, x1, x2, x3, x4, x5, x6, x7] = f at *
  have HPG : Hid (pge 47 [x0, x1, x2, x3, x4, x5, x6, x7] = f) := hpg
  clear hpg hf
  skip
  by_cases h4 : f = 4
  ·skip
   have ne : (f == 4) = true := by simp [h4]
   have H4 := hide h4
   clear h4
   have l1 : Later w0 w1 := hb1
   have la : Later w1 (w1.alloc (.cells #[.int .u16 0, .bool false, .bool false, .int .u32 0, .int .u32 0, .slice none 0 0] 169)) := (Below.refl _ _).alloc (Nat.le_refl _) _
   have rX := later_keep (l1.trans la) R0.out
   have hwX := hb0.trans ((l1.trans la).mono hb0.size)
   have kX := block_cell rX
   have fX := block_frozen rX
   go_wp2_with fail
   clear ne
   generalize w1.alloc (.cells #[.int .u16 0, .bool false, .bool false, .int .u32 0, .int .u32 0, .slice none 0 0] 169) = W at *
   generalize hV : World.setCell _ ⟨w.heap.size + 1, 1, none⟩ _ = V
   have hV8 : V = putRow W (w.heap.size + 1) 0 [.int .u16 0, .int .u16 0] := hV.symm
   have hbV : But (fun b => b = w.heap.size + 1) W V := by rw [hV8]; exact putRow_but (E := fun b => b = w.heap.size + 1) (n := w.heap.size + 1) rfl _ _ _ _ (But.refl _ _)
   have pV := putRow_all ([.int .u16 0, .int .u16 0] : List Value) rX rfl
   rw [← hV8] at pV
   clear hV hV8 kX fX
   have PV := block_cell pV
   have hwV : Below w.heap.size w V := hwX.trans (hbV.below hwX.size (fun k hk e => by omega))
   exact bodyPost_ret (v := .tuple #[.agg #[.int .u16 0, .int .u16 0], .int .i64 f]) (by simp [results, Tryz.results106, go_sem, PV]) rfl ⟨hwV, .inl ⟨HPG.out.trans H4.out, by rw [H4.out]⟩⟩
  ·have HN4 := hide h4
   have ne : (f == 4) = false := by simp [h4]
   clear h4
   have l1 : Later w0 w1 := hb1
   have la : Later w1 (w1.alloc (.cells #[.int .u16 0, .bool false, .bool false, .int .u32 0, .int .u32 0, .slice none 0 0] 169)) := (Below.refl _ _).alloc (Nat.le_refl _) _
   have pW := later_keep (l1.trans la) P0.out
   have rW := later_keep (l1.trans la) R0.out
   have hwW := hb0.trans ((l1.trans la).mono hb0.size)
   go_wp2_with fail
   clear ne
   generalize w1.alloc (.cells #[.int .u16 0, .bool false, .bool false, .int .u32 0, .int .u32 0, .slice none 0 0] 169) = W at *
   refine (get16_at _ [x0, x1, x2, x3, x4, x5, x6, x7] hB 6 W (rd8 pW)).mono ?_
   rintro e W2 ⟨rfl, n2, e2⟩
   have l2 : Later W W2 := by rw [e2]; exact below_draw (Later.refl W) n2
   clear e2
   have rX := later_keep l2 rW
   have hwX := hwW.trans (l2.mono hwW.size)
   generalize hg6 : getAt2 [x0, x1, x2, x3, x4, x5, x6, x7] 6 = g6 at *
   have HG6 := hide hg6
   clear hg6
   have kX := block_cell rX
   have fX := block_frozen rX
   go_wp2_with fail
   generalize hV : World.setCell _ ⟨w.heap.size + 1, 1, none⟩ _ = V
   have hV8 : V = putRow W2 (w.heap.size + 1) 0 [.int .u16 0, .int .u16 g6] := hV.symm
   have hbV : But (fun b => b = w.heap.size + 1) W2 V := by rw [hV8]; exact putRow_but (E := fun b => b = w.heap.size + 1) (n := w.heap.size + 1) rfl _ _ _ _ (But.refl _ _)
   have pV := putRow_all ([.int .u16 0, .int .u16 g6] : List Value) rX rfl
   rw [← hV8] at pV
   clear hV hV8 kX fX
   have PV := block_cell pV
   have hwV : Below w.heap.size w V := hwX.trans (hbV.below hwX.size (fun k hk e => by omega))
   exact bodyPost_ret (v := .tuple #[.agg #[.int .u16 0, .int .u16 g6], .int .i64 0]) (by simp [results, Tryz.results106, go_sem, PV]) rfl ⟨hwV, .inr ⟨by rw [HPG.out]; exact HN4.out, by rw [HG6.out]⟩⟩
 ·have HPG := hide hf
  clear hf hO
  have l1 : Later w0 w1 := hb1
  generalize hB1 : ghs (bgz [x0, x1, x2, x3, x4, x5, x6, x7]) = y1 at *
  generalize hB2 : gha (bgz [x0, x1, x2, x3, x4, x5, x6, x7]) = y2 at *
  generalize hB3 : gsq (bgz [x0, x1, x2, x3, x4, x5, x6, x7]) [x0, x1, x2, x3, x4, x5, x6, x7] = y3 at *
  generalize hB4 : gak (bgz [x0, x1, x2, x3, x4, x5, x6, x7]) [x0, x1, x2, x3, x4, x5, x6, x7] = y4 at *
  generalize hB5 : [x0, x1, x2, x3, x4, x5, x6, x7].length - ghd (bgz [x0, x1, x2, x3, x4, x5, x6, x7]) = y5 at *
  clear hB1 hB2 hB3 hB4 hB5
  have la : Later w1 (w1.alloc (.cells #[.int .u16 (getAt2 [x0, x1, x2, x3, x4, x5, x6, x7] 6), .bool y1, .bool y2, .int .u32 y3, .int .u32 y4, .slice a1 y5 c1] 169)) := (Below.refl _ _).alloc (Nat.le_refl _) _
  have pW := later_keep (l1.trans la) P0.out
  have rW := later_keep (l1.trans la) R0.out
  have hwW := hb0.trans ((l1.trans la).mono hb0.size)
  go_wp2_with fail
  generalize w1.alloc (.cells #[.int .u16 (getAt2 [x0, x1, x2, x3, x4, x5, x6, x7] 6), .bool y1, .bool y2, .int .u32 y3, .int .u32 y4, .slice a1 y5 c1] 169) = W at *
  refine (get16_at _ [x0, x1, x2, x3, x4, x5, x6, x7] hB 6 W (rd8 pW)).mono ?_
  rintro e W2 ⟨rfl, n2, e2⟩
  have l2 : Later W W2 := by rw [e2]; exact below_draw (Later.refl W) n2
  clear e2
  have rX := later_keep l2 rW
  have hwX := hwW.trans (l2.mono hwW.size)
  generalize hg6 : getAt2 [x0, x1, x2, x3, x4, x5, x6, x7] 6 = g6 at *
  have HG6 := hide hg6
  clear hg6
  have kX := block_cell rX
  have fX := block_frozen rX
  go_wp2_with fail
  generalize hV : World.setCell _ ⟨w.heap.size + 1, 1, none⟩ _ = V
  have hV8 : V = putRow W2 (w.heap.size + 1) 0 [.int .u16 0, .int .u16 g6] := hV.symm
  have hbV : But (fun b => b = w.heap.size + 1) W2 V := by rw [hV8]; exact putRow_but (E := fun b => b = w.heap.size + 1) (n := w.heap.size + 1) rfl _ _ _ _ (But.refl _ _)
  have pV := putRow_all ([.int .u16 0, .int .u16 g6] : List Value) rX rfl
  rw [← hV8] at pV
  clear hV hV8 kX fX
  have PV := block_cell pV
  have hwV : Below w.heap.size w V := hwX.trans (hbV.below hwX.size (fun k hk e => by omega))
  exact bodyPost_ret (v := .tuple #[.agg #[.int .u16 0, .int .u16 g6], .int .i64 0]) (by simp [results, Tryz.results106, go_sem, PV]) rfl ⟨hwV, .inr ⟨by rw [HPG.out]; decide, by rw [HG6.out]⟩⟩
theorem parse_any (sv : Value) (zs : List Int) (w : World) (hB : Mt.By zs) (hl : zs.length ≤ 225000000000000) (hI : Rd w.heap.size w sv zs) :
  Calls Tryz.prog 19 #[sv] w fun e w' => Below w.heap.size w w' ∧
   ((rde false zs ≠ 0 ∧ e = .returned (.tuple #[.agg zc.toArray, .int .i64 (rde false zs)])) ∨
    (rde false zs = 0 ∧ ∃ so sd, e = .returned (.tuple #[pkt zs so sd, .int .i64 0]) ∧ Ow w.heap.size w' so ((zs.take (hl4 zs).toNat).drop 20) ∧ Ow w.heap.size w' sd ((zs.take (ral false zs).toNat).drop (hl4 zs).toNat))) := by
 obtain ⟨a, cap, rfl, hl1, hm1⟩ := hI.slice
 have hb1 : Below w.heap.size w (w.alloc (.cells zc.toArray 56)) := (Below.refl _ _).alloc (Nat.le_refl _) _
 have p1 := heap_alloc_new w (.cells zc.toArray 56)
 have H := hide (read_any false _ zs (w.alloc (.cells zc.toArray 56)) hB hl ((hI.below hb1).mono (by simp)))
 go_enter Tryz.func19, Tryz.ntmps19
 go_wp2_with fail
 refine H.out.mono ?_
 rintro e w2 ⟨hb2, ⟨h, rfl⟩ | ⟨h, so, sd, rfl, hO1, hO2⟩⟩
 ·have p2 := (hb2.block w.heap.size (by simp)).trans p1
  have P2 := block_cell p2
  have F2 := block_frozen p2
  go_wp2_with fail
  generalize hV : World.setCell _ ⟨w.heap.size, 8, none⟩ _ = V
  have hV9 : V = putRow w2 w.heap.size 0 zc := hV.symm
  have hb8 : But (fun b => b = w.heap.size) w2 V := by rw [hV9]; exact putRow_but (E := fun b => b = w.heap.size) (n := w.heap.size) rfl _ _ _ _ (But.refl _ _)
  have p8 := putRow_all zc p2 rfl
  rw [← hV9] at p8
  clear hV hV9 P2 F2 H
  have P8 := block_cell p8
  have hbW := (hb1.trans (hb2.mono (by simp))).trans (hb8.below (by have := hb2.size; simp at this; omega) (fun j h e => by omega))
  exact bodyPost_ret (v := .tuple #[.agg zc.toArray, .int .i64 (rde false zs)]) (by simp [results, Tryz.results19, go_sem, P8]) rfl ⟨hbW, .inl ⟨h, rfl⟩⟩
 ·have p2 := (hb2.block w.heap.size (by simp)).trans p1
  have P2 := block_cell p2
  have F2 := block_frozen p2
  obtain ⟨aso, cso, rfl, _, _⟩ := hO1.slice
  obtain ⟨asd, csd, rfl, _, _⟩ := hO2.slice
  generalize hL1 : ((zs.take (hl4 zs).toNat).drop 20).length = lo at *
  generalize hL2 : ((zs.take (ral false zs).toNat).drop (hl4 zs).toNat).length = ld at *
  have HL1 := hide hL1
  have HL2 := hide hL2
  clear hL1 hL2
  unfold pkt
  go_wp2_with fail
  generalize hV : World.setCell _ ⟨w.heap.size, 8, none⟩ _ = V
  have hV9 : V = putRow w2 w.heap.size 0 [.int .u8 (zs[1]?.getD 0), .int .u16 (wat zs 4), .bool (decide (16384 ≤ wat zs 6 % 32768)), .int .u8 (zs[8]?.getD 0), .int .u8 (zs[9]?.getD 0), .int .u32 (wat4 zs 12), .int .u32 (wat4 zs 16), .slice aso lo cso, .slice asd ld csd] := hV.symm
  have hb8 : But (fun b => b = w.heap.size) w2 V := by rw [hV9]; exact putRow_but (E := fun b => b = w.heap.size) (n := w.heap.size) rfl _ _ _ _ (But.refl _ _)
  have p8 := putRow_all [.int .u8 (zs[1]?.getD 0), .int .u16 (wat zs 4), .bool (decide (16384 ≤ wat zs 6 % 32768)), .int .u8 (zs[8]?.getD 0), .int .u8 (zs[9]?.getD 0), .int .u32 (wat4 zs 12), .int .u32 (wat4 zs 16), .slice aso lo cso, .slice asd ld csd] p2 rfl
  rw [← hV9] at p8
  clear hV hV9 P2 F2 H
  have P8 := block_cell p8
  have hbW := (hb1.trans (hb2.mono (by simp))).trans (hb8.below (by have := hb2.size; simp at this; omega) (fun j h e => by omega))
  exact bodyPost_ret (v := .tuple #[pkt zs (.slice aso lo cso) (.slice asd ld csd), .int .i64 0]) (by simp [results, Tryz.results19, go_sem, P8, pkt]) rfl ⟨hbW, .inr ⟨h, _, _, rfl, (hO1.but hb8 (fun b h e => by simp at h; omega)).mono (by simp), (hO2.but hb8 (fun b h e => by simp at h; omega)).mono (by simp)⟩⟩
theorem quote_any (sv : Value) (zs : List Int) (w : World) (hB : Mt.By zs) (hl : zs.length ≤ 225000000000000) (hI : Rd w.heap.size w sv zs) :
  Calls Tryz.prog 52 #[sv] w fun e w' => Below w.heap.size w w' ∧
   ((rde true zs ≠ 0 ∧ e = .returned (.tuple #[.agg zc.toArray, .int .i64 (rde true zs)])) ∨
    (rde true zs = 0 ∧ ∃ so sd, e = .returned (.tuple #[pkt zs so sd, .int .i64 0]) ∧ Ow w.heap.size w' so ((zs.take (hl4 zs).toNat).drop 20) ∧ Ow w.heap.size w' sd ((zs.take (ral true zs).toNat).drop (hl4 zs).toNat))) := by
 obtain ⟨a, cap, rfl, hl1, hm1⟩ := hI.slice
 have hb1 : Below w.heap.size w (w.alloc (.cells zc.toArray 56)) := (Below.refl _ _).alloc (Nat.le_refl _) _
 have p1 := heap_alloc_new w (.cells zc.toArray 56)
 have H := hide (read_any true _ zs (w.alloc (.cells zc.toArray 56)) hB hl ((hI.below hb1).mono (by simp)))
 go_enter Tryz.func52, Tryz.ntmps52
 go_wp2_with fail
 refine H.out.mono ?_
 rintro e w2 ⟨hb2, ⟨h, rfl⟩ | ⟨h, so, sd, rfl, hO1, hO2⟩⟩
 ·have p2 := (hb2.block w.heap.size (by simp)).trans p1
  have P2 := block_cell p2
  have F2 := block_frozen p2
  go_wp2_with fail
  generalize hV : World.setCell _ ⟨w.heap.size, 8, none⟩ _ = V
  have hV9 : V = putRow w2 w.heap.size 0 zc := hV.symm
  have hb8 : But (fun b => b = w.heap.size) w2 V := by rw [hV9]; exact putRow_but (E := fun b => b = w.heap.size) (n := w.heap.size) rfl _ _ _ _ (But.refl _ _)
  have p8 := putRow_all zc p2 rfl
  rw [← hV9] at p8
  clear hV hV9 P2 F2 H
  have P8 := block_cell p8
  have hbW := (hb1.trans (hb2.mono (by simp))).trans (hb8.below (by have := hb2.size; simp at this; omega) (fun j h e => by omega))
  exact bodyPost_ret (v := .tuple #[.agg zc.toArray, .int .i64 (rde true zs)]) (by simp [results, Tryz.results52, go_sem, P8]) rfl ⟨hbW, .inl ⟨h, rfl⟩⟩
 ·have p2 := (hb2.block w.heap.size (by simp)).trans p1
  have P2 := block_cell p2
  have F2 := block_frozen p2
  obtain ⟨aso, cso, rfl, _, _⟩ := hO1.slice
  obtain ⟨asd, csd, rfl, _, _⟩ := hO2.slice
  generalize hL1 : ((zs.take (hl4 zs).toNat).drop 20).length = lo at *
  generalize hL2 : ((zs.take (ral true zs).toNat).drop (hl4 zs).toNat).length = ld at *
  have HL1 := hide hL1
  have HL2 := hide hL2
  clear hL1 hL2
  unfold pkt
  go_wp2_with fail
  generalize hV : World.setCell _ ⟨w.heap.size, 8, none⟩ _ = V
  have hV9 : V = putRow w2 w.heap.size 0 [.int .u8 (zs[1]?.getD 0), .int .u16 (wat zs 4), .bool (decide (16384 ≤ wat zs 6 % 32768)), .int .u8 (zs[8]?.getD 0), .int .u8 (zs[9]?.getD 0), .int .u32 (wat4 zs 12), .int .u32 (wat4 zs 16), .slice aso lo cso, .slice asd ld csd] := hV.symm
  have hb8 : But (fun b => b = w.heap.size) w2 V := by rw [hV9]; exact putRow_but (E := fun b => b = w.heap.size) (n := w.heap.size) rfl _ _ _ _ (But.refl _ _)
  have p8 := putRow_all [.int .u8 (zs[1]?.getD 0), .int .u16 (wat zs 4), .bool (decide (16384 ≤ wat zs 6 % 32768)), .int .u8 (zs[8]?.getD 0), .int .u8 (zs[9]?.getD 0), .int .u32 (wat4 zs 12), .int .u32 (wat4 zs 16), .slice aso lo cso, .slice asd ld csd] p2 rfl
  rw [← hV9] at p8
  clear hV hV9 P2 F2 H
  have P8 := block_cell p8
  have hbW := (hb1.trans (hb2.mono (by simp))).trans (hb8.below (by have := hb2.size; simp at this; omega) (fun j h e => by omega))
  exact bodyPost_ret (v := .tuple #[pkt zs (.slice aso lo cso) (.slice asd ld csd), .int .i64 0]) (by simp [results, Tryz.results52, go_sem, P8, pkt]) rfl ⟨hbW, .inr ⟨h, _, _, rfl, (hO1.but hb8 (fun b h e => by simp at h; omega)).mono (by simp), (hO2.but hb8 (fun b h e => by simp at h; omega)).mono (by simp)⟩⟩
section
variable (tos id : Int) (keep : Bool) (ttl proto src dst : Int) (zo zd : List Int) (all : Int)
end
def erb (ty : Int) : Bool := ty == 3 || (ty == 11 || ty == 12)
def qdt (mz : List Int) : List Int := (mz.take (ral true mz).toNat).drop (hl4 mz).toNat
def qpr (mz : List Int) : Int := mz[9]?.getD 0
def qie (pr : Int) (d : List Int) : Int := if pr = 6 then 0 else if pr = 17 then 0 else if pr = 1 then (if ecb (d[0]?.getD 0) (d[1]?.getD 0) = true then 0 else 12) else if pr = 47 then (if pge 47 (d.take 8) = 4 then 4 else 0) else 12
def qia (pr : Int) (d : List Int) : Int := if pr = 6 then wat d 0 else if pr = 17 then wat d 0 else if pr = 1 then wat d 4 else 0
def qib (pr : Int) (d : List Int) : Int := if pr = 6 then wat d 2 else if pr = 17 then wat d 2 else if pr = 1 then wat d 4 else wat d 6
def que (proto : Int) (zd : List Int) : Int := if pie proto zd ≠ 0 then pie proto zd else if erb (zd[0]?.getD 0) = false then 12 else if rde true (zd.drop 8) ≠ 0 then rde true (zd.drop 8) else qie (qpr (zd.drop 8)) (qdt (zd.drop 8))
theorem quoted_bad (tos id ttl proto src dst : Int) (keep : Bool) (so sd : Value) (zd : List Int) (w : World) (hT : Tb w) (hB : Mt.By zd) (hI : Rd w.heap.size w sd zd) (hl : zd.length ≤ 140737488355328) (hbad : pie proto zd ≠ 0 ∨ erb (zd[0]?.getD 0) = false ∨ rde true (zd.drop 8) ≠ 0) :
  Calls Tryz.prog 20 #[.agg #[.int .u8 tos, .int .u16 id, .bool keep, .int .u8 ttl, .int .u8 proto, .int .u32 src, .int .u32 dst, so, sd]] w fun e w' => Below w.heap.size w w' ∧ e = .returned (.tuple #[.agg #[.int .u8 0, .int .u32 0, .int .u32 0, .int .u16 0, .int .u16 0], .int .i64 (que proto zd)]) := by
 obtain ⟨ad, cd, rfl, _, _⟩ := hI.slice
 have hb0 : Below w.heap.size w ((w.alloc (.cells #[.int .u8 tos, .int .u16 id, .bool keep, .int .u8 ttl, .int .u8 proto, .int .u32 src, .int .u32 dst, so, .slice ad zd.length cd] 56)).alloc (.cells #[.int .u8 0, .int .u32 0, .int .u32 0, .int .u16 0, .int .u16 0] 68)) := ((Below.refl _ _).alloc (Nat.le_refl _) _).alloc (by simp) _
 have r0 := heap_alloc_new (w.alloc (.cells #[.int .u8 tos, .int .u16 id, .bool keep, .int .u8 ttl, .int .u8 proto, .int .u32 src, .int .u32 dst, so, .slice ad zd.length cd] 56)) (.cells #[.int .u8 0, .int .u32 0, .int .u32 0, .int .u16 0, .int .u16 0] 68)
 rw [World.size_alloc] at r0
 have R0 := hide r0
 clear r0
 go_enter Tryz.func20, Tryz.ntmps20
 go_wp2_with fail
 generalize ((w.alloc (.cells #[.int .u8 tos, .int .u16 id, .bool keep, .int .u8 ttl, .int .u8 proto, .int .u32 src, .int .u32 dst, so, .slice ad zd.length cd] 56)).alloc (.cells #[.int .u8 0, .int .u32 0, .int .u32 0, .int .u16 0, .int .u16 0] 68)) = w0 at *
 refine (parseIcmp_any tos id ttl proto src dst keep _ _ zd w0 hB ((hI.below hb0).mono hb0.size) hl).mono ?_
 rintro e w1 ⟨hb1, ⟨hf, rfl⟩ | ⟨hf, a1, c1, rfl, hO⟩⟩
 ·rw [show zm.toArray = #[.int .u8 0, .int .u8 0, .int .u32 0, .slice none 0 0] from rfl]
  have HQ : Hid (que proto zd = pie proto zd) := if_pos hf
  generalize hpu : pie proto zd = f at *
  have hne : (f != 0) = true := by simp [hf]
  clear hpu hf hbad
  have la : Later w1 (w1.alloc (.cells #[.int .u8 0, .int .u8 0, .int .u32 0, .slice none 0 0] 65)) := (Below.refl _ _).alloc (Nat.le_refl _) _
  have l1 := Later.trans hb1 la
  have rX := later_keep l1 R0.out
  have hwX := hb0.trans (l1.mono hb0.size)
  have kX := block_cell rX
  have fX := block_frozen rX
  go_wp2_with fail
  generalize w1.alloc (.cells #[.int .u8 0, .int .u8 0, .int .u32 0, .slice none 0 0] 65) = W at *
  generalize hV : World.setCell _ ⟨w.heap.size + 1, 4, none⟩ _ = V
  have hV8 : V = putRow W (w.heap.size + 1) 0 [.int .u8 0, .int .u32 0, .int .u32 0, .int .u16 0, .int .u16 0] := hV.symm
  have hbV : But (fun b => b = w.heap.size + 1) W V := by rw [hV8]; exact putRow_but (E := fun b => b = w.heap.size + 1) (n := w.heap.size + 1) rfl _ _ _ _ (But.refl _ _)
  have pV := putRow_all ([.int .u8 0, .int .u32 0, .int .u32 0, .int .u16 0, .int .u16 0] : List Value) rX rfl
  rw [← hV8] at pV
  clear hV hV8 kX fX
  have PV := block_cell pV
  have hwV : Below w.heap.size w V := hwX.trans (hbV.below hwX.size (fun k hk e => by omega))
  exact bodyPost_ret (v := .tuple #[.agg #[.int .u8 0, .int .u32 0, .int .u32 0, .int .u16 0, .int .u16 0], .int .i64 f]) (by simp [results, Tryz.results20, go_sem, PV]) rfl ⟨hwV, by rw [HQ.out]⟩
 ·have la : Later w1 (w1.alloc (.cells #[.int .u8 (zd[0]?.getD 0), .int .u8 (zd[1]?.getD 0), .int .u32 (wat4 zd 4), .slice a1 (zd.length - 8) c1] 65)) := (Below.refl _ _).alloc (Nat.le_refl _) _
  have l1 := Later.trans hb1 la
  have mW := heap_alloc_new w1 (.cells #[.int .u8 (zd[0]?.getD 0), .int .u8 (zd[1]?.getD 0), .int .u32 (wat4 zd 4), .slice a1 (zd.length - 8) c1] 65)
  have rW := later_keep l1 R0.out
  have hwW := hb0.trans (l1.mono hb0.size)
  have DW := hO.ck (CK.of la)
  have HPF := hide hf
  clear hf
  go_wp2_with fail
  generalize w1.alloc (.cells #[.int .u8 (zd[0]?.getD 0), .int .u8 (zd[1]?.getD 0), .int .u32 (wat4 zd 4), .slice a1 (zd.length - 8) c1] 65) = W at *
  generalize w1.heap.size = gm at *
  refine (isError_any (zd[0]?.getD 0) (zd[1]?.getD 0) (wat4 zd 4) _ W).mono ?_
  have HER : Hid (erb (zd[0]?.getD 0) = (zd[0]?.getD 0 == 3 || (zd[0]?.getD 0 == 11 || zd[0]?.getD 0 == 12))) := rfl
  generalize (zd[0]?.getD 0 == 3 || (zd[0]?.getD 0 == 11 || zd[0]?.getD 0 == 12)) = bq at *
  rintro e w2 ⟨rfl, hb2⟩
  have l2 : Later W w2 := hb2
  have r2 := later_keep l2 rW
  have hw2 := hwW.trans (hb2.mono hwW.size)
  cases bq with
  | false =>
   have HQ : Hid (que proto zd = 12) := by show _ = _; unfold que; rw [if_neg (fun h => h HPF.out), if_pos HER.out]
   clear hbad
   have rX := r2
   have hwX := hw2
   have kX := block_cell rX
   have fX := block_frozen rX
   go_wp2_with fail
   generalize hV : World.setCell _ ⟨w.heap.size + 1, 4, none⟩ _ = V
   have hV8 : V = putRow w2 (w.heap.size + 1) 0 [.int .u8 0, .int .u32 0, .int .u32 0, .int .u16 0, .int .u16 0] := hV.symm
   have hbV : But (fun b => b = w.heap.size + 1) w2 V := by rw [hV8]; exact putRow_but (E := fun b => b = w.heap.size + 1) (n := w.heap.size + 1) rfl _ _ _ _ (But.refl _ _)
   have pV := putRow_all ([.int .u8 0, .int .u32 0, .int .u32 0, .int .u16 0, .int .u16 0] : List Value) rX rfl
   rw [← hV8] at pV
   clear hV hV8 kX fX
   have PV := block_cell pV
   have hwV : Below w.heap.size w V := hwX.trans (hbV.below hwX.size (fun k hk e => by omega))
   exact bodyPost_ret (v := .tuple #[.agg #[.int .u8 0, .int .u32 0, .int .u32 0, .int .u16 0, .int .u16 0], .int .i64 12]) (by simp [results, Tryz.results20, go_sem, PV]) rfl ⟨hwV, by rw [HQ.out]⟩
  | true =>
   have hrd : rde true (zd.drop 8) ≠ 0 := by
    rcases hbad with h | h | h
    ·exact absurd HPF.out h
    ·rw [HER.out] at h; cases h
    ·exact h
   clear hbad
   have HQ : Hid (que proto zd = rde true (zd.drop 8)) := by show _ = _; unfold que; rw [if_neg (fun h => h HPF.out), if_neg (by rw [HER.out]; decide), if_pos hrd]
   have km := block_cell (later_keep l2 mW)
   have D2 := DW.ck (CK.of l2)
   go_wp2_with fail
   clear km
   refine (quote_any _ (zd.drop 8) w2 (hB.drop 8) (by simp; omega) D2.rd).mono ?_
   rintro e w3 ⟨hb3, ⟨hf3, rfl⟩ | ⟨hf3, _⟩⟩
   ·rw [show zc.toArray = #[.int .u8 0, .int .u16 0, .bool false, .int .u8 0, .int .u8 0, .int .u32 0, .int .u32 0, .slice none 0 0, .slice none 0 0] from rfl]
    generalize hpu : rde true (zd.drop 8) = f at *
    have hne : (f != 0) = true := by simp [hrd]
    clear hpu hrd hf3
    have la3 : Later w3 (w3.alloc (.cells #[.int .u8 0, .int .u16 0, .bool false, .int .u8 0, .int .u8 0, .int .u32 0, .int .u32 0, .slice none 0 0, .slice none 0 0] 56)) := (Below.refl _ _).alloc (Nat.le_refl _) _
    have l3 := Later.trans hb3 la3
    have rX := later_keep l3 r2
    have hwX := hw2.trans (l3.mono hw2.size)
    have kX := block_cell rX
    have fX := block_frozen rX
    go_wp2_with fail
    generalize w3.alloc (.cells #[.int .u8 0, .int .u16 0, .bool false, .int .u8 0, .int .u8 0, .int .u32 0, .int .u32 0, .slice none 0 0, .slice none 0 0] 56) = W3 at *
    generalize hV : World.setCell _ ⟨w.heap.size + 1, 4, none⟩ _ = V
    have hV8 : V = putRow W3 (w.heap.size + 1) 0 [.int .u8 0, .int .u32 0, .int .u32 0, .int .u16 0, .int .u16 0] := hV.symm
    have hbV : But (fun b => b = w.heap.size + 1) W3 V := by rw [hV8]; exact putRow_but (E := fun b => b = w.heap.size + 1) (n := w.heap.size + 1) rfl _ _ _ _ (But.refl _ _)
    have pV := putRow_all ([.int .u8 0, .int .u32 0, .int .u32 0, .int .u16 0, .int .u16 0] : List Value) rX rfl
    rw [← hV8] at pV
    clear hV hV8 kX fX
    have PV := block_cell pV
    have hwV : Below w.heap.size w V := hwX.trans (hbV.below hwX.size (fun k hk e => by omega))
    exact bodyPost_ret (v := .tuple #[.agg #[.int .u8 0, .int .u32 0, .int .u32 0, .int .u16 0, .int .u16 0], .int .i64 f]) (by simp [results, Tryz.results20, go_sem, PV]) rfl ⟨hwV, by rw [HQ.out]⟩
   ·exact absurd hf3 hrd
theorem quoted_gen (pr x1 y1 e0 : Int) (fw fb : FuncId) (tos id ttl proto src dst : Int) (keep : Bool) (so sd : Value) (zd : List Int) (w : World) (hT : Tb w) (hB : Mt.By zd) (hI : Rd w.heap.size w sd zd) (hl : zd.length ≤ 140737488355328) (hpi : pie proto zd = 0) (her : erb (zd[0]?.getD 0) = true) (hrd : rde true (zd.drop 8) = 0) (hpr : (zd.drop 8)[9]?.getD 0 = pr) (h8 : 8 ≤ (qdt (zd.drop 8)).length)
  (hlk0 : ∀ (w : World) (b : Nat), w.heap[b]? = some (.map rdE 4) → (Instr.lookup 127 (.map (some b)) (.int .u8 pr) true).run Tryz.prog w = .ok (.tuple #[.agg #[.func (.func fw) #[] #[], .func (.func fb) #[] #[]], .bool true]) w)
  (hcf : ∀ (args : Array Value) (w : World), (callFunc fb args).run Tryz.prog w = .ok (.enter fb args) w)
  (hf : ∀ w', Below w.heap.size w w' → Calls Tryz.prog fb #[.agg #[.int .u8 ((qdt (zd.drop 8))[0]?.getD 0), .int .u8 ((qdt (zd.drop 8))[1]?.getD 0), .int .u8 ((qdt (zd.drop 8))[2]?.getD 0), .int .u8 ((qdt (zd.drop 8))[3]?.getD 0), .int .u8 ((qdt (zd.drop 8))[4]?.getD 0), .int .u8 ((qdt (zd.drop 8))[5]?.getD 0), .int .u8 ((qdt (zd.drop 8))[6]?.getD 0), .int .u8 ((qdt (zd.drop 8))[7]?.getD 0)]] w' fun e w'' => Below w'.heap.size w' w'' ∧ ∃ a b : Int, e = .returned (.tuple #[.agg #[.int .u16 a, .int .u16 b], .int .i64 e0]) ∧ (e0 = 0 → a = x1 ∧ b = y1)) :
  Calls Tryz.prog 20 #[.agg #[.int .u8 tos, .int .u16 id, .bool keep, .int .u8 ttl, .int .u8 proto, .int .u32 src, .int .u32 dst, so, sd]] w fun e w' => Below w.heap.size w w' ∧ e = .returned (.tuple #[otv e0 pr (wat4 (zd.drop 8) 12) (wat4 (zd.drop 8) 16) x1 y1, .int .i64 e0]) := by
 obtain ⟨ad, cd, rfl, _, _⟩ := hI.slice
 have hb0 : Below w.heap.size w ((w.alloc (.cells #[.int .u8 tos, .int .u16 id, .bool keep, .int .u8 ttl, .int .u8 proto, .int .u32 src, .int .u32 dst, so, .slice ad zd.length cd] 56)).alloc (.cells #[.int .u8 0, .int .u32 0, .int .u32 0, .int .u16 0, .int .u16 0] 68)) := ((Below.refl _ _).alloc (Nat.le_refl _) _).alloc (by simp) _
 have r0 := heap_alloc_new (w.alloc (.cells #[.int .u8 tos, .int .u16 id, .bool keep, .int .u8 ttl, .int .u8 proto, .int .u32 src, .int .u32 dst, so, .slice ad zd.length cd] 56)) (.cells #[.int .u8 0, .int .u32 0, .int .u32 0, .int .u16 0, .int .u16 0] 68)
 rw [World.size_alloc] at r0
 have R0 := hide r0
 clear r0
 go_enter Tryz.func20, Tryz.ntmps20
 go_wp2_with fail
 generalize ((w.alloc (.cells #[.int .u8 tos, .int .u16 id, .bool keep, .int .u8 ttl, .int .u8 proto, .int .u32 src, .int .u32 dst, so, .slice ad zd.length cd] 56)).alloc (.cells #[.int .u8 0, .int .u32 0, .int .u32 0, .int .u16 0, .int .u16 0] 68)) = w0 at *
 refine (parseIcmp_any tos id ttl proto src dst keep _ _ zd w0 hB ((hI.below hb0).mono hb0.size) hl).mono ?_
 rintro e w1 ⟨hb1, ⟨hff, rfl⟩ | ⟨hff, a1, c1, rfl, hO⟩⟩
 ·exact absurd hpi hff
 ·have la : Later w1 (w1.alloc (.cells #[.int .u8 (zd[0]?.getD 0), .int .u8 (zd[1]?.getD 0), .int .u32 (wat4 zd 4), .slice a1 (zd.length - 8) c1] 65)) := (Below.refl _ _).alloc (Nat.le_refl _) _
  have l1 := Later.trans hb1 la
  have mW := heap_alloc_new w1 (.cells #[.int .u8 (zd[0]?.getD 0), .int .u8 (zd[1]?.getD 0), .int .u32 (wat4 zd 4), .slice a1 (zd.length - 8) c1] 65)
  have rW := later_keep l1 R0.out
  have hwW := hb0.trans (l1.mono hb0.size)
  have DW := hO.ck (CK.of la)
  clear hff
  go_wp2_with fail
  generalize w1.alloc (.cells #[.int .u8 (zd[0]?.getD 0), .int .u8 (zd[1]?.getD 0), .int .u32 (wat4 zd 4), .slice a1 (zd.length - 8) c1] 65) = W at *
  generalize w1.heap.size = gm at *
  refine (isError_any (zd[0]?.getD 0) (zd[1]?.getD 0) (wat4 zd 4) _ W).mono ?_
  rw [show (zd[0]?.getD 0 == 3 || (zd[0]?.getD 0 == 11 || zd[0]?.getD 0 == 12)) = true from her]
  rintro e w2 ⟨rfl, hb2⟩
  have l2 : Later W w2 := hb2
  have r2 := later_keep l2 rW
  have hw2 := hwW.trans (hb2.mono hwW.size)
  have km := block_cell (later_keep l2 mW)
  have D2 := DW.ck (CK.of l2)
  go_wp2_with fail
  clear km
  refine (quote_any _ (zd.drop 8) w2 (hB.drop 8) (by simp; omega) D2.rd).mono ?_
  rintro e w3 ⟨hb3, ⟨hf3, _⟩ | ⟨_, qo, qs0, rfl, hO3, hD3⟩⟩
  ·exact absurd hrd hf3
  obtain ⟨b7, c7, rfl, _, _⟩ := hO3.slice
  obtain ⟨b8, c8, rfl, hc8, hc9⟩ := hD3.slice
  unfold pkt
  have HPR := hide hpr
  rw [hpr]
  clear hpr hpi her hrd
  generalize (zd.drop 8)[1]?.getD 0 = q1 at *
  generalize wat (zd.drop 8) 4 = q2 at *
  generalize decide (16384 ≤ wat (zd.drop 8) 6 % 32768) = q3 at *
  generalize (zd.drop 8)[8]?.getD 0 = q4 at *
  generalize hqs : wat4 (zd.drop 8) 12 = qs at *
  generalize hqd : wat4 (zd.drop 8) 16 = qd at *
  have HQS := hide hqs
  have HQD := hide hqd
  clear hqs hqd
  generalize (((zd.drop 8).take (hl4 (zd.drop 8)).toNat).drop 20).length = l7 at *
  clear hO3
  rw [show ((zd.drop 8).take (ral true (zd.drop 8)).toNat).drop (hl4 (zd.drop 8)).toNat = qdt (zd.drop 8) from rfl] at hD3 hc8 ⊢
  generalize hdq : qdt (zd.drop 8) = dq at *
  have HDQ := hide hdq
  clear hdq
  obtain ⟨g8, rfl, _, _, hcs, _⟩ := hD3.at (by omega)
  have la3 : Later w3 (w3.alloc (.cells #[.int .u8 q1, .int .u16 q2, .bool q3, .int .u8 q4, .int .u8 pr, .int .u32 qs, .int .u32 qd, .slice b7 l7 c7, .slice (some ⟨g8, 0, none⟩) dq.length c8] 56)) := (Below.refl _ _).alloc (Nat.le_refl _) _
  have l3 := Later.trans hb3 la3
  have qk := heap_alloc_new w3 (.cells #[.int .u8 q1, .int .u16 q2, .bool q3, .int .u8 q4, .int .u8 pr, .int .u32 qs, .int .u32 qd, .slice b7 l7 c7, .slice (some ⟨g8, 0, none⟩) dq.length c8] 56)
  have r3 := later_keep l3 r2
  have hw3 := hw2.trans (l3.mono hw2.size)
  have HCS : Hid (∀ j, j < dq.length → w3.cell? ⟨g8, j, none⟩ = some (.int .u8 (dq[j]?.getD 0))) := fun j h => (hcs j h).1
  have hgq : w.heap.size + 1 < w3.heap.size := Nat.lt_of_lt_of_le (bl9 r2) hb3.size
  clear D2 hD3 hcs
  go_upto_region 9 with fail
  have HC3 : Hid (∀ j, j < dq.length → (w3.alloc (.cells #[.int .u8 q1, .int .u16 q2, .bool q3, .int .u8 q4, .int .u8 pr, .int .u32 qs, .int .u32 qd, .slice b7 l7 c7, .slice (some ⟨g8, 0, none⟩) dq.length c8] 56)).cell? ⟨g8, j, none⟩ = some (.int .u8 (dq[j]?.getD 0))) := fun j h => la3.cell (HCS.out j h)
  clear HCS
  generalize w3.alloc (.cells #[.int .u8 q1, .int .u16 q2, .bool q3, .int .u8 q4, .int .u8 pr, .int .u32 qs, .int .u32 qd, .slice b7 l7 c7, .slice (some ⟨g8, 0, none⟩) dq.length c8] 56) = w0q at *
  generalize w3.heap.size = gq at *
  have hlt0 : gq < w0q.heap.size := (bl9 qk)
  go_cut [7, 8] (fun q x wx => ∃ g, q = .pointer (some ⟨g, 0, none⟩) ∧ x = .bool true ∧ wx.heap[g]? = some (.cells #[.func (.func fw) #[] #[], .func (.func fb) #[] #[]] 125 (0, 0)) ∧ Below w0q.heap.size w0q wx)
  case first =>
   refine anyT_begin (R := But (fun b => w0q.heap.size ≤ b)) 10 rfl (by kernel_rfl) ?_
   have hd : Later w0q w0q.drew := Later.drew w0q
   have pd := (hd.block gq (bl9 qk)).trans qk
   have bd : Below w0q.heap.size w0q w0q.drew := hd
   generalize w0q.drew = Wd at *
   have ha : ∀ v1, But (fun b => w0q.heap.size ≤ b) Wd v1 → ∀ i, v1.cell? ⟨gq, i, none⟩ = #[Value.int .u8 q1, .int .u16 q2, .bool q3, .int .u8 q4, .int .u8 pr, .int .u32 qs, .int .u32 qd, .slice b7 l7 c7, .slice (some ⟨g8, 0, none⟩) dq.length c8][i]? := fun v1 h => block_cell ((h.block gq (bl9 pd) (by omega)).trans pd)
   have hz : w0q.heap.size ≤ Wd.heap.size := bd.size
   refine tV (But.pre _) 1 rfl rfl ⟨_, fun v h => by (go_simp; rfl), ?_⟩; simp only [Act.put, sA, sB, sC]
   refine tV (But.pre _) 2 rfl rfl ⟨_, fun v h => by (go_simp; rfl), ?_⟩; simp only [Act.put, sA, sB, sC]
   refine anyT_two 0 7 rfl rfl (by kernel_rfl) rfl rfl ?_ ?_
   ·skip
    refine wp_enter 53 #[] (by go_simp) ?_
    refine (readers_any Wd).mono ?_
    rintro e W3 ⟨m, rfl, hb3, hM3⟩
    have l3 : Later Wd W3 := hb3
    refine ⟨But.of l3, ?_⟩
    simp only [Act.put, sA, sB, sC]
    have hlk := hlk0 _ _ hM3
    refine anyT_two 3 7 rfl rfl (by kernel_rfl) rfl rfl ?_ ?_
    ·unfold Oper.wp
     go_simp
     refine ⟨But.refl _ _, ?_⟩
     clear hlk
     refine tV (But.pre _) 4 rfl rfl ⟨_, fun v h => by (go_simp; rfl), ?_⟩; simp only [Act.put, sA, sB, sC]
     refine tV (But.pre _) 5 rfl rfl ⟨_, fun v h => by (go_simp; rfl), ?_⟩; simp only [Act.put, sA, sB, sC]
     refine tV (But.pre _) 6 rfl rfl ⟨_, fun v h => by (go_simp; rfl), ?_⟩; simp only [Act.put, sA, sB, sC]
     refine anyT_one 7 rfl (by kernel_rfl) rfl ?_
     unfold Oper.wp
     go_simp
     have l4 : Later W3 (W3.alloc (.cells #[.nilFunc, .nilFunc] 125)) := (Below.refl _ _).alloc (Nat.le_refl _) _
     have g4 := heap_alloc_new W3 (.cells #[.nilFunc, .nilFunc] 125)
     have b4 : Below w0q.heap.size w0q (W3.alloc (.cells #[.nilFunc, .nilFunc] 125)) := (bd.trans (l3.mono hz)).trans (l4.mono (Nat.le_trans hz l3.size))
     have hge : w0q.heap.size ≤ W3.heap.size := Nat.le_trans hz l3.size
     refine ⟨But.of l4, ?_⟩
     generalize W3.alloc (.cells #[.nilFunc, .nilFunc] 125) = W4 at *
     generalize W3.heap.size = g at *
     have kg := block_cell g4
     have fg := block_frozen g4
     have hsf := run_store_fn Tryz.prog
     refine anyT_one 8 rfl (by kernel_rfl) rfl ?_
     unfold Oper.wp
     go_simp
     generalize hV : World.setCell _ ⟨g, 1, none⟩ _ = V
     have hV8 : V = putRow W4 (g) 0 [.func (.func fw) #[] #[], .func (.func fb) #[] #[]] := hV.symm
     have hbV : But (fun b => w0q.heap.size ≤ b) W4 V := by rw [hV8]; exact putRow_but (E := fun b => w0q.heap.size ≤ b) (n := g) hge _ _ _ _ (But.refl _ _)
     have pV := putRow_all [Value.func (.func fw) #[] #[], .func (.func fb) #[] #[]] g4 rfl
     rw [← hV8] at pV
     clear hV hV8 kg fg hsf
     refine ⟨hbV, ?_⟩
     refine anyT_one 9 rfl (by kernel_rfl) rfl ?_
     unfold Oper.wp
     go_simp
     refine ⟨But.refl _ _, ?_⟩
     refine anyT_done (by kernel_rfl) ?_
     have hbl : Below w0q.heap.size w0q V := b4.trans (hbV.below b4.size (fun k hk e => by omega))
     clear ha
     go_wp2_with fail
     go_meet
     exact ⟨_, rfl, rfl, pV, hbl⟩
    ·unfold Oper.wp
     go_simp
     have l4 : Later W3 (W3.alloc (.cells #[.nilFunc, .nilFunc] 125)) := (Below.refl _ _).alloc (Nat.le_refl _) _
     have g4 := heap_alloc_new W3 (.cells #[.nilFunc, .nilFunc] 125)
     have b4 : Below w0q.heap.size w0q (W3.alloc (.cells #[.nilFunc, .nilFunc] 125)) := (bd.trans (l3.mono hz)).trans (l4.mono (Nat.le_trans hz l3.size))
     have hge : w0q.heap.size ≤ W3.heap.size := Nat.le_trans hz l3.size
     have hM4 := (l4.block m (bl9 hM3)).trans hM3
     refine ⟨But.of l4, ?_⟩
     clear hlk
     generalize W3.alloc (.cells #[.nilFunc, .nilFunc] 125) = W4 at *
     generalize W3.heap.size = g at *
     have hlk := hlk0 _ _ hM4
     refine anyT_one 3 rfl (by kernel_rfl) rfl ?_
     unfold Oper.wp
     go_simp
     refine ⟨But.refl _ _, ?_⟩
     clear hlk
     refine tV (But.pre _) 4 rfl rfl ⟨_, fun v h => by (go_simp; rfl), ?_⟩; simp only [Act.put, sA, sB, sC]
     refine tV (But.pre _) 5 rfl rfl ⟨_, fun v h => by (go_simp; rfl), ?_⟩; simp only [Act.put, sA, sB, sC]
     refine tV (But.pre _) 6 rfl rfl ⟨_, fun v h => by (go_simp; rfl), ?_⟩; simp only [Act.put, sA, sB, sC]
     have kg := block_cell g4
     have fg := block_frozen g4
     have hsf := run_store_fn Tryz.prog
     refine anyT_one 8 rfl (by kernel_rfl) rfl ?_
     unfold Oper.wp
     go_simp
     generalize hV : World.setCell _ ⟨g, 1, none⟩ _ = V
     have hV8 : V = putRow W4 (g) 0 [.func (.func fw) #[] #[], .func (.func fb) #[] #[]] := hV.symm
     have hbV : But (fun b => w0q.heap.size ≤ b) W4 V := by rw [hV8]; exact putRow_but (E := fun b => w0q.heap.size ≤ b) (n := g) hge _ _ _ _ (But.refl _ _)
     have pV := putRow_all [Value.func (.func fw) #[] #[], .func (.func fb) #[] #[]] g4 rfl
     rw [← hV8] at pV
     clear hV hV8 kg fg hsf
     refine ⟨hbV, ?_⟩
     refine anyT_one 9 rfl (by kernel_rfl) rfl ?_
     unfold Oper.wp
     go_simp
     refine ⟨But.refl _ _, ?_⟩
     refine anyT_done (by kernel_rfl) ?_
     have hbl : Below w0q.heap.size w0q V := b4.trans (hbV.below b4.size (fun k hk e => by omega))
     clear ha
     go_wp2_with fail
     go_meet
     exact ⟨_, rfl, rfl, pV, hbl⟩
   ·unfold Oper.wp
    go_simp
    have l4 : Later Wd (Wd.alloc (.cells #[.nilFunc, .nilFunc] 125)) := (Below.refl _ _).alloc (Nat.le_refl _) _
    have g4 := heap_alloc_new Wd (.cells #[.nilFunc, .nilFunc] 125)
    have b4 : Below w0q.heap.size w0q (Wd.alloc (.cells #[.nilFunc, .nilFunc] 125)) := bd.trans (l4.mono hz)
    refine ⟨But.of l4, ?_⟩
    have hge : w0q.heap.size ≤ Wd.heap.size := hz
    generalize Wd.alloc (.cells #[.nilFunc, .nilFunc] 125) = W4 at *
    generalize Wd.heap.size = g at *
    refine anyT_one 0 rfl (by kernel_rfl) rfl ?_
    refine wp_enter 53 #[] (by go_simp) ?_
    refine (readers_any W4).mono ?_
    rintro e W5 ⟨m, rfl, hb5, hM5⟩
    have l5 : Later W4 W5 := hb5
    have g5 := (l5.block g (bl9 g4)).trans g4
    have b5 : Below w0q.heap.size w0q W5 := b4.trans (l5.mono b4.size)
    refine ⟨But.of l5, ?_⟩
    simp only [Act.put, sA, sB, sC]
    have hlk := hlk0 _ _ hM5
    refine anyT_one 3 rfl (by kernel_rfl) rfl ?_
    unfold Oper.wp
    go_simp
    refine ⟨But.refl _ _, ?_⟩
    clear hlk
    refine tV (But.pre _) 4 rfl rfl ⟨_, fun v h => by (go_simp; rfl), ?_⟩; simp only [Act.put, sA, sB, sC]
    refine tV (But.pre _) 5 rfl rfl ⟨_, fun v h => by (go_simp; rfl), ?_⟩; simp only [Act.put, sA, sB, sC]
    refine tV (But.pre _) 6 rfl rfl ⟨_, fun v h => by (go_simp; rfl), ?_⟩; simp only [Act.put, sA, sB, sC]
    have kg := block_cell g5
    have fg := block_frozen g5
    have hsf := run_store_fn Tryz.prog
    refine anyT_one 8 rfl (by kernel_rfl) rfl ?_
    unfold Oper.wp
    go_simp
    generalize hV : World.setCell _ ⟨g, 1, none⟩ _ = V
    have hV8 : V = putRow W5 (g) 0 [.func (.func fw) #[] #[], .func (.func fb) #[] #[]] := hV.symm
    have hbV : But (fun b => w0q.heap.size ≤ b) W5 V := by rw [hV8]; exact putRow_but (E := fun b => w0q.heap.size ≤ b) (n := g) hge _ _ _ _ (But.refl _ _)
    have pV := putRow_all [Value.func (.func fw) #[] #[], .func (.func fb) #[] #[]] g5 rfl
    rw [← hV8] at pV
    clear hV hV8 kg fg hsf
    refine ⟨hbV, ?_⟩
    refine anyT_one 9 rfl (by kernel_rfl) rfl ?_
    unfold Oper.wp
    go_simp
    refine ⟨But.refl _ _, ?_⟩
    refine anyT_done (by kernel_rfl) ?_
    have hbl : Below w0q.heap.size w0q V := b5.trans (hbV.below b5.size (fun k hk e => by omega))
    clear ha
    go_wp2_with fail
    go_meet
    exact ⟨_, rfl, rfl, pV, hbl⟩
  case rest =>
   obtain ⟨g, rfl, rfl, hg, hbc⟩ := hcut
   have qc := (hbc.block gq (bl9 qk)).trans qk
   have rc := (hbc.block _ (bl9 r3)).trans r3
   have hwc := hw3.trans (hbc.mono hw3.size)
   have HCc : Hid (∀ j, j < dq.length → wc.cell? ⟨g8, j, none⟩ = some (.int .u8 (dq[j]?.getD 0))) := fun j h => (hbc.cell (p := ⟨g8, j, none⟩) (World.block_lt_of_cell? w0q ⟨g8, j, none⟩ (HC3.out j h))).trans (HC3.out j h)
   generalize wc = wm at *
   go_upto_region 12 with fail
   go_cut [9, 5] (fun q x wx => ∃ gp u v, q = .pointer (some ⟨gp, 0, none⟩) ∧ x = .int .i64 e0 ∧ wx.heap[gp]? = some (.cells #[.int .u16 u, .int .u16 v] 130 (0, 0)) ∧ Hid (e0 = 0 → u = x1 ∧ v = y1) ∧ Below wm.heap.size wm wx)
   case first =>
    refine anyT_begin (R := But (fun b => wm.heap.size ≤ b)) 13 rfl (by kernel_rfl) ?_
    have ld : Later wm wm.drew := Later.drew wm
    have qWd := later_keep ld qc
    have gWd := later_keep ld hg
    have bd : Below wm.heap.size wm wm.drew := ld
    have cWd : ∀ j, j < dq.length → wm.drew.cell? ⟨g8, j, none⟩ = some (.int .u8 (dq[j]?.getD 0)) := fun j h => ld.cell (HCc.out j h)
    generalize wm.drew = Wd at *
    have hz : wm.heap.size ≤ Wd.heap.size := bd.size
    have hgl := (bl9 hg)
    have hql := (bl9 qc)
    have h8l : g8 < wm.heap.size := World.block_lt_of_cell? wm ⟨g8, 0, none⟩ (HCc.out 0 (by omega))
    have ha : ∀ v1, But (fun b => wm.heap.size ≤ b) Wd v1 → ∀ i, v1.cell? ⟨gq, i, none⟩ = #[Value.int .u8 q1, .int .u16 q2, .bool q3, .int .u8 q4, .int .u8 pr, .int .u32 qs, .int .u32 qd, .slice b7 l7 c7, .slice (some ⟨g8, 0, none⟩) dq.length c8][i]? := fun v1 h => block_cell ((h.block gq (bl9 qWd) (by omega)).trans qWd)
    have hb : ∀ v1, But (fun b => wm.heap.size ≤ b) Wd v1 → ∀ i, v1.cell? ⟨g, i, none⟩ = #[Value.func (.func fw) #[] #[], .func (.func fb) #[] #[]][i]? := fun v1 h => block_cell ((h.block g (bl9 gWd) (by omega)).trans gWd)
    have hc0 : ∀ v1, But (fun b => wm.heap.size ≤ b) Wd v1 → v1.cell? ⟨g8, 0, none⟩ = some (.int .u8 (dq[0]?.getD 0)) := fun v1 h => h.cell (cWd 0 (by omega)) (by show ¬ wm.heap.size ≤ g8; omega)
    have hc1 : ∀ v1, But (fun b => wm.heap.size ≤ b) Wd v1 → v1.cell? ⟨g8, 1, none⟩ = some (.int .u8 (dq[1]?.getD 0)) := fun v1 h => h.cell (cWd 1 (by omega)) (by show ¬ wm.heap.size ≤ g8; omega)
    have hc2 : ∀ v1, But (fun b => wm.heap.size ≤ b) Wd v1 → v1.cell? ⟨g8, 2, none⟩ = some (.int .u8 (dq[2]?.getD 0)) := fun v1 h => h.cell (cWd 2 (by omega)) (by show ¬ wm.heap.size ≤ g8; omega)
    have hc3 : ∀ v1, But (fun b => wm.heap.size ≤ b) Wd v1 → v1.cell? ⟨g8, 3, none⟩ = some (.int .u8 (dq[3]?.getD 0)) := fun v1 h => h.cell (cWd 3 (by omega)) (by show ¬ wm.heap.size ≤ g8; omega)
    have hc4 : ∀ v1, But (fun b => wm.heap.size ≤ b) Wd v1 → v1.cell? ⟨g8, 4, none⟩ = some (.int .u8 (dq[4]?.getD 0)) := fun v1 h => h.cell (cWd 4 (by omega)) (by show ¬ wm.heap.size ≤ g8; omega)
    have hc5 : ∀ v1, But (fun b => wm.heap.size ≤ b) Wd v1 → v1.cell? ⟨g8, 5, none⟩ = some (.int .u8 (dq[5]?.getD 0)) := fun v1 h => h.cell (cWd 5 (by omega)) (by show ¬ wm.heap.size ≤ g8; omega)
    have hc6 : ∀ v1, But (fun b => wm.heap.size ≤ b) Wd v1 → v1.cell? ⟨g8, 6, none⟩ = some (.int .u8 (dq[6]?.getD 0)) := fun v1 h => h.cell (cWd 6 (by omega)) (by show ¬ wm.heap.size ≤ g8; omega)
    have hc7 : ∀ v1, But (fun b => wm.heap.size ≤ b) Wd v1 → v1.cell? ⟨g8, 7, none⟩ = some (.int .u8 (dq[7]?.getD 0)) := fun v1 h => h.cell (cWd 7 (by omega)) (by show ¬ wm.heap.size ≤ g8; omega)
    clear cWd
    have har : ∀ v1 : World, (Instr.arrayAt 132 (.slice (some ⟨g8, 0, none⟩) dq.length c8)).run Tryz.prog v1 = .ok (.pointer (some ⟨g8, 0, none⟩)) v1 := fun v1 => run_arrayAt (w := v1) 132 5 8 _ _ _ Tryz.underlying132 h8
    refine tV (But.pre _) 0 rfl rfl ⟨_, fun v h => by (go_simp; rfl), ?_⟩; simp only [Act.put, sA, sB, sC]
    refine tV (But.pre _) 1 rfl rfl ⟨_, fun v h => by (go_simp; rfl), ?_⟩; simp only [Act.put, sA, sB, sC]
    refine tV (But.pre _) 2 rfl rfl ⟨_, fun v h => by (go_simp; rfl), ?_⟩; simp only [Act.put, sA, sB, sC]
    refine tV (But.pre _) 3 rfl rfl ⟨_, fun v h => by (go_simp; rfl), ?_⟩; simp only [Act.put, sA, sB, sC]
    refine tV (But.pre _) 4 rfl rfl ⟨_, fun v h => by (go_simp; rfl), ?_⟩; simp only [Act.put, sA, sB, sC]
    refine tV (But.pre _) 5 rfl rfl ⟨_, fun v h => by (go_simp; rfl), ?_⟩; simp only [Act.put, sA, sB, sC]
    clear har ha hb hc0 hc1 hc2 hc3 hc4 hc5 hc6 hc7
    refine anyT_two 6 10 rfl rfl (by kernel_rfl) rfl rfl ?_ ?_
    ·refine wp_enter fb #[.agg #[.int .u8 (dq[0]?.getD 0), .int .u8 (dq[1]?.getD 0), .int .u8 (dq[2]?.getD 0), .int .u8 (dq[3]?.getD 0), .int .u8 (dq[4]?.getD 0), .int .u8 (dq[5]?.getD 0), .int .u8 (dq[6]?.getD 0), .int .u8 (dq[7]?.getD 0)]] (by go_simp) ?_
     refine (hf Wd (hwc.trans (ld.mono hwc.size))).mono ?_
     rintro e W5 ⟨hb5, u, v, rfl, hab⟩
     have HAB : Hid (e0 = 0 → u = x1 ∧ v = y1) := hab
     clear hab
     have l5 : Later Wd W5 := hb5
     refine ⟨But.of l5, ?_⟩
     simp only [Act.put, sA, sB, sC]
     refine tV (But.pre _) 7 rfl rfl ⟨_, fun v h => by (go_simp; rfl), ?_⟩; simp only [Act.put, sA, sB, sC]
     refine tV (But.pre _) 8 rfl rfl ⟨_, fun v h => by (go_simp; rfl), ?_⟩; simp only [Act.put, sA, sB, sC]
     refine tV (But.pre _) 9 rfl rfl ⟨_, fun v h => by (go_simp; rfl), ?_⟩; simp only [Act.put, sA, sB, sC]
     refine anyT_one 10 rfl (by kernel_rfl) rfl ?_
     unfold Oper.wp
     go_simp
     have la5 : Later W5 (W5.alloc (.cells #[.int .u16 0, .int .u16 0] 130)) := (Below.refl _ _).alloc (Nat.le_refl _) _
     have g6 := heap_alloc_new W5 (.cells #[.int .u16 0, .int .u16 0] 130)
     refine ⟨But.of la5, ?_⟩
     have b6 : Below wm.heap.size wm (W5.alloc (.cells #[.int .u16 0, .int .u16 0] 130)) := bd.trans ((l5.trans la5).mono hz)
     have hge : wm.heap.size ≤ W5.heap.size := Nat.le_trans hz l5.size
     generalize W5.alloc (.cells #[.int .u16 0, .int .u16 0] 130) = W6 at *
     generalize W5.heap.size = gp at *
     have kg := block_cell g6
     have fg := block_frozen g6
     refine anyT_one 11 rfl (by kernel_rfl) rfl ?_
     unfold Oper.wp
     go_simp
     generalize hV : World.setCell _ ⟨gp, 1, none⟩ _ = V
     have hV8 : V = putRow W6 gp 0 [.int .u16 u, .int .u16 v] := hV.symm
     have hbV : But (fun b => wm.heap.size ≤ b) W6 V := by rw [hV8]; exact putRow_but (E := fun b => wm.heap.size ≤ b) (n := gp) hge _ _ _ _ (But.refl _ _)
     have pV := putRow_all ([.int .u16 u, .int .u16 v] : List Value) g6 rfl
     rw [← hV8] at pV
     clear hV hV8 kg fg
     refine ⟨hbV, ?_⟩
     refine anyT_one 12 rfl (by kernel_rfl) rfl ?_
     unfold Oper.wp
     go_simp
     refine ⟨But.refl _ _, ?_⟩
     refine anyT_done (by kernel_rfl) ?_
     have hbl : Below wm.heap.size wm V := b6.trans (hbV.below b6.size (fun k hk e => by omega))
     go_wp2_with fail
     go_meet
     exact ⟨_, u, v, rfl, rfl, pV, HAB, hbl⟩
    ·unfold Oper.wp
     go_simp
     have la5 : Later Wd (Wd.alloc (.cells #[.int .u16 0, .int .u16 0] 130)) := (Below.refl _ _).alloc (Nat.le_refl _) _
     have g5 := heap_alloc_new Wd (.cells #[.int .u16 0, .int .u16 0] 130)
     refine ⟨But.of la5, ?_⟩
     have hge : wm.heap.size ≤ Wd.heap.size := hz
     generalize Wd.alloc (.cells #[.int .u16 0, .int .u16 0] 130) = W5 at *
     generalize Wd.heap.size = gp at *
     refine anyT_one 6 rfl (by kernel_rfl) rfl ?_
     refine wp_enter fb #[.agg #[.int .u8 (dq[0]?.getD 0), .int .u8 (dq[1]?.getD 0), .int .u8 (dq[2]?.getD 0), .int .u8 (dq[3]?.getD 0), .int .u8 (dq[4]?.getD 0), .int .u8 (dq[5]?.getD 0), .int .u8 (dq[6]?.getD 0), .int .u8 (dq[7]?.getD 0)]] (by go_simp) ?_
     refine (hf W5 (hwc.trans ((ld.trans la5).mono hwc.size))).mono ?_
     rintro e W6 ⟨hb6, u, v, rfl, hab⟩
     have HAB : Hid (e0 = 0 → u = x1 ∧ v = y1) := hab
     clear hab
     have l6 : Later W5 W6 := hb6
     have g6 := later_keep l6 g5
     have b6 : Below wm.heap.size wm W6 := (Below.mono (ld.trans (la5.trans l6)) (Nat.le_refl _))
     refine ⟨But.of l6, ?_⟩
     simp only [Act.put, sA, sB, sC]
     refine tV (But.pre _) 7 rfl rfl ⟨_, fun v h => by (go_simp; rfl), ?_⟩; simp only [Act.put, sA, sB, sC]
     refine tV (But.pre _) 8 rfl rfl ⟨_, fun v h => by (go_simp; rfl), ?_⟩; simp only [Act.put, sA, sB, sC]
     refine tV (But.pre _) 9 rfl rfl ⟨_, fun v h => by (go_simp; rfl), ?_⟩; simp only [Act.put, sA, sB, sC]
     have kg := block_cell g6
     have fg := block_frozen g6
     refine anyT_one 11 rfl (by kernel_rfl) rfl ?_
     unfold Oper.wp
     go_simp
     generalize hV : World.setCell _ ⟨gp, 1, none⟩ _ = V
     have hV8 : V = putRow W6 gp 0 [.int .u16 u, .int .u16 v] := hV.symm
     have hbV : But (fun b => wm.heap.size ≤ b) W6 V := by rw [hV8]; exact putRow_but (E := fun b => wm.heap.size ≤ b) (n := gp) hge _ _ _ _ (But.refl _ _)
     have pV := putRow_all ([.int .u16 u, .int .u16 v] : List Value) g6 rfl
     rw [← hV8] at pV
     clear hV hV8 kg fg
     refine ⟨hbV, ?_⟩
     refine anyT_one 12 rfl (by kernel_rfl) rfl ?_
     unfold Oper.wp
     go_simp
     refine ⟨But.refl _ _, ?_⟩
     refine anyT_done (by kernel_rfl) ?_
     have hbl : Below wm.heap.size wm V := b6.trans (hbV.below b6.size (fun k hk e => by omega))
     go_wp2_with fail
     go_meet
     exact ⟨_, u, v, rfl, rfl, pV, HAB, hbl⟩
   case rest =>
    obtain ⟨gp, u, v, rfl, rfl, hgp, HAB, hb2c⟩ := hcut
    have q5 := (hb2c.block gq (bl9 qc)).trans qc
    have r5 := (hb2c.block _ (bl9 rc)).trans rc
    have hw5 := hwc.trans (hb2c.mono hwc.size)
    have kq := block_cell q5
    have kg := block_cell hgp
    go_wp2_with fail
    clear kq kg
    refine (told_any q1 q2 q4 pr qs qd u v e0 q3 _ _ wc).mono ?_
    rintro e w7 ⟨hb7, ⟨hx, rfl⟩ | ⟨hx, rfl⟩⟩
    ·have HX := hide hx
     clear hx
     have rX := (Below.block hb7 _ (bl9 r5)).trans r5
     have hwX := hw5.trans (hb7.mono hw5.size)
     have kX := block_cell rX
     have fX := block_frozen rX
     go_wp2_with fail
     generalize hV : World.setCell _ ⟨w.heap.size + 1, 4, none⟩ _ = V
     have hV8 : V = putRow w7 (w.heap.size + 1) 0 [.int .u8 0, .int .u32 0, .int .u32 0, .int .u16 0, .int .u16 0] := hV.symm
     have hbV : But (fun b => b = w.heap.size + 1) w7 V := by rw [hV8]; exact putRow_but (E := fun b => b = w.heap.size + 1) (n := w.heap.size + 1) rfl _ _ _ _ (But.refl _ _)
     have pV := putRow_all ([.int .u8 0, .int .u32 0, .int .u32 0, .int .u16 0, .int .u16 0] : List Value) rX rfl
     rw [← hV8] at pV
     clear hV hV8 kX fX
     have PV := block_cell pV
     have hwV : Below w.heap.size w V := hwX.trans (hbV.below hwX.size (fun k hk e => by omega))
     exact bodyPost_ret (v := .tuple #[.agg #[.int .u8 0, .int .u32 0, .int .u32 0, .int .u16 0, .int .u16 0], .int .i64 e0]) (by simp [results, Tryz.results20, go_sem, PV]) rfl ⟨hwV, by rw [otv_no HX.out]⟩
    ·subst hx
     obtain ⟨rfl, rfl⟩ := HAB.out rfl
     have rX := (Below.block hb7 _ (bl9 r5)).trans r5
     have hwX := hw5.trans (hb7.mono hw5.size)
     have kX := block_cell rX
     have fX := block_frozen rX
     go_wp2_with fail
     generalize hV : World.setCell _ ⟨w.heap.size + 1, 4, none⟩ _ = V
     have hV8 : V = putRow w7 (w.heap.size + 1) 0 [.int .u8 pr, .int .u32 qs, .int .u32 qd, .int .u16 u, .int .u16 v] := hV.symm
     have hbV : But (fun b => b = w.heap.size + 1) w7 V := by rw [hV8]; exact putRow_but (E := fun b => b = w.heap.size + 1) (n := w.heap.size + 1) rfl _ _ _ _ (But.refl _ _)
     have pV := putRow_all ([.int .u8 pr, .int .u32 qs, .int .u32 qd, .int .u16 u, .int .u16 v] : List Value) rX rfl
     rw [← hV8] at pV
     clear hV hV8 kX fX
     have PV := block_cell pV
     have hwV : Below w.heap.size w V := hwX.trans (hbV.below hwX.size (fun k hk e => by omega))
     exact bodyPost_ret (v := .tuple #[.agg #[.int .u8 pr, .int .u32 qs, .int .u32 qd, .int .u16 u, .int .u16 v], .int .i64 0]) (by simp [results, Tryz.results20, go_sem, PV]) rfl ⟨hwV, by rw [HQS.out, HQD.out]; rfl⟩
theorem quoted_other (pr : Int) (tos id ttl proto src dst : Int) (keep : Bool) (so sd : Value) (zd : List Int) (w : World) (hT : Tb w) (hB : Mt.By zd) (hI : Rd w.heap.size w sd zd) (hl : zd.length ≤ 140737488355328) (hpi : pie proto zd = 0) (her : erb (zd[0]?.getD 0) = true) (hrd : rde true (zd.drop 8) = 0) (hpr : (zd.drop 8)[9]?.getD 0 = pr) (h8 : 8 ≤ (qdt (zd.drop 8)).length) (hno : pr ≠ 6 ∧ pr ≠ 17 ∧ pr ≠ 1 ∧ pr ≠ 47) :
  Calls Tryz.prog 20 #[.agg #[.int .u8 tos, .int .u16 id, .bool keep, .int .u8 ttl, .int .u8 proto, .int .u32 src, .int .u32 dst, so, sd]] w fun e w' => Below w.heap.size w w' ∧ e = .returned (.tuple #[.agg #[.int .u8 0, .int .u32 0, .int .u32 0, .int .u16 0, .int .u16 0], .int .i64 12]) := by
 obtain ⟨ad, cd, rfl, _, _⟩ := hI.slice
 have hb0 : Below w.heap.size w ((w.alloc (.cells #[.int .u8 tos, .int .u16 id, .bool keep, .int .u8 ttl, .int .u8 proto, .int .u32 src, .int .u32 dst, so, .slice ad zd.length cd] 56)).alloc (.cells #[.int .u8 0, .int .u32 0, .int .u32 0, .int .u16 0, .int .u16 0] 68)) := ((Below.refl _ _).alloc (Nat.le_refl _) _).alloc (by simp) _
 have r0 := heap_alloc_new (w.alloc (.cells #[.int .u8 tos, .int .u16 id, .bool keep, .int .u8 ttl, .int .u8 proto, .int .u32 src, .int .u32 dst, so, .slice ad zd.length cd] 56)) (.cells #[.int .u8 0, .int .u32 0, .int .u32 0, .int .u16 0, .int .u16 0] 68)
 rw [World.size_alloc] at r0
 have R0 := hide r0
 clear r0
 go_enter Tryz.func20, Tryz.ntmps20
 go_wp2_with fail
 generalize ((w.alloc (.cells #[.int .u8 tos, .int .u16 id, .bool keep, .int .u8 ttl, .int .u8 proto, .int .u32 src, .int .u32 dst, so, .slice ad zd.length cd] 56)).alloc (.cells #[.int .u8 0, .int .u32 0, .int .u32 0, .int .u16 0, .int .u16 0] 68)) = w0 at *
 refine (parseIcmp_any tos id ttl proto src dst keep _ _ zd w0 hB ((hI.below hb0).mono hb0.size) hl).mono ?_
 rintro e w1 ⟨hb1, ⟨hff, rfl⟩ | ⟨hff, a1, c1, rfl, hO⟩⟩
 ·exact absurd hpi hff
 ·have la : Later w1 (w1.alloc (.cells #[.int .u8 (zd[0]?.getD 0), .int .u8 (zd[1]?.getD 0), .int .u32 (wat4 zd 4), .slice a1 (zd.length - 8) c1] 65)) := (Below.refl _ _).alloc (Nat.le_refl _) _
  have l1 := Later.trans hb1 la
  have mW := heap_alloc_new w1 (.cells #[.int .u8 (zd[0]?.getD 0), .int .u8 (zd[1]?.getD 0), .int .u32 (wat4 zd 4), .slice a1 (zd.length - 8) c1] 65)
  have rW := later_keep l1 R0.out
  have hwW := hb0.trans (l1.mono hb0.size)
  have DW := hO.ck (CK.of la)
  clear hff
  go_wp2_with fail
  generalize w1.alloc (.cells #[.int .u8 (zd[0]?.getD 0), .int .u8 (zd[1]?.getD 0), .int .u32 (wat4 zd 4), .slice a1 (zd.length - 8) c1] 65) = W at *
  generalize w1.heap.size = gm at *
  refine (isError_any (zd[0]?.getD 0) (zd[1]?.getD 0) (wat4 zd 4) _ W).mono ?_
  rw [show (zd[0]?.getD 0 == 3 || (zd[0]?.getD 0 == 11 || zd[0]?.getD 0 == 12)) = true from her]
  rintro e w2 ⟨rfl, hb2⟩
  have l2 : Later W w2 := hb2
  have r2 := later_keep l2 rW
  have hw2 := hwW.trans (hb2.mono hwW.size)
  have km := block_cell (later_keep l2 mW)
  have D2 := DW.ck (CK.of l2)
  go_wp2_with fail
  clear km
  refine (quote_any _ (zd.drop 8) w2 (hB.drop 8) (by simp; omega) D2.rd).mono ?_
  rintro e w3 ⟨hb3, ⟨hf3, _⟩ | ⟨_, qo, qs0, rfl, hO3, hD3⟩⟩
  ·exact absurd hrd hf3
  obtain ⟨b7, c7, rfl, _, _⟩ := hO3.slice
  obtain ⟨b8, c8, rfl, hc8, hc9⟩ := hD3.slice
  unfold pkt
  have HPR := hide hpr
  rw [hpr]
  clear hpr hpi her hrd
  generalize (zd.drop 8)[1]?.getD 0 = q1 at *
  generalize wat (zd.drop 8) 4 = q2 at *
  generalize decide (16384 ≤ wat (zd.drop 8) 6 % 32768) = q3 at *
  generalize (zd.drop 8)[8]?.getD 0 = q4 at *
  generalize hqs : wat4 (zd.drop 8) 12 = qs at *
  generalize hqd : wat4 (zd.drop 8) 16 = qd at *
  have HQS := hide hqs
  have HQD := hide hqd
  clear hqs hqd
  generalize (((zd.drop 8).take (hl4 (zd.drop 8)).toNat).drop 20).length = l7 at *
  clear hO3
  rw [show ((zd.drop 8).take (ral true (zd.drop 8)).toNat).drop (hl4 (zd.drop 8)).toNat = qdt (zd.drop 8) from rfl] at hD3 hc8 ⊢
  generalize hdq : qdt (zd.drop 8) = dq at *
  have HDQ := hide hdq
  clear hdq
  obtain ⟨g8, rfl, _, _, hcs, _⟩ := hD3.at (by omega)
  have la3 : Later w3 (w3.alloc (.cells #[.int .u8 q1, .int .u16 q2, .bool q3, .int .u8 q4, .int .u8 pr, .int .u32 qs, .int .u32 qd, .slice b7 l7 c7, .slice (some ⟨g8, 0, none⟩) dq.length c8] 56)) := (Below.refl _ _).alloc (Nat.le_refl _) _
  have l3 := Later.trans hb3 la3
  have qk := heap_alloc_new w3 (.cells #[.int .u8 q1, .int .u16 q2, .bool q3, .int .u8 q4, .int .u8 pr, .int .u32 qs, .int .u32 qd, .slice b7 l7 c7, .slice (some ⟨g8, 0, none⟩) dq.length c8] 56)
  have r3 := later_keep l3 r2
  have hw3 := hw2.trans (l3.mono hw2.size)
  have HCS : Hid (∀ j, j < dq.length → w3.cell? ⟨g8, j, none⟩ = some (.int .u8 (dq[j]?.getD 0))) := fun j h => (hcs j h).1
  have hgq : w.heap.size + 1 < w3.heap.size := Nat.lt_of_lt_of_le (bl9 r2) hb3.size
  clear D2 hD3 hcs
  go_upto_region 9 with fail
  have HC3 : Hid (∀ j, j < dq.length → (w3.alloc (.cells #[.int .u8 q1, .int .u16 q2, .bool q3, .int .u8 q4, .int .u8 pr, .int .u32 qs, .int .u32 qd, .slice b7 l7 c7, .slice (some ⟨g8, 0, none⟩) dq.length c8] 56)).cell? ⟨g8, j, none⟩ = some (.int .u8 (dq[j]?.getD 0))) := fun j h => la3.cell (HCS.out j h)
  clear HCS
  generalize w3.alloc (.cells #[.int .u8 q1, .int .u16 q2, .bool q3, .int .u8 q4, .int .u8 pr, .int .u32 qs, .int .u32 qd, .slice b7 l7 c7, .slice (some ⟨g8, 0, none⟩) dq.length c8] 56) = w0q at *
  generalize w3.heap.size = gq at *
  have hlt0 : gq < w0q.heap.size := (bl9 qk)
  go_cut [7, 8] (fun q x wx => ∃ g, q = .pointer (some ⟨g, 0, none⟩) ∧ x = .bool false ∧ wx.heap[g]? = some (.cells #[.nilFunc, .nilFunc] 125 (0, 0)) ∧ Below w0q.heap.size w0q wx)
  case first =>
   refine anyT_begin (R := But (fun b => w0q.heap.size ≤ b)) 10 rfl (by kernel_rfl) ?_
   have hd : Later w0q w0q.drew := Later.drew w0q
   have pd := (hd.block gq (bl9 qk)).trans qk
   have bd : Below w0q.heap.size w0q w0q.drew := hd
   generalize w0q.drew = Wd at *
   have ha : ∀ v1, But (fun b => w0q.heap.size ≤ b) Wd v1 → ∀ i, v1.cell? ⟨gq, i, none⟩ = #[Value.int .u8 q1, .int .u16 q2, .bool q3, .int .u8 q4, .int .u8 pr, .int .u32 qs, .int .u32 qd, .slice b7 l7 c7, .slice (some ⟨g8, 0, none⟩) dq.length c8][i]? := fun v1 h => block_cell ((h.block gq (bl9 pd) (by omega)).trans pd)
   have hz : w0q.heap.size ≤ Wd.heap.size := bd.size
   refine tV (But.pre _) 1 rfl rfl ⟨_, fun v h => by (go_simp; rfl), ?_⟩; simp only [Act.put, sA, sB, sC]
   refine tV (But.pre _) 2 rfl rfl ⟨_, fun v h => by (go_simp; rfl), ?_⟩; simp only [Act.put, sA, sB, sC]
   refine anyT_two 0 7 rfl rfl (by kernel_rfl) rfl rfl ?_ ?_
   ·skip
    refine wp_enter 53 #[] (by go_simp) ?_
    refine (readers_any Wd).mono ?_
    rintro e W3 ⟨m, rfl, hb3, hM3⟩
    have l3 : Later Wd W3 := hb3
    refine ⟨But.of l3, ?_⟩
    simp only [Act.put, sA, sB, sC]
    have hlk := look_none hno hM3
    refine anyT_two 3 7 rfl rfl (by kernel_rfl) rfl rfl ?_ ?_
    ·unfold Oper.wp
     go_simp
     refine ⟨But.refl _ _, ?_⟩
     clear hlk
     refine tV (But.pre _) 4 rfl rfl ⟨_, fun v h => by (go_simp; rfl), ?_⟩; simp only [Act.put, sA, sB, sC]
     refine tV (But.pre _) 5 rfl rfl ⟨_, fun v h => by (go_simp; rfl), ?_⟩; simp only [Act.put, sA, sB, sC]
     refine tV (But.pre _) 6 rfl rfl ⟨_, fun v h => by (go_simp; rfl), ?_⟩; simp only [Act.put, sA, sB, sC]
     refine anyT_one 7 rfl (by kernel_rfl) rfl ?_
     unfold Oper.wp
     go_simp
     have l4 : Later W3 (W3.alloc (.cells #[.nilFunc, .nilFunc] 125)) := (Below.refl _ _).alloc (Nat.le_refl _) _
     have g4 := heap_alloc_new W3 (.cells #[.nilFunc, .nilFunc] 125)
     have b4 : Below w0q.heap.size w0q (W3.alloc (.cells #[.nilFunc, .nilFunc] 125)) := (bd.trans (l3.mono hz)).trans (l4.mono (Nat.le_trans hz l3.size))
     have hge : w0q.heap.size ≤ W3.heap.size := Nat.le_trans hz l3.size
     refine ⟨But.of l4, ?_⟩
     generalize W3.alloc (.cells #[.nilFunc, .nilFunc] 125) = W4 at *
     generalize W3.heap.size = g at *
     have kg := block_cell g4
     have fg := block_frozen g4
     have hsf := run_store_nf Tryz.prog
     refine anyT_one 8 rfl (by kernel_rfl) rfl ?_
     unfold Oper.wp
     go_simp
     generalize hV : World.setCell _ ⟨g, 1, none⟩ _ = V
     have hV8 : V = putRow W4 (g) 0 [.nilFunc, .nilFunc] := hV.symm
     have hbV : But (fun b => w0q.heap.size ≤ b) W4 V := by rw [hV8]; exact putRow_but (E := fun b => w0q.heap.size ≤ b) (n := g) hge _ _ _ _ (But.refl _ _)
     have pV := putRow_all [Value.nilFunc, .nilFunc] g4 rfl
     rw [← hV8] at pV
     clear hV hV8 kg fg hsf
     refine ⟨hbV, ?_⟩
     refine anyT_one 9 rfl (by kernel_rfl) rfl ?_
     unfold Oper.wp
     go_simp
     refine ⟨But.refl _ _, ?_⟩
     refine anyT_done (by kernel_rfl) ?_
     have hbl : Below w0q.heap.size w0q V := b4.trans (hbV.below b4.size (fun k hk e => by omega))
     clear ha
     go_wp2_with fail
     go_meet
     exact ⟨_, rfl, rfl, pV, hbl⟩
    ·unfold Oper.wp
     go_simp
     have l4 : Later W3 (W3.alloc (.cells #[.nilFunc, .nilFunc] 125)) := (Below.refl _ _).alloc (Nat.le_refl _) _
     have g4 := heap_alloc_new W3 (.cells #[.nilFunc, .nilFunc] 125)
     have b4 : Below w0q.heap.size w0q (W3.alloc (.cells #[.nilFunc, .nilFunc] 125)) := (bd.trans (l3.mono hz)).trans (l4.mono (Nat.le_trans hz l3.size))
     have hge : w0q.heap.size ≤ W3.heap.size := Nat.le_trans hz l3.size
     have hM4 := (l4.block m (bl9 hM3)).trans hM3
     refine ⟨But.of l4, ?_⟩
     clear hlk
     generalize W3.alloc (.cells #[.nilFunc, .nilFunc] 125) = W4 at *
     generalize W3.heap.size = g at *
     have hlk := look_none hno hM4
     refine anyT_one 3 rfl (by kernel_rfl) rfl ?_
     unfold Oper.wp
     go_simp
     refine ⟨But.refl _ _, ?_⟩
     clear hlk
     refine tV (But.pre _) 4 rfl rfl ⟨_, fun v h => by (go_simp; rfl), ?_⟩; simp only [Act.put, sA, sB, sC]
     refine tV (But.pre _) 5 rfl rfl ⟨_, fun v h => by (go_simp; rfl), ?_⟩; simp only [Act.put, sA, sB, sC]
     refine tV (But.pre _) 6 rfl rfl ⟨_, fun v h => by (go_simp; rfl), ?_⟩; simp only [Act.put, sA, sB, sC]
     have kg := block_cell g4
     have fg := block_frozen g4
     have hsf := run_store_nf Tryz.prog
     refine anyT_one 8 rfl (by kernel_rfl) rfl ?_
     unfold Oper.wp
     go_simp
     generalize hV : World.setCell _ ⟨g, 1, none⟩ _ = V
     have hV8 : V = putRow W4 (g) 0 [.nilFunc, .nilFunc] := hV.symm
     have hbV : But (fun b => w0q.heap.size ≤ b) W4 V := by rw [hV8]; exact putRow_but (E := fun b => w0q.heap.size ≤ b) (n := g) hge _ _ _ _ (But.refl _ _)
     have pV := putRow_all [Value.nilFunc, .nilFunc] g4 rfl
     rw [← hV8] at pV
     clear hV hV8 kg fg hsf
     refine ⟨hbV, ?_⟩
     refine anyT_one 9 rfl (by kernel_rfl) rfl ?_
     unfold Oper.wp
     go_simp
     refine ⟨But.refl _ _, ?_⟩
     refine anyT_done (by kernel_rfl) ?_
     have hbl : Below w0q.heap.size w0q V := b4.trans (hbV.below b4.size (fun k hk e => by omega))
     clear ha
     go_wp2_with fail
     go_meet
     exact ⟨_, rfl, rfl, pV, hbl⟩
   ·unfold Oper.wp
    go_simp
    have l4 : Later Wd (Wd.alloc (.cells #[.nilFunc, .nilFunc] 125)) := (Below.refl _ _).alloc (Nat.le_refl _) _
    have g4 := heap_alloc_new Wd (.cells #[.nilFunc, .nilFunc] 125)
    have b4 : Below w0q.heap.size w0q (Wd.alloc (.cells #[.nilFunc, .nilFunc] 125)) := bd.trans (l4.mono hz)
    refine ⟨But.of l4, ?_⟩
    have hge : w0q.heap.size ≤ Wd.heap.size := hz
    generalize Wd.alloc (.cells #[.nilFunc, .nilFunc] 125) = W4 at *
    generalize Wd.heap.size = g at *
    refine anyT_one 0 rfl (by kernel_rfl) rfl ?_
    refine wp_enter 53 #[] (by go_simp) ?_
    refine (readers_any W4).mono ?_
    rintro e W5 ⟨m, rfl, hb5, hM5⟩
    have l5 : Later W4 W5 := hb5
    have g5 := (l5.block g (bl9 g4)).trans g4
    have b5 : Below w0q.heap.size w0q W5 := b4.trans (l5.mono b4.size)
    refine ⟨But.of l5, ?_⟩
    simp only [Act.put, sA, sB, sC]
    have hlk := look_none hno hM5
    refine anyT_one 3 rfl (by kernel_rfl) rfl ?_
    unfold Oper.wp
    go_simp
    refine ⟨But.refl _ _, ?_⟩
    clear hlk
    refine tV (But.pre _) 4 rfl rfl ⟨_, fun v h => by (go_simp; rfl), ?_⟩; simp only [Act.put, sA, sB, sC]
    refine tV (But.pre _) 5 rfl rfl ⟨_, fun v h => by (go_simp; rfl), ?_⟩; simp only [Act.put, sA, sB, sC]
    refine tV (But.pre _) 6 rfl rfl ⟨_, fun v h => by (go_simp; rfl), ?_⟩; simp only [Act.put, sA, sB, sC]
    have kg := block_cell g5
    have fg := block_frozen g5
    have hsf := run_store_nf Tryz.prog
    refine anyT_one 8 rfl (by kernel_rfl) rfl ?_
    unfold Oper.wp
    go_simp
    generalize hV : World.setCell _ ⟨g, 1, none⟩ _ = V
    have hV8 : V = putRow W5 (g) 0 [.nilFunc, .nilFunc] := hV.symm
    have hbV : But (fun b => w0q.heap.size ≤ b) W5 V := by rw [hV8]; exact putRow_but (E := fun b => w0q.heap.size ≤ b) (n := g) hge _ _ _ _ (But.refl _ _)
    have pV := putRow_all [Value.nilFunc, .nilFunc] g5 rfl
    rw [← hV8] at pV
    clear hV hV8 kg fg hsf
    refine ⟨hbV, ?_⟩
    refine anyT_one 9 rfl (by kernel_rfl) rfl ?_
    unfold Oper.wp
    go_simp
    refine ⟨But.refl _ _, ?_⟩
    refine anyT_done (by kernel_rfl) ?_
    have hbl : Below w0q.heap.size w0q V := b5.trans (hbV.below b5.size (fun k hk e => by omega))
    clear ha
    go_wp2_with fail
    go_meet
    exact ⟨_, rfl, rfl, pV, hbl⟩
  case rest =>
   obtain ⟨g, rfl, rfl, hg, hbc⟩ := hcut
   have rX := (hbc.block _ (bl9 r3)).trans r3
   have hwX := hw3.trans (hbc.mono hw3.size)
   have kX := block_cell rX
   have fX := block_frozen rX
   go_wp2_with fail
   generalize hV : World.setCell _ ⟨w.heap.size + 1, 4, none⟩ _ = V
   have hV8 : V = putRow wc (w.heap.size + 1) 0 [.int .u8 0, .int .u32 0, .int .u32 0, .int .u16 0, .int .u16 0] := hV.symm
   have hbV : But (fun b => b = w.heap.size + 1) wc V := by rw [hV8]; exact putRow_but (E := fun b => b = w.heap.size + 1) (n := w.heap.size + 1) rfl _ _ _ _ (But.refl _ _)
   have pV := putRow_all ([.int .u8 0, .int .u32 0, .int .u32 0, .int .u16 0, .int .u16 0] : List Value) rX rfl
   rw [← hV8] at pV
   clear hV hV8 kX fX
   have PV := block_cell pV
   have hwV : Below w.heap.size w V := hwX.trans (hbV.below hwX.size (fun k hk e => by omega))
   exact bodyPost_ret (v := .tuple #[.agg #[.int .u8 0, .int .u32 0, .int .u32 0, .int .u16 0, .int .u16 0], .int .i64 12]) (by simp [results, Tryz.results20, go_sem, PV]) rfl ⟨hwV, rfl⟩
theorem take8 (d : List Int) (h : 8 ≤ d.length) : d.take 8 = [d[0]?.getD 0, d[1]?.getD 0, d[2]?.getD 0, d[3]?.getD 0, d[4]?.getD 0, d[5]?.getD 0, d[6]?.getD 0, d[7]?.getD 0] := by
 match d, h with
 | x0 :: x1 :: x2 :: x3 :: x4 :: x5 :: x6 :: x7 :: r, _ => rfl
theorem By8 {d : List Int} (hB : Mt.By d) (h : 8 ≤ d.length) : Mt.By [d[0]?.getD 0, d[1]?.getD 0, d[2]?.getD 0, d[3]?.getD 0, d[4]?.getD 0, d[5]?.getD 0, d[6]?.getD 0, d[7]?.getD 0] := by rw [← take8 d h]; exact hB.take 8
theorem g8_0 (d : List Int) : getAt2 [d[0]?.getD 0, d[1]?.getD 0, d[2]?.getD 0, d[3]?.getD 0, d[4]?.getD 0, d[5]?.getD 0, d[6]?.getD 0, d[7]?.getD 0] 0 = wat d 0 := rfl
theorem g8_2 (d : List Int) : getAt2 [d[0]?.getD 0, d[1]?.getD 0, d[2]?.getD 0, d[3]?.getD 0, d[4]?.getD 0, d[5]?.getD 0, d[6]?.getD 0, d[7]?.getD 0] 2 = wat d 2 := rfl
theorem g8_4 (d : List Int) : getAt2 [d[0]?.getD 0, d[1]?.getD 0, d[2]?.getD 0, d[3]?.getD 0, d[4]?.getD 0, d[5]?.getD 0, d[6]?.getD 0, d[7]?.getD 0] 4 = wat d 4 := rfl
theorem g8_6 (d : List Int) : getAt2 [d[0]?.getD 0, d[1]?.getD 0, d[2]?.getD 0, d[3]?.getD 0, d[4]?.getD 0, d[5]?.getD 0, d[6]?.getD 0, d[7]?.getD 0] 6 = wat d 6 := rfl
theorem qdt_len {mz : List Int} (hB : Mt.By mz) (h : rde true mz = 0) : 8 ≤ (qdt mz).length := by
 unfold rde at h
 have hh := hl4_bd hB
 by_cases h1 : msr mz ≠ 0
 ·rw [if_pos h1] at h; exact absurd h h1
 rw [if_neg h1] at h
 by_cases h2 : (mz.length : Int) < ral true mz
 ·rw [if_pos h2] at h; exact absurd h (by decide)
 rw [if_neg h2] at h
 by_cases h3 : chk mz ≠ 0
 ·rw [if_pos h3] at h; exact absurd h h3
 rw [if_neg h3] at h
 by_cases h4 : ral true mz - hl4 mz < 8
 ·rw [if_pos ⟨rfl, h4⟩] at h; exact absurd h (by decide)
 unfold qdt
 rw [List.length_drop, List.length_take]
 omega
theorem By_qdt {mz : List Int} (hB : Mt.By mz) : Mt.By (qdt mz) := (hB.take _).drop _
theorem cf_two (args : Array Value) (w : World) : (callFunc 101 args).run Tryz.prog w = .ok (.enter 101 args) w := by kernel_rfl
theorem cf_echo (args : Array Value) (w : World) : (callFunc 104 args).run Tryz.prog w = .ok (.enter 104 args) w := by kernel_rfl
theorem cf_begin (args : Array Value) (w : World) : (callFunc 106 args).run Tryz.prog w = .ok (.enter 106 args) w := by kernel_rfl
def quv (proto : Int) (zd : List Int) : Value := otv (que proto zd) (qpr (zd.drop 8)) (wat4 (zd.drop 8) 12) (wat4 (zd.drop 8) 16) (qia (qpr (zd.drop 8)) (qdt (zd.drop 8))) (qib (qpr (zd.drop 8)) (qdt (zd.drop 8)))
theorem quoted_any (tos id ttl proto src dst : Int) (keep : Bool) (so sd : Value) (zd : List Int) (w : World) (hT : Tb w) (hB : Mt.By zd) (hI : Rd w.heap.size w sd zd) (hl : zd.length ≤ 140737488355328) :
  Calls Tryz.prog 20 #[.agg #[.int .u8 tos, .int .u16 id, .bool keep, .int .u8 ttl, .int .u8 proto, .int .u32 src, .int .u32 dst, so, sd]] w fun e w' => Below w.heap.size w w' ∧ e = .returned (.tuple #[quv proto zd, .int .i64 (que proto zd)]) := by
 unfold quv
 by_cases hpi : pie proto zd = 0
 ·cases her : erb (zd[0]?.getD 0) with
  | false =>
   have hq : que proto zd = 12 := by unfold que; rw [if_neg (fun h => h hpi), if_pos her]
   rw [otv_no (by rw [hq]; decide)]
   exact quoted_bad tos id ttl proto src dst keep so sd zd w hT hB hI hl (.inr (.inl her))
  | true =>
   by_cases hrd : rde true (zd.drop 8) = 0
   ·have h8 := qdt_len (hB.drop 8) hrd
    have hBq := By8 (By_qdt (hB.drop 8)) h8
    have hq : que proto zd = qie (qpr (zd.drop 8)) (qdt (zd.drop 8)) := by unfold que; rw [if_neg (fun h => h hpi), if_neg (by rw [her]; decide), if_neg (fun h => h hrd)]
    rw [hq]
    obtain ⟨pr, hpr⟩ : ∃ pr, (zd.drop 8)[9]?.getD 0 = pr := ⟨_, rfl⟩
    rw [show qpr (zd.drop 8) = pr from hpr]
    by_cases h6 : pr = 6
    ·subst h6
     exact quoted_gen 6 (wat (qdt (zd.drop 8)) 0) (wat (qdt (zd.drop 8)) 2) 0 _ _ tos id ttl proto src dst keep so sd zd w hT hB hI hl hpi her hrd hpr h8 (fun _ _ h => look_tcp h) cf_two (fun w' hb => (ofTwo_any ((qdt (zd.drop 8))[0]?.getD 0) ((qdt (zd.drop 8))[1]?.getD 0) ((qdt (zd.drop 8))[2]?.getD 0) ((qdt (zd.drop 8))[3]?.getD 0) ((qdt (zd.drop 8))[4]?.getD 0) ((qdt (zd.drop 8))[5]?.getD 0) ((qdt (zd.drop 8))[6]?.getD 0) ((qdt (zd.drop 8))[7]?.getD 0) w' hBq).mono fun e w'' h => ⟨h.1, _, _, h.2, fun _ => ⟨g8_0 _, g8_2 _⟩⟩)
    by_cases h17 : pr = 17
    ·subst h17
     exact quoted_gen 17 (wat (qdt (zd.drop 8)) 0) (wat (qdt (zd.drop 8)) 2) 0 _ _ tos id ttl proto src dst keep so sd zd w hT hB hI hl hpi her hrd hpr h8 (fun _ _ h => look_udp h) cf_two (fun w' hb => (ofTwo_any ((qdt (zd.drop 8))[0]?.getD 0) ((qdt (zd.drop 8))[1]?.getD 0) ((qdt (zd.drop 8))[2]?.getD 0) ((qdt (zd.drop 8))[3]?.getD 0) ((qdt (zd.drop 8))[4]?.getD 0) ((qdt (zd.drop 8))[5]?.getD 0) ((qdt (zd.drop 8))[6]?.getD 0) ((qdt (zd.drop 8))[7]?.getD 0) w' hBq).mono fun e w'' h => ⟨h.1, _, _, h.2, fun _ => ⟨g8_0 _, g8_2 _⟩⟩)
    by_cases h1 : pr = 1
    ·subst h1
     have hqi : qie 1 (qdt (zd.drop 8)) = if ecb ((qdt (zd.drop 8))[0]?.getD 0) ((qdt (zd.drop 8))[1]?.getD 0) = true then 0 else 12 := rfl
     rw [hqi]
     refine quoted_gen 1 (wat (qdt (zd.drop 8)) 4) (wat (qdt (zd.drop 8)) 4) _ _ _ tos id ttl proto src dst keep so sd zd w hT hB hI hl hpi her hrd hpr h8 (fun _ _ h => look_icmp h) cf_echo (fun w' hb => (ofEcho_any ((qdt (zd.drop 8))[0]?.getD 0) ((qdt (zd.drop 8))[1]?.getD 0) ((qdt (zd.drop 8))[2]?.getD 0) ((qdt (zd.drop 8))[3]?.getD 0) ((qdt (zd.drop 8))[4]?.getD 0) ((qdt (zd.drop 8))[5]?.getD 0) ((qdt (zd.drop 8))[6]?.getD 0) ((qdt (zd.drop 8))[7]?.getD 0) w' hBq).mono fun e w'' h => ?_)
     rcases h with ⟨hb2, ⟨he, rfl⟩ | ⟨he, rfl⟩⟩
     ·rw [if_pos he]
      exact ⟨hb2, _, _, rfl, fun _ => ⟨g8_4 _, g8_4 _⟩⟩
     ·rw [if_neg (by rw [he]; decide)]
      exact ⟨hb2, _, _, rfl, fun h => absurd h (by decide)⟩
    by_cases h47 : pr = 47
    ·subst h47
     have hqi : qie 47 (qdt (zd.drop 8)) = if pge 47 ((qdt (zd.drop 8)).take 8) = 4 then 4 else 0 := rfl
     rw [hqi, take8 _ h8]
     refine quoted_gen 47 0 (wat (qdt (zd.drop 8)) 6) _ _ _ tos id ttl proto src dst keep so sd zd w hT hB hI hl hpi her hrd hpr h8 (fun _ _ h => look_gre h) cf_begin (fun w' hb => (ofBegin_any ((qdt (zd.drop 8))[0]?.getD 0) ((qdt (zd.drop 8))[1]?.getD 0) ((qdt (zd.drop 8))[2]?.getD 0) ((qdt (zd.drop 8))[3]?.getD 0) ((qdt (zd.drop 8))[4]?.getD 0) ((qdt (zd.drop 8))[5]?.getD 0) ((qdt (zd.drop 8))[6]?.getD 0) ((qdt (zd.drop 8))[7]?.getD 0) w' (hT.below hb hT.pos) hBq).mono fun e w'' h => ?_)
     rcases h with ⟨hb2, ⟨he, rfl⟩ | ⟨he, rfl⟩⟩
     ·rw [if_pos he]
      exact ⟨hb2, _, _, rfl, fun h => absurd h (by decide)⟩
     ·rw [if_neg he]
      exact ⟨hb2, _, _, rfl, fun _ => ⟨rfl, g8_6 _⟩⟩
    have hqi : qie pr (qdt (zd.drop 8)) = 12 := by unfold qie; rw [if_neg h6, if_neg h17, if_neg h1, if_neg h47]
    rw [hqi, otv_no (show (12 : Int) ≠ 0 by decide)]
    exact quoted_other pr tos id ttl proto src dst keep so sd zd w hT hB hI hl hpi her hrd hpr h8 ⟨h6, h17, h1, h47⟩
   ·have hq : que proto zd = rde true (zd.drop 8) := by unfold que; rw [if_neg (fun h => h hpi), if_neg (by rw [her]; decide), if_pos hrd]
    rw [otv_no (by rw [hq]; exact hrd)]
    exact quoted_bad tos id ttl proto src dst keep so sd zd w hT hB hI hl (.inr (.inr hrd))
 ·have hq : que proto zd = pie proto zd := if_pos hpi
  rw [otv_no (by rw [hq]; exact hpi)]
  exact quoted_bad tos id ttl proto src dst keep so sd zd w hT hB hI hl (.inl hpi)
end Go.Proofs.YtofknbfbmaefoaaGreatDoor
