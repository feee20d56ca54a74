/- Several texts in one. -/
import Derived.Test.YtnffjilmkpbelaaGreatDoorX17
import Derived.Test.YtnffjilmkpbelaaGreatDoorX10
import Derived.Test.YtnffjilmkpbelaaGreatDoorX11
import Derived.Test.YtnffjilmkpbelaaGreatDoorX14
import Derived.Test.YtnffjilmkpbelaaGreatDoorX18
import Derived.Laws.Cover3
/- The document's ParseIcmp. -/
namespace Go.Proofs.YtnffjilmkpbelaaGreatDoor
open Go.RowKit Go.Shelf
set_option maxRecDepth 100000
set_option linter.unusedVariables false
set_option linter.unusedSimpArgs false

/-- Bytes of one's own stay where another block turns that holds no bytes. -/
theorem Ow.other {base mb : Nat} {W W' : World} {v : Value} {zs : List Int} {cur : Array Value} {t : TypeId} (h : Ow base W v zs) (hm : W.heap[mb]? = some (.cells cur t (0, 0))) (ht : t ≠ 5) (hb : But (fun b => b = mb) W W') : Ow base W' v zs := by
 rcases h with h | ⟨g, cap, c, h1, h2, h3, h4, h5, h6, h7⟩
 ·exact .inl h
 ·refine .inr ⟨g, cap, c, h1, h2, h3, h4, h5, (hb.block g (bl9 h6) (fun e => ?_)).trans h6, h7⟩
  subst e
  rw [hm] at h6
  simp at h6
  exact ht h6.2

end Go.Proofs.YtnffjilmkpbelaaGreatDoor

/- The document's ParseGre: the beginning. -/
namespace Go.Proofs.YtnffjilmkpbelaaGreatDoor
open Go.RowKit Go.Shelf
set_option maxRecDepth 100000
set_option linter.unusedVariables false
set_option linter.unusedSimpArgs false

end Go.Proofs.YtnffjilmkpbelaaGreatDoor

/- The document's ParseGre. -/
namespace Go.Proofs.YtnffjilmkpbelaaGreatDoor
open Go.RowKit Go.Shelf
set_option maxRecDepth 100000
set_option linter.unusedVariables false
set_option linter.unusedSimpArgs false

end Go.Proofs.YtnffjilmkpbelaaGreatDoor

/- The document's kinds of messages; the walk of the law CtrlKinds. -/
namespace Go.Proofs.YtnffjilmkpbelaaGreatDoor
open Go.RowKit Go.Shelf
set_option maxRecDepth 100000
set_option linter.unusedVariables false
set_option linter.unusedSimpArgs false

end Go.Proofs.YtnffjilmkpbelaaGreatDoor

/- Layer 5: Of in one form; the document's Of. -/
namespace Go.Proofs.YtnffjilmkpbelaaGreatDoor
open Go.RowKit Go.Shelf
set_option maxRecDepth 100000
set_option linter.unusedVariables false
set_option linter.unusedSimpArgs false

def ofe (proto src dst : Int) (zd : List Int) : Int := if proto = 6 then pte 6 src dst zd else if proto = 17 then pue 17 src dst zd else if proto = 1 then oie zd else if proto = 47 then pge 47 zd else 12
def ofa (proto : Int) (zd : List Int) : Int := if proto = 6 then wat zd 0 else if proto = 17 then wat zd 0 else if proto = 1 then wat zd 4 else 0
def ofb (proto : Int) (zd : List Int) : Int := if proto = 6 then wat zd 2 else if proto = 17 then wat zd 2 else if proto = 1 then wat zd 4 else getAt2 zd 6

set_option maxHeartbeats 2000000 in
theorem of_any (tos id ttl proto src dst : Int) (keep : Bool) (so sd : Value) (zd : List Int) (w : World) (hT : Tb w) (hB : Mt.By zd) (hI : Rd w.heap.size w sd zd) (hl : 12 + zd.length ≤ 140737488355328) (hsr : 0 ≤ src ∧ src ≤ 4294967295) (hds : 0 ≤ dst ∧ dst ≤ 4294967295) :
  Calls Tryz.prog 76 #[.agg #[.int .u8 tos, .int .u16 id, .bool keep, .int .u8 ttl, .int .u8 proto, .int .u32 src, .int .u32 dst, so, sd]] w fun e w' => Below w.heap.size w w' ∧ e = .returned (.tuple #[otv (ofe proto src dst zd) proto src dst (ofa proto zd) (ofb proto zd), .int .i64 (ofe proto src dst zd)]) := by
 obtain ⟨ad, cd, rfl, _, _⟩ := hI.slice
 by_cases h6 : proto = 6
 ·subst h6
  exact of_gen 6 (wat zd 0) (wat zd 2) (pte 6 src dst zd) _ _ tos id ttl src dst keep so ad zd.length cd w (fun _ _ h => look_tcp h) cf_tcp (fun w' hb => ofTcp_any tos id ttl 6 src dst keep so _ zd w' hB ((hI.below hb).mono hb.size) hl hsr hds)
 by_cases h17 : proto = 17
 ·subst h17
  exact of_gen 17 (wat zd 0) (wat zd 2) (pue 17 src dst zd) _ _ tos id ttl src dst keep so ad zd.length cd w (fun _ _ h => look_udp h) cf_udp (fun w' hb => ofUdp_any tos id ttl 17 src dst keep so _ zd w' hB ((hI.below hb).mono hb.size) hl hsr hds)
 by_cases h1 : proto = 1
 ·subst h1
  exact of_gen 1 (wat zd 4) (wat zd 4) (oie zd) _ _ tos id ttl src dst keep so ad zd.length cd w (fun _ _ h => look_icmp h) cf_icmp (fun w' hb => ofIcmp_any tos id ttl src dst keep so _ zd w' hB ((hI.below hb).mono hb.size) (by omega))
 by_cases h47 : proto = 47
 ·subst h47
  exact of_gen 47 0 (getAt2 zd 6) (pge 47 zd) _ _ tos id ttl src dst keep so ad zd.length cd w (fun _ _ h => look_gre h) cf_gre (fun w' hb => ofGre_any tos id ttl 47 src dst keep so _ zd w' (hT.below hb hT.pos) hB ((hI.below hb).mono hb.size) hl hsr hds)
 have he : ofe proto src dst zd = 12 := by unfold ofe; rw [if_neg h6, if_neg h17, if_neg h1, if_neg h47]
 rw [he]
 exact of_other proto tos id ttl src dst keep so ad zd.length cd w ⟨h6, h17, h1, h47⟩

set_option maxHeartbeats 4000000 in
theorem rof_udp (tos id ttl src dst : Int) (keep : Bool) (so sd : Value) (zd : List Int) (w : World) (hB : Mt.By zd) (hI : Rd w.heap.size w sd zd) (hl : 12 + zd.length ≤ 1099511627776) (hsr : 0 ≤ src ∧ src ≤ 4294967295) (hds : 0 ≤ dst ∧ dst ≤ 4294967295) :
  Calls Tryz.prog 24 #[.agg #[.int .u8 tos, .int .u16 id, .bool keep, .int .u8 ttl, .int .u8 17, .int .u32 src, .int .u32 dst, so, sd]] w fun e w' => Below w.heap.size w w' ∧ e = .returned (.tuple #[otv (ofe 17 src dst zd) 17 src dst (ofa 17 zd) (ofb 17 zd), .int .i64 (ofe 17 src dst zd)]) := by
 rw [show ofe 17 src dst zd = pue 17 src dst zd from rfl,show ofa 17 zd = wat zd 0 from rfl,show ofb 17 zd = wat zd 2 from rfl]
 obtain ⟨ad, cd, rfl, _, _⟩ := hI.slice
 have hb0 : Below w.heap.size w (((w.alloc (.cells #[.int .u8 tos, .int .u16 id, .bool keep, .int .u8 ttl, .int .u8 17, .int .u32 src, .int .u32 dst, so, .slice ad zd.length cd] 76)).alloc (.cells #[.int .u8 0, .int .u32 0, .int .u32 0, .int .u16 0, .int .u16 0] 67)).alloc (.cells #[.int .u8 17, .int .u32 src, .int .u32 dst, .int .u16 0, .int .u16 0] 67)) := ((((Below.refl _ _).alloc (Nat.le_refl _) _).alloc (by simp) _).alloc (by simp <;> omega) _)
 have r0 : (((w.alloc (.cells #[.int .u8 tos, .int .u16 id, .bool keep, .int .u8 ttl, .int .u8 17, .int .u32 src, .int .u32 dst, so, .slice ad zd.length cd] 76)).alloc (.cells #[.int .u8 0, .int .u32 0, .int .u32 0, .int .u16 0, .int .u16 0] 67)).alloc (.cells #[.int .u8 17, .int .u32 src, .int .u32 dst, .int .u16 0, .int .u16 0] 67)).heap[w.heap.size + 1]? = some (.cells #[.int .u8 0, .int .u32 0, .int .u32 0, .int .u16 0, .int .u16 0] 67) := by
  have := heap_alloc_new (w.alloc (.cells #[.int .u8 tos, .int .u16 id, .bool keep, .int .u8 ttl, .int .u8 17, .int .u32 src, .int .u32 dst, so, .slice ad zd.length cd] 76)) (.cells #[.int .u8 0, .int .u32 0, .int .u32 0, .int .u16 0, .int .u16 0] 67)
  rw [World.size_alloc] at this
  exact (Below.heap_alloc _ _ _ (by simp)).trans this
 have t0 : (((w.alloc (.cells #[.int .u8 tos, .int .u16 id, .bool keep, .int .u8 ttl, .int .u8 17, .int .u32 src, .int .u32 dst, so, .slice ad zd.length cd] 76)).alloc (.cells #[.int .u8 0, .int .u32 0, .int .u32 0, .int .u16 0, .int .u16 0] 67)).alloc (.cells #[.int .u8 17, .int .u32 src, .int .u32 dst, .int .u16 0, .int .u16 0] 67)).heap[w.heap.size + 1 + 1]? = some (.cells #[.int .u8 17, .int .u32 src, .int .u32 dst, .int .u16 0, .int .u16 0] 67) := by
  have := heap_alloc_new ((w.alloc (.cells #[.int .u8 tos, .int .u16 id, .bool keep, .int .u8 ttl, .int .u8 17, .int .u32 src, .int .u32 dst, so, .slice ad zd.length cd] 76)).alloc (.cells #[.int .u8 0, .int .u32 0, .int .u32 0, .int .u16 0, .int .u16 0] 67)) (.cells #[.int .u8 17, .int .u32 src, .int .u32 dst, .int .u16 0, .int .u16 0] 67)
  simpa only [World.size_alloc] using this
 have R0 := hide r0
 have T0 := hide t0
 clear r0 t0
 go_enter Tryz.func24, Tryz.ntmps24
 go_wp2_with fail
 generalize (((w.alloc (.cells #[.int .u8 tos, .int .u16 id, .bool keep, .int .u8 ttl, .int .u8 17, .int .u32 src, .int .u32 dst, so, .slice ad zd.length cd] 76)).alloc (.cells #[.int .u8 0, .int .u32 0, .int .u32 0, .int .u16 0, .int .u16 0] 67)).alloc (.cells #[.int .u8 17, .int .u32 src, .int .u32 dst, .int .u16 0, .int .u16 0] 67)) = w0 at *
 refine (rparseUdp_any tos id ttl 17 src dst keep _ _ zd w0 hB ((hI.below hb0).mono hb0.size) (by omega) hsr hds).mono ?_
 rintro e w1 ⟨hb1, ⟨hf, rfl⟩ | ⟨hf, a1, c1, rfl, hO⟩⟩
 ·rw [show zud.toArray = #[.int .u16 0, .int .u16 0, .bool false, .slice none 0 0] from rfl]
  generalize hpu : pue 17 src dst zd = f at *
  have HPU := hide hpu
  have HF := hide hf
  clear hf hpu
  have lq : Later w1 (w1.alloc (.cells #[.int .u16 0, .int .u16 0, .bool false, .slice none 0 0] 142)) := (Below.refl _ _).alloc (Nat.le_refl _) _
  have l1 := Later.trans hb1 lq
  have rX := later_keep l1 R0.out
  have hwX := hb0.trans (l1.mono hb0.size)
  have kX := block_cell rX
  have fX := block_frozen rX
  have hne : (f != 0) = true := by simp [HF.out]
  go_wp2_with fail
  generalize w1.alloc (.cells #[.int .u16 0, .int .u16 0, .bool false, .slice none 0 0] 142) = W at *
  generalize hV : ((((W.setCell ⟨w.heap.size + 1, 0, none⟩ _).setCell ⟨w.heap.size + 1, 1, none⟩ _).setCell ⟨w.heap.size + 1, 2, none⟩ _).setCell ⟨w.heap.size + 1, 3, none⟩ _).setCell ⟨w.heap.size + 1, 4, none⟩ _ = VV
  have hV8 : VV = putRow W (w.heap.size + 1) 0 [.int .u8 0, .int .u32 0, .int .u32 0, .int .u16 0, .int .u16 0] := hV.symm
  have hbV : But (fun b => b = w.heap.size + 1) W VV := by rw [hV8]; exact putRow_but (E := fun b => b = w.heap.size + 1) (n := w.heap.size + 1) rfl _ _ _ _ (But.refl _ _)
  have pV := putRow_all ([.int .u8 0, .int .u32 0, .int .u32 0, .int .u16 0, .int .u16 0] : List Value) rX rfl
  rw [← hV8] at pV
  clear hV hV8 kX fX
  have PV := block_cell pV
  have hwV : Below w.heap.size w VV := hwX.trans (hbV.below hwX.size (fun k hk e => by omega))
  exact bodyPost_ret (v := .tuple #[.agg #[.int .u8 0, .int .u32 0, .int .u32 0, .int .u16 0, .int .u16 0], .int .i64 f]) (by simp [results, Tryz.results24, go_sem, PV]) rfl ⟨hwV, by rw [HPU.out, otv_no HF.out]⟩
 ·have HF := hide hf
  clear hf
  have lq : Later w1 (w1.alloc (.cells #[.int .u16 (wat zd 0), .int .u16 (wat zd 2), .bool (wat zd 6 == 0), .slice a1 (zd.length - 8) c1] 142)) := (Below.refl _ _).alloc (Nat.le_refl _) _
  have l1 := Later.trans hb1 lq
  have sX := heap_alloc_new w1 (.cells #[.int .u16 (wat zd 0), .int .u16 (wat zd 2), .bool (wat zd 6 == 0), .slice a1 (zd.length - 8) c1] 142)
  have rX0 := later_keep l1 R0.out
  have tX0 := later_keep l1 T0.out
  have hw2 := hb0.trans (l1.mono hb0.size)
  have hlt : w.heap.size + 1 + 1 < w1.heap.size := Nat.lt_of_lt_of_le (bl9 T0.out) hb1.size
  go_upto_region 13 with fail
  generalize w1.alloc (.cells #[.int .u16 (wat zd 0), .int .u16 (wat zd 2), .bool (wat zd 6 == 0), .slice a1 (zd.length - 8) c1] 142) = W at *
  have hbz := hlt
  generalize w1.heap.size = g at *
  refine anyT_begin (R := But (fun b => b = w.heap.size + 1 + 1)) 8 rfl (by kernel_rfl) ?_
  have ld : Later W W.drew := Later.drew W
  have sd := later_keep ld sX
  have td := later_keep ld tX0
  generalize W.drew = Wd at *
  have ha : ∀ v1, But (fun b => b = w.heap.size + 1 + 1) Wd v1 → ∀ i, v1.cell? ⟨g, i, none⟩ = #[Value.int .u16 (wat zd 0), .int .u16 (wat zd 2), .bool (wat zd 6 == 0), .slice a1 (zd.length - 8) c1][i]? := fun v1 h => block_cell ((h.block g (bl9 sd) (by omega)).trans sd)
  refine tV (But.pre _) 0 rfl rfl ?_; apply Exists.intro; refine ⟨fun v1 hv1 => ?_, ?_⟩; (· (go_simp; rfl)); simp only [Act.put, sA, sB, sC]
  refine tV (But.pre _) 1 rfl rfl ?_; apply Exists.intro; refine ⟨fun v1 hv1 => ?_, ?_⟩; (· (go_simp; rfl)); simp only [Act.put, sA, sB, sC]
  refine tV (But.pre _) 2 rfl rfl ?_; apply Exists.intro; refine ⟨fun v1 hv1 => ?_, ?_⟩; (· (go_simp; rfl)); simp only [Act.put, sA, sB, sC]
  refine tV (But.pre _) 3 rfl rfl ?_; apply Exists.intro; refine ⟨fun v1 hv1 => ?_, ?_⟩; (· (go_simp; rfl)); simp only [Act.put, sA, sB, sC]
  clear ha
  refine tV (But.pre _) 4 rfl rfl ?_; apply Exists.intro; refine ⟨fun v1 hv1 => ?_, ?_⟩; (· (go_simp; rfl)); simp only [Act.put, sA, sB, sC]
  have kx := block_cell td
  have fx := block_frozen td
  refine anyT_one 5 rfl (by kernel_rfl) rfl ?_
  unfold Oper.wp
  go_simp
  generalize hV : Wd.setCell ⟨w.heap.size + 1 + 1, 3, none⟩ _ = V
  have pV := heap_set1 td 3 (.int .u16 (wat zd 0))
  rw [hV] at pV
  have hbV : But (fun b => b = w.heap.size + 1 + 1) Wd V := by rw [← hV]; exact (But.refl (fun b => b = w.heap.size + 1 + 1) _).setCell (p := ⟨w.heap.size + 1 + 1, 3, none⟩) rfl _
  refine ⟨hbV, ?_⟩
  clear hV kx fx
  simp only [List.setIfInBounds_toArray, List.set_cons_zero, List.set_cons_succ] at pV
  refine tV (But.pre _) 6 rfl rfl ?_; apply Exists.intro; refine ⟨fun v1 hv1 => ?_, ?_⟩; (· (go_simp; rfl)); simp only [Act.put, sA, sB, sC]
  have kx := block_cell pV
  have fx := block_frozen pV
  refine anyT_one 7 rfl (by kernel_rfl) rfl ?_
  unfold Oper.wp
  go_simp
  generalize hU : V.setCell ⟨w.heap.size + 1 + 1, 4, none⟩ _ = U
  have pU := heap_set1 pV 4 (.int .u16 (wat zd 2))
  rw [hU] at pU
  have hbU : But (fun b => b = w.heap.size + 1 + 1) V U := by rw [← hU]; exact (But.refl (fun b => b = w.heap.size + 1 + 1) _).setCell (p := ⟨w.heap.size + 1 + 1, 4, none⟩) rfl _
  refine ⟨hbU, ?_⟩
  clear hU kx fx
  simp only [List.setIfInBounds_toArray, List.set_cons_zero, List.set_cons_succ] at pU
  refine anyT_done (by kernel_rfl) ?_
  have hfin : But (fun b => b = w.heap.size + 1 + 1) W U := (But.of ld).trans (hbV.trans hbU)
  have hsY := (bl9 rX0)
  have rX := (hfin.block (w.heap.size + 1) hsY (by omega)).trans rX0
  have hwX := hw2.trans (hfin.below hw2.size (fun k hk e => by omega))
  have kt := block_cell pU
  have kX := block_cell rX
  have fX := block_frozen rX
  go_wp2_with fail
  generalize hV : ((((U.setCell ⟨w.heap.size + 1, 0, none⟩ _).setCell ⟨w.heap.size + 1, 1, none⟩ _).setCell ⟨w.heap.size + 1, 2, none⟩ _).setCell ⟨w.heap.size + 1, 3, none⟩ _).setCell ⟨w.heap.size + 1, 4, none⟩ _ = VV
  have hV8 : VV = putRow U (w.heap.size + 1) 0 [.int .u8 17, .int .u32 src, .int .u32 dst, .int .u16 (wat zd 0), .int .u16 (wat zd 2)] := hV.symm
  have hbV : But (fun b => b = w.heap.size + 1) U VV := by rw [hV8]; exact putRow_but (E := fun b => b = w.heap.size + 1) (n := w.heap.size + 1) rfl _ _ _ _ (But.refl _ _)
  have pV := putRow_all ([.int .u8 17, .int .u32 src, .int .u32 dst, .int .u16 (wat zd 0), .int .u16 (wat zd 2)] : List Value) rX rfl
  rw [← hV8] at pV
  clear hV hV8 kX fX
  have PV := block_cell pV
  have hwV : Below w.heap.size w VV := hwX.trans (hbV.below hwX.size (fun k hk e => by omega))
  exact bodyPost_ret (v := .tuple #[.agg #[.int .u8 17, .int .u32 src, .int .u32 dst, .int .u16 (wat zd 0), .int .u16 (wat zd 2)], .int .i64 0]) (by simp [results, Tryz.results24, go_sem, PV]) rfl ⟨hwV, by rw [HF.out]; rfl⟩

end Go.Proofs.YtnffjilmkpbelaaGreatDoor

/- Layer 5: what is read of the first eight bytes of a quoted packet's data. -/
namespace Go.Proofs.YtnffjilmkpbelaaGreatDoor
open Go.RowKit Go.Shelf
set_option maxRecDepth 100000
set_option linter.unusedVariables false
set_option linter.unusedSimpArgs false

end Go.Proofs.YtnffjilmkpbelaaGreatDoor

/- What read tells of a header that was built: the mathematics. -/
namespace Go.Proofs.YtnffjilmkpbelaaGreatDoor
open Go.RowKit Go.Shelf
set_option maxRecDepth 100000
set_option linter.unusedVariables false
set_option linter.unusedSimpArgs false

set_option maxHeartbeats 1000000 in
theorem parse_any (sv : Value) (zs : List Int) (w : World) (hB : Mt.By zs) (hl : zs.length ≤ 225000000000000) (hI : Rd w.heap.size w sv zs) :
  Calls Tryz.prog 40 #[sv] w fun e w' => Below w.heap.size w w' ∧
   ((rde false zs ≠ 0 ∧ e = .returned (.tuple #[.agg zc.toArray, .int .i64 (rde false zs)])) ∨
    (rde false zs = 0 ∧ ∃ so sd, e = .returned (.tuple #[pkt zs so sd, .int .i64 0]) ∧ Ow w.heap.size w' so ((zs.take (hl4 zs).toNat).drop 20) ∧ Ow w.heap.size w' sd ((zs.take (ral false zs).toNat).drop (hl4 zs).toNat))) := by
 obtain ⟨a, cap, rfl, hl1, hm1⟩ := hI.slice
 have hb1 : Below w.heap.size w (w.alloc (.cells zc.toArray 76)) := (Below.refl _ _).alloc (Nat.le_refl _) _
 have p1 := heap_alloc_new w (.cells zc.toArray 76)
 have H := hide (read_any false _ zs (w.alloc (.cells zc.toArray 76)) hB hl ((hI.below hb1).mono (by simp)))
 go_enter Tryz.func40, Tryz.ntmps40
 go_wp2_with fail
 refine H.out.mono ?_
 rintro e w2 ⟨hb2, ⟨h, rfl⟩ | ⟨h, so, sd, rfl, hO1, hO2⟩⟩
 ·have p2 := (hb2.block w.heap.size (by simp)).trans p1
  have P2 := block_cell p2
  have F2 := block_frozen p2
  go_wp2_with fail
  generalize hV : ((((((((w2.setCell ⟨w.heap.size, 0, none⟩ _).setCell ⟨w.heap.size, 1, none⟩ _).setCell ⟨w.heap.size, 2, none⟩ _).setCell ⟨w.heap.size, 3, none⟩ _).setCell ⟨w.heap.size, 4, none⟩ _).setCell ⟨w.heap.size, 5, none⟩ _).setCell ⟨w.heap.size, 6, none⟩ _).setCell ⟨w.heap.size, 7, none⟩ _).setCell ⟨w.heap.size, 8, none⟩ _ = V
  have hV9 : V = putRow w2 w.heap.size 0 zc := hV.symm
  have hb8 : But (fun b => b = w.heap.size) w2 V := by rw [hV9]; exact putRow_but (E := fun b => b = w.heap.size) (n := w.heap.size) rfl _ _ _ _ (But.refl _ _)
  have p8 := putRow_all zc p2 rfl
  rw [← hV9] at p8
  clear hV hV9 P2 F2 H
  have P8 := block_cell p8
  have hbW := (hb1.trans (hb2.mono (by simp))).trans (hb8.below (by have := hb2.size; simp at this; omega) (fun j h e => by omega))
  exact bodyPost_ret (v := .tuple #[.agg zc.toArray, .int .i64 (rde false zs)]) (by simp [results, Tryz.results40, go_sem, P8]) rfl ⟨hbW, .inl ⟨h, rfl⟩⟩
 ·have p2 := (hb2.block w.heap.size (by simp)).trans p1
  have P2 := block_cell p2
  have F2 := block_frozen p2
  obtain ⟨aso, cso, rfl, _, _⟩ := hO1.slice
  obtain ⟨asd, csd, rfl, _, _⟩ := hO2.slice
  generalize hL1 : ((zs.take (hl4 zs).toNat).drop 20).length = lo at *
  generalize hL2 : ((zs.take (ral false zs).toNat).drop (hl4 zs).toNat).length = ld at *
  have HL1 := hide hL1
  have HL2 := hide hL2
  clear hL1 hL2
  unfold pkt
  go_wp2_with fail
  generalize hV : ((((((((w2.setCell ⟨w.heap.size, 0, none⟩ _).setCell ⟨w.heap.size, 1, none⟩ _).setCell ⟨w.heap.size, 2, none⟩ _).setCell ⟨w.heap.size, 3, none⟩ _).setCell ⟨w.heap.size, 4, none⟩ _).setCell ⟨w.heap.size, 5, none⟩ _).setCell ⟨w.heap.size, 6, none⟩ _).setCell ⟨w.heap.size, 7, none⟩ _).setCell ⟨w.heap.size, 8, none⟩ _ = V
  have hV9 : V = putRow w2 w.heap.size 0 [.int .u8 (zs[1]?.getD 0), .int .u16 (wat zs 4), .bool (decide (16384 ≤ wat zs 6 % 32768)), .int .u8 (zs[8]?.getD 0), .int .u8 (zs[9]?.getD 0), .int .u32 (wat4 zs 12), .int .u32 (wat4 zs 16), .slice aso lo cso, .slice asd ld csd] := hV.symm
  have hb8 : But (fun b => b = w.heap.size) w2 V := by rw [hV9]; exact putRow_but (E := fun b => b = w.heap.size) (n := w.heap.size) rfl _ _ _ _ (But.refl _ _)
  have p8 := putRow_all [.int .u8 (zs[1]?.getD 0), .int .u16 (wat zs 4), .bool (decide (16384 ≤ wat zs 6 % 32768)), .int .u8 (zs[8]?.getD 0), .int .u8 (zs[9]?.getD 0), .int .u32 (wat4 zs 12), .int .u32 (wat4 zs 16), .slice aso lo cso, .slice asd ld csd] p2 rfl
  rw [← hV9] at p8
  clear hV hV9 P2 F2 H
  have P8 := block_cell p8
  have hbW := (hb1.trans (hb2.mono (by simp))).trans (hb8.below (by have := hb2.size; simp at this; omega) (fun j h e => by omega))
  exact bodyPost_ret (v := .tuple #[pkt zs (.slice aso lo cso) (.slice asd ld csd), .int .i64 0]) (by simp [results, Tryz.results40, go_sem, P8, pkt]) rfl ⟨hbW, .inr ⟨h, _, _, rfl, (hO1.but hb8 (fun b h e => by simp at h; omega)).mono (by simp), (hO2.but hb8 (fun b h e => by simp at h; omega)).mono (by simp)⟩⟩

section
variable (tos id : Int) (keep : Bool) (ttl proto src dst : Int) (zo zd : List Int) (all : Int)
end

end Go.Proofs.YtnffjilmkpbelaaGreatDoor

/- Layer 5: Quoted. -/
namespace Go.Proofs.YtnffjilmkpbelaaGreatDoor
open Go.RowKit Go.Shelf
set_option maxRecDepth 100000
set_option linter.unusedVariables false
set_option linter.unusedSimpArgs false

end Go.Proofs.YtnffjilmkpbelaaGreatDoor

/- Layer 5: Quoted in one form. -/
namespace Go.Proofs.YtnffjilmkpbelaaGreatDoor
open Go.RowKit Go.Shelf
set_option maxRecDepth 100000
set_option linter.unusedVariables false
set_option linter.unusedSimpArgs false

end Go.Proofs.YtnffjilmkpbelaaGreatDoor
