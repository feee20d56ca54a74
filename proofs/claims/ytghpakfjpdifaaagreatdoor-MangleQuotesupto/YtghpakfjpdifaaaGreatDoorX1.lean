/- Several texts in one. -/
import Derived.Test.YtghpakfjpdifaaaGreatDoorX2
import Derived.Test.YtghpakfjpdifaaaGreatDoorX8
import Derived.Test.YtghpakfjpdifaaaGreatDoorV5
import Derived.Test.YtghpakfjpdifaaaGreatDoorX6
import Derived.Test.YtghpakfjpdifaaaGreatDoorHd
import Derived.Test.YtghpakfjpdifaaaGreatDoorX3
import Derived.Test.YtghpakfjpdifaaaGreatDoorX5
/- The document's Inner: messages, frames, others. -/
namespace Go.Proofs.YtghpakfjpdifaaaGreatDoor
open Go.RowKit Go.Shelf
set_option maxRecDepth 100000
set_option linter.unusedVariables false
set_option linter.unusedSimpArgs false

set_option maxHeartbeats 8000000 in
theorem rinner_icmp (pr : Int) (tos id ttl src dst : Int) (keep : Bool) (so sd : Value) (zd : List Int) (w : World) (hB : Mt.By zd) (hI : Rd w.heap.size w sd zd) (hl : zd.length ≤ 1099511627776) (hpi : pie 1 zd = 0) (her : erb (zd[0]?.getD 0) = true) (hrd : rde true (zd.drop 8) = 0) (hpr : (zd.drop 8)[9]?.getD 0 = pr) (h8 : 8 ≤ (qdt (zd.drop 8)).length) (hld : (qdt (zd.drop 8)).length ≤ 140737488355328) (hp : pr = 1) (hec : ecb ((qdt (zd.drop 8))[0]?.getD 0) ((qdt (zd.drop 8))[1]?.getD 0) = true) : Calls Tryz.prog 20 #[.agg #[.int .u8 tos, .int .u16 id, .bool keep, .int .u8 ttl, .int .u8 1, .int .u32 src, .int .u32 dst, so, sd]] w fun e w' => Below w.heap.size w w' ∧ rin zd (.agg #[.int .u8 pr, .int .u32 (wat4 (zd.drop 8) 12), .int .u32 (wat4 (zd.drop 8) 16), .int .u16 (getAt2 (qdt (zd.drop 8)) 4), .int .u16 (getAt2 (qdt (zd.drop 8)) 4)]) 0 e := by
 have hd1 : (qdt (zd.drop 8))[1]?.getD 0 = 0 := by unfold ecb at hec; simp at hec; exact hec.2
 have hd0 : (qdt (zd.drop 8))[0]?.getD 0 = 8 ∨ (qdt (zd.drop 8))[0]?.getD 0 = 0 := by unfold ecb at hec; simp at hec; exact hec.1
 clear hec
 obtain ⟨e0v, he0⟩ : ∃ e0v, (qdt (zd.drop 8))[0]?.getD 0 = e0v := ⟨_, rfl⟩
 have HD1 := hide hd1
 have HD0 := hide hd0
 clear hd1 hd0 he0
 obtain ⟨ad, cd, rfl, _, _⟩ := hI.slice
 have hb0 : Below w.heap.size w (((w.alloc (.cells #[.int .u8 tos, .int .u16 id, .bool keep, .int .u8 ttl, .int .u8 1, .int .u32 src, .int .u32 dst, so, .slice ad zd.length cd] 26)).alloc (.cells #[.int .u8 0, .int .u16 0, .bool false, .int .u8 0, .int .u8 0, .int .u32 0, .int .u32 0, .slice none 0 0, .slice none 0 0] 26)).alloc (.cells #[.int .u8 0, .int .u32 0, .int .u32 0, .int .u16 0, .int .u16 0] 29)) := ((((Below.refl _ _).alloc (Nat.le_refl _) _).alloc (by simp) _).alloc (by simp <;> omega) _)
 have r0 : (((w.alloc (.cells #[.int .u8 tos, .int .u16 id, .bool keep, .int .u8 ttl, .int .u8 1, .int .u32 src, .int .u32 dst, so, .slice ad zd.length cd] 26)).alloc (.cells #[.int .u8 0, .int .u16 0, .bool false, .int .u8 0, .int .u8 0, .int .u32 0, .int .u32 0, .slice none 0 0, .slice none 0 0] 26)).alloc (.cells #[.int .u8 0, .int .u32 0, .int .u32 0, .int .u16 0, .int .u16 0] 29)).heap[w.heap.size + 1]? = some (.cells #[.int .u8 0, .int .u16 0, .bool false, .int .u8 0, .int .u8 0, .int .u32 0, .int .u32 0, .slice none 0 0, .slice none 0 0] 26) := by
  have := heap_alloc_new (w.alloc (.cells #[.int .u8 tos, .int .u16 id, .bool keep, .int .u8 ttl, .int .u8 1, .int .u32 src, .int .u32 dst, so, .slice ad zd.length cd] 26)) (.cells #[.int .u8 0, .int .u16 0, .bool false, .int .u8 0, .int .u8 0, .int .u32 0, .int .u32 0, .slice none 0 0, .slice none 0 0] 26)
  rw [World.size_alloc] at this
  exact (Below.heap_alloc _ _ _ (by simp)).trans this
 have s0 : (((w.alloc (.cells #[.int .u8 tos, .int .u16 id, .bool keep, .int .u8 ttl, .int .u8 1, .int .u32 src, .int .u32 dst, so, .slice ad zd.length cd] 26)).alloc (.cells #[.int .u8 0, .int .u16 0, .bool false, .int .u8 0, .int .u8 0, .int .u32 0, .int .u32 0, .slice none 0 0, .slice none 0 0] 26)).alloc (.cells #[.int .u8 0, .int .u32 0, .int .u32 0, .int .u16 0, .int .u16 0] 29)).heap[w.heap.size + 1 + 1]? = some (.cells #[.int .u8 0, .int .u32 0, .int .u32 0, .int .u16 0, .int .u16 0] 29) := by
  have := heap_alloc_new ((w.alloc (.cells #[.int .u8 tos, .int .u16 id, .bool keep, .int .u8 ttl, .int .u8 1, .int .u32 src, .int .u32 dst, so, .slice ad zd.length cd] 26)).alloc (.cells #[.int .u8 0, .int .u16 0, .bool false, .int .u8 0, .int .u8 0, .int .u32 0, .int .u32 0, .slice none 0 0, .slice none 0 0] 26)) (.cells #[.int .u8 0, .int .u32 0, .int .u32 0, .int .u16 0, .int .u16 0] 29)
  simpa only [World.size_alloc] using this
 have R0 := hide r0
 have S0 := hide s0
 clear r0 s0
 go_enter Tryz.func20, Tryz.ntmps20
 go_wp2_with fail
 generalize (((w.alloc (.cells #[.int .u8 tos, .int .u16 id, .bool keep, .int .u8 ttl, .int .u8 1, .int .u32 src, .int .u32 dst, so, .slice ad zd.length cd] 26)).alloc (.cells #[.int .u8 0, .int .u16 0, .bool false, .int .u8 0, .int .u8 0, .int .u32 0, .int .u32 0, .slice none 0 0, .slice none 0 0] 26)).alloc (.cells #[.int .u8 0, .int .u32 0, .int .u32 0, .int .u16 0, .int .u16 0] 29)) = w0 at *
 refine (rparseIcmp_any tos id ttl 1 src dst keep _ _ zd w0 hB ((hI.below hb0).mono hb0.size) hl).mono ?_
 rintro e w1 ⟨hb1, ⟨hf, rfl⟩ | ⟨hf, a1, c1, rfl, hO⟩⟩
 ·exact absurd hpi hf
 ·clear hf
  have la : Later w1 (w1.alloc (.cells #[.int .u8 (zd[0]?.getD 0), .int .u8 (zd[1]?.getD 0), .int .u32 (wat4 zd 4), .slice a1 (zd.length - 8) c1] 42)) := (Below.refl _ _).alloc (Nat.le_refl _) _
  have l1 := Later.trans hb1 la
  have mW := heap_alloc_new w1 (.cells #[.int .u8 (zd[0]?.getD 0), .int .u8 (zd[1]?.getD 0), .int .u32 (wat4 zd 4), .slice a1 (zd.length - 8) c1] 42)
  have rW := later_keep l1 R0.out
  have sW := later_keep l1 S0.out
  have hwW := hb0.trans (l1.mono hb0.size)
  have DW := hO.ck (CK.of la)
  go_wp2_with fail
  generalize w1.alloc (.cells #[.int .u8 (zd[0]?.getD 0), .int .u8 (zd[1]?.getD 0), .int .u32 (wat4 zd 4), .slice a1 (zd.length - 8) c1] 42) = W at *
  generalize w1.heap.size = gm at *
  refine (risError_any (zd[0]?.getD 0) (zd[1]?.getD 0) (wat4 zd 4) _ W).mono ?_
  rw [show (zd[0]?.getD 0 == 3 || (zd[0]?.getD 0 == 11 || zd[0]?.getD 0 == 12)) = true from her]
  rintro e w2 ⟨rfl, hb2⟩
  have l2 : Later W w2 := hb2
  have r2 := later_keep l2 rW
  have s2 := later_keep l2 sW
  have hw2 := hwW.trans (hb2.mono hwW.size)
  have km := block_cell (later_keep l2 mW)
  have D2 := DW.ck (CK.of l2)
  go_wp2_with fail
  clear km
  refine (rquote_any _ (zd.drop 8) w2 (hB.drop 8) (by simp; omega) D2.rd).mono ?_
  rintro e w3 ⟨hb3, ⟨hf3, _⟩ | ⟨_, qo, qs0, rfl, hO3, hD3⟩⟩
  ·exact absurd hrd hf3
  obtain ⟨b7, c7, rfl, _, _⟩ := hO3.slice
  obtain ⟨b8, c8, rfl, hc8, hc9⟩ := hD3.slice
  have hBq := By_qdt (hB.drop 8)
  unfold pkt
  have HPR := hide hpr
  rw [hpr]
  clear hpr hpi her hrd
  generalize (zd.drop 8)[1]?.getD 0 = q1 at *
  generalize wat (zd.drop 8) 4 = q2 at *
  generalize decide (16384 ≤ wat (zd.drop 8) 6 % 32768) = q3 at *
  generalize (zd.drop 8)[8]?.getD 0 = q4 at *
  generalize hqs : wat4 (zd.drop 8) 12 = qs at *
  generalize hqd : wat4 (zd.drop 8) 16 = qd at *
  have HQS := hide hqs
  have HQD := hide hqd
  clear hqs hqd
  generalize hl7 : (((zd.drop 8).take (hl4 (zd.drop 8)).toNat).drop 20).length = l7 at *
  have HL7 := hide hl7
  clear hl7
  clear hO3
  rw [show ((zd.drop 8).take (ral true (zd.drop 8)).toNat).drop (hl4 (zd.drop 8)).toNat = qdt (zd.drop 8) from rfl] at hD3 hc8 ⊢
  generalize hdq : qdt (zd.drop 8) = dq at *
  have HDQ := hide hdq
  clear hdq
  have la3 : Later w3 (w3.alloc (.cells #[.int .u8 q1, .int .u16 q2, .bool q3, .int .u8 q4, .int .u8 pr, .int .u32 qs, .int .u32 qd, .slice b7 l7 c7, .slice b8 dq.length c8] 26)) := (Below.refl _ _).alloc (Nat.le_refl _) _
  have lb3 : Later (w3.alloc (.cells #[.int .u8 q1, .int .u16 q2, .bool q3, .int .u8 q4, .int .u8 pr, .int .u32 qs, .int .u32 qd, .slice b7 l7 c7, .slice b8 dq.length c8] 26)) ((w3.alloc (.cells #[.int .u8 q1, .int .u16 q2, .bool q3, .int .u8 q4, .int .u8 pr, .int .u32 qs, .int .u32 qd, .slice b7 l7 c7, .slice b8 dq.length c8] 26)).alloc (.cells #[.int .u8 pr, .int .u32 qs, .int .u32 qd, .int .u16 0, .int .u16 0] 29)) := (Below.refl _ _).alloc (Nat.le_refl _) _
  have lab := la3.trans lb3
  have l3 := Later.trans hb3 lab
  have qk := later_keep lb3 (heap_alloc_new w3 (.cells #[.int .u8 q1, .int .u16 q2, .bool q3, .int .u8 q4, .int .u8 pr, .int .u32 qs, .int .u32 qd, .slice b7 l7 c7, .slice b8 dq.length c8] 26))
  have tk := heap_alloc_new (w3.alloc (.cells #[.int .u8 q1, .int .u16 q2, .bool q3, .int .u8 q4, .int .u8 pr, .int .u32 qs, .int .u32 qd, .slice b7 l7 c7, .slice b8 dq.length c8] 26)) (.cells #[.int .u8 pr, .int .u32 qs, .int .u32 qd, .int .u16 0, .int .u16 0] 29)
  rw [World.size_alloc] at tk
  have r3 := later_keep l3 r2
  have s3 := later_keep l3 s2
  have hw3 := hw2.trans (l3.mono hw2.size)
  have D3 := hD3.ck (CK.of lab)
  have hgq : w.heap.size + 1 + 1 < w3.heap.size := Nat.lt_of_lt_of_le (Array.getElem?_eq_some_iff.1 s2).1 hb3.size
  clear D2 hD3
  have HLQ : Hid (8 ≤ dq.length) := h8
  have hq6 : (pr == 6) = false := by simp [hp]
  have hq17 : (pr == 17) = false := by simp [hp]
  have hq1 : (pr == 1) = true := by simp [hp]
  have hq47 : (pr == 47) = false := by simp [hp]
  have HP := hide hp
  clear hp
  have kq := block_cell qk
  go_upto_region 18 with fail
  generalize (w3.alloc (.cells #[.int .u8 q1, .int .u16 q2, .bool q3, .int .u8 q4, .int .u8 pr, .int .u32 qs, .int .u32 qd, .slice b7 l7 c7, .slice b8 dq.length c8] 26)).alloc (.cells #[.int .u8 pr, .int .u32 qs, .int .u32 qd, .int .u16 0, .int .u16 0] 29) = w4 at *
  generalize w3.heap.size = gq at *
  have h8q := HLQ.out
  have h8i : (8 : Int) ≤ dq.length := by omega
  obtain ⟨g8, rfl, _, _, hcs, _⟩ := D3.at (by omega)
  have kd0 := (hcs 0 (by omega)).1
  have kd1 := (hcs 1 (by omega)).1
  clear hcs
  rw [show dq[1]?.getD 0 = 0 from HD1.out] at kd1
  have hor : dq[0]?.getD 0 = 8 ∨ dq[0]?.getD 0 = 0 := HD0.out
  rcases hor with h0 | h0
  ·rw [h0] at kd0
   clear h0
   go_upto_region 20 with fail
   clear hq6 hq17 hq1 hq47 kq
   clear kd0 kd1
   have kq := block_cell qk
   go_wp2_with fail
   clear kq
   refine (rget16_at _ dq hBq 4 (by omega) hld w4 D3.rd).mono ?_
   rintro e W5 ⟨rfl, n5, e5⟩
   have l5 : Later w4 W5 := by rw [e5]; exact below_draw (Later.refl w4) n5
   clear e5
   have t5 := later_keep l5 tk
   generalize hg4 : getAt2 dq 4 = g4 at *
   have HG4 := hide hg4
   clear hg4
   have kx := block_cell t5
   have fx := block_frozen t5
   go_upto_region 21 with fail
   generalize hV : W5.setCell ⟨gq + 1, 3, none⟩ _ = V7
   have tV := heap_set1 t5 3 (.int .u16 g4)
   rw [hV] at tV
   have hbV7 : But (fun b => b = gq + 1) W5 V7 := by rw [← hV]; exact (But.refl (fun b => b = gq + 1) _).setCell (p := ⟨gq + 1, 3, none⟩) rfl _
   clear hV kx fx
   simp only [List.setIfInBounds_toArray, List.set_cons_zero, List.set_cons_succ] at tV
   have kx := block_cell tV
   have fx := block_frozen tV
   go_upto_region 26 with fail
   generalize hV : V7.setCell ⟨gq + 1, 4, none⟩ _ = V8
   have tN := heap_set1 tV 4 (.int .u16 g4)
   rw [hV] at tN
   have hbV8 : But (fun b => b = gq + 1) V7 V8 := by rw [← hV]; exact (But.refl (fun b => b = gq + 1) _).setCell (p := ⟨gq + 1, 4, none⟩) rfl _
   clear hV kx fx
   simp only [List.setIfInBounds_toArray, List.set_cons_zero, List.set_cons_succ] at tN
   have hbN : But (fun b => b = gq + 1) w4 V8 := (But.of l5).trans (hbV7.trans hbV8)
   have qN := (hbN.block gq (Array.getElem?_eq_some_iff.1 qk).1 (by omega)).trans qk
   have rN := (hbN.block (w.heap.size + 1) (Array.getElem?_eq_some_iff.1 r3).1 (by omega)).trans r3
   have sN := (hbN.block (w.heap.size + 1 + 1) (Array.getElem?_eq_some_iff.1 s3).1 (by omega)).trans s3
   have hwN : Below w.heap.size w V8 := hw3.trans (hbN.below hw3.size (fun k hk e => by omega))
   refine anyT_begin (R := But (fun b => b = w.heap.size + 1 ∨ b = w.heap.size + 1 + 1)) 5 rfl (by kernel_rfl) ?_
   have ld : Later V8 V8.drew := Later.drew V8
   have qd0 := later_keep ld qN
   have td0 := later_keep ld tN
   have rd0 := later_keep ld rN
   have sd0 := later_keep ld sN
   have hwd := hwN.trans (ld.mono hwN.size)
   generalize V8.drew = Wd at *
   have ha : ∀ v1, But (fun b => b = w.heap.size + 1 ∨ b = w.heap.size + 1 + 1) Wd v1 → ∀ i, v1.cell? ⟨gq, i, none⟩ = #[Value.int .u8 q1, .int .u16 q2, .bool q3, .int .u8 q4, .int .u8 pr, .int .u32 qs, .int .u32 qd, .slice b7 l7 c7, .slice (some ⟨g8, 0, none⟩) dq.length c8][i]? := fun v1 h => block_cell ((h.block gq (Array.getElem?_eq_some_iff.1 qd0).1 (by omega)).trans qd0)
   have hb : ∀ v1, But (fun b => b = w.heap.size + 1 ∨ b = w.heap.size + 1 + 1) Wd v1 → ∀ i, v1.cell? ⟨gq + 1, i, none⟩ = #[Value.int .u8 pr, .int .u32 qs, .int .u32 qd, .int .u16 g4, .int .u16 g4][i]? := fun v1 h => block_cell ((h.block (gq + 1) (Array.getElem?_eq_some_iff.1 td0).1 (by omega)).trans td0)
   refine anyT_val (But.pre _) 0 rfl (by kernel_rfl) (by kernel_rfl) (by kernel_rfl) (fun _ _ _ _ h => h) rfl ?_; apply Exists.intro; refine ⟨fun v1 hv1 => ?_, ?_⟩; (· (go_simp; rfl)); simp only [Act.put, sA, sB, sC]
   refine anyT_val (But.pre _) 1 rfl (by kernel_rfl) (by kernel_rfl) (by kernel_rfl) (fun _ _ _ _ h => h) rfl ?_; apply Exists.intro; refine ⟨fun v1 hv1 => ?_, ?_⟩; (· (go_simp; rfl)); simp only [Act.put, sA, sB, sC]
   clear ha hb
   have kx := block_cell rd0
   have fx := block_frozen rd0
   refine anyT_one 2 rfl (by kernel_rfl) rfl ?_
   unfold Oper.wp
   go_simp
   generalize hV1 : ((((((((Wd.setCell ⟨w.heap.size + 1, 0, none⟩ _).setCell ⟨w.heap.size + 1, 1, none⟩ _).setCell ⟨w.heap.size + 1, 2, none⟩ _).setCell ⟨w.heap.size + 1, 3, none⟩ _).setCell ⟨w.heap.size + 1, 4, none⟩ _).setCell ⟨w.heap.size + 1, 5, none⟩ _).setCell ⟨w.heap.size + 1, 6, none⟩ _).setCell ⟨w.heap.size + 1, 7, none⟩ _).setCell ⟨w.heap.size + 1, 8, none⟩ _ = Y0
   have hV9 : Y0 = putRow Wd (w.heap.size + 1) 0 [.int .u8 q1, .int .u16 q2, .bool q3, .int .u8 q4, .int .u8 pr, .int .u32 qs, .int .u32 qd, .slice b7 l7 c7, .slice (some ⟨g8, 0, none⟩) dq.length c8] := hV1.symm
   have hbY0 : But (fun b => b = w.heap.size + 1) Wd Y0 := by rw [hV9]; exact putRow_but (E := fun b => b = w.heap.size + 1) (n := w.heap.size + 1) rfl _ _ _ _ (But.refl _ _)
   have hbY1 : But (fun b => b = w.heap.size + 1 ∨ b = w.heap.size + 1 + 1) Wd Y0 := by rw [hV9]; exact putRow_but (E := fun b => b = w.heap.size + 1 ∨ b = w.heap.size + 1 + 1) (n := w.heap.size + 1) (.inl rfl) _ _ _ _ (But.refl _ _)
   have pY0 := putRow_all ([.int .u8 q1, .int .u16 q2, .bool q3, .int .u8 q4, .int .u8 pr, .int .u32 qs, .int .u32 qd, .slice b7 l7 c7, .slice (some ⟨g8, 0, none⟩) dq.length c8] : List Value) rd0 rfl
   rw [← hV9] at pY0
   have sY0 := (hbY0.block (w.heap.size + 1 + 1) (Array.getElem?_eq_some_iff.1 sd0).1 (by omega)).trans sd0
   refine ⟨hbY1, ?_⟩
   clear hV1 hV9 kx fx
   have kx := block_cell sY0
   have fx := block_frozen sY0
   refine anyT_one 3 rfl (by kernel_rfl) rfl ?_
   unfold Oper.wp
   go_simp
   generalize hV2 : ((((Y0.setCell ⟨w.heap.size + 1 + 1, 0, none⟩ _).setCell ⟨w.heap.size + 1 + 1, 1, none⟩ _).setCell ⟨w.heap.size + 1 + 1, 2, none⟩ _).setCell ⟨w.heap.size + 1 + 1, 3, none⟩ _).setCell ⟨w.heap.size + 1 + 1, 4, none⟩ _ = V
   have hV8 : V = putRow Y0 (w.heap.size + 1 + 1) 0 [.int .u8 pr, .int .u32 qs, .int .u32 qd, .int .u16 g4, .int .u16 g4] := hV2.symm
   have hbV : But (fun b => b = w.heap.size + 1 + 1) Y0 V := by rw [hV8]; exact putRow_but (E := fun b => b = w.heap.size + 1 + 1) (n := w.heap.size + 1 + 1) rfl _ _ _ _ (But.refl _ _)
   have hbV1 : But (fun b => b = w.heap.size + 1 ∨ b = w.heap.size + 1 + 1) Y0 V := by rw [hV8]; exact putRow_but (E := fun b => b = w.heap.size + 1 ∨ b = w.heap.size + 1 + 1) (n := w.heap.size + 1 + 1) (.inr rfl) _ _ _ _ (But.refl _ _)
   have qV := putRow_all ([.int .u8 pr, .int .u32 qs, .int .u32 qd, .int .u16 g4, .int .u16 g4] : List Value) sY0 rfl
   rw [← hV8] at qV
   have pV := (hbV.block (w.heap.size + 1) (Array.getElem?_eq_some_iff.1 pY0).1 (by omega)).trans pY0
   refine ⟨hbV1, ?_⟩
   clear hV2 hV8 kx fx
   refine anyT_one 4 rfl (by kernel_rfl) rfl ?_
   unfold Oper.wp
   go_simp
   refine ⟨But.refl _ _, ?_⟩
   refine anyT_done (by kernel_rfl) ?_
   have PV := block_cell pV
   have QV := block_cell qV
   have hwV : Below w.heap.size w V := (hwd.trans (hbY0.below hwd.size (fun k hk e => by omega))).trans (hbV.below (Nat.le_trans hwd.size hbY0.size) (fun k hk e => by omega))
   go_wp2_with fail
   exact bodyPost_ret (v := .tuple #[.agg #[.int .u8 q1, .int .u16 q2, .bool q3, .int .u8 q4, .int .u8 pr, .int .u32 qs, .int .u32 qd, .slice b7 l7 c7, .slice (some ⟨g8, 0, none⟩) dq.length c8], .agg #[.int .u8 pr, .int .u32 qs, .int .u32 qd, .int .u16 g4, .int .u16 g4], .int .i64 0]) (by simp [results, Tryz.results20, go_sem, PV, QV]) rfl ⟨hwV, by rw [HDQ.out, HG4.out, HQS.out, HQD.out]; exact rin_yes _ _ _ _ _ _ _ _ _ _ _ _ _ _ _ ⟨HPR.out.symm, HL7.out.symm, by rw [HDQ.out]⟩⟩
  ·rw [h0] at kd0
   clear h0
   go_upto_region 20 with fail
   clear hq6 hq17 hq1 hq47 kq
   clear kd0 kd1
   have kq := block_cell qk
   go_wp2_with fail
   clear kq
   refine (rget16_at _ dq hBq 4 (by omega) hld w4 D3.rd).mono ?_
   rintro e W5 ⟨rfl, n5, e5⟩
   have l5 : Later w4 W5 := by rw [e5]; exact below_draw (Later.refl w4) n5
   clear e5
   have t5 := later_keep l5 tk
   generalize hg4 : getAt2 dq 4 = g4 at *
   have HG4 := hide hg4
   clear hg4
   have kx := block_cell t5
   have fx := block_frozen t5
   go_upto_region 21 with fail
   generalize hV : W5.setCell ⟨gq + 1, 3, none⟩ _ = V7
   have tV := heap_set1 t5 3 (.int .u16 g4)
   rw [hV] at tV
   have hbV7 : But (fun b => b = gq + 1) W5 V7 := by rw [← hV]; exact (But.refl (fun b => b = gq + 1) _).setCell (p := ⟨gq + 1, 3, none⟩) rfl _
   clear hV kx fx
   simp only [List.setIfInBounds_toArray, List.set_cons_zero, List.set_cons_succ] at tV
   have kx := block_cell tV
   have fx := block_frozen tV
   go_upto_region 26 with fail
   generalize hV : V7.setCell ⟨gq + 1, 4, none⟩ _ = V8
   have tN := heap_set1 tV 4 (.int .u16 g4)
   rw [hV] at tN
   have hbV8 : But (fun b => b = gq + 1) V7 V8 := by rw [← hV]; exact (But.refl (fun b => b = gq + 1) _).setCell (p := ⟨gq + 1, 4, none⟩) rfl _
   clear hV kx fx
   simp only [List.setIfInBounds_toArray, List.set_cons_zero, List.set_cons_succ] at tN
   have hbN : But (fun b => b = gq + 1) w4 V8 := (But.of l5).trans (hbV7.trans hbV8)
   have qN := (hbN.block gq (Array.getElem?_eq_some_iff.1 qk).1 (by omega)).trans qk
   have rN := (hbN.block (w.heap.size + 1) (Array.getElem?_eq_some_iff.1 r3).1 (by omega)).trans r3
   have sN := (hbN.block (w.heap.size + 1 + 1) (Array.getElem?_eq_some_iff.1 s3).1 (by omega)).trans s3
   have hwN : Below w.heap.size w V8 := hw3.trans (hbN.below hw3.size (fun k hk e => by omega))
   refine anyT_begin (R := But (fun b => b = w.heap.size + 1 ∨ b = w.heap.size + 1 + 1)) 5 rfl (by kernel_rfl) ?_
   have ld : Later V8 V8.drew := Later.drew V8
   have qd0 := later_keep ld qN
   have td0 := later_keep ld tN
   have rd0 := later_keep ld rN
   have sd0 := later_keep ld sN
   have hwd := hwN.trans (ld.mono hwN.size)
   generalize V8.drew = Wd at *
   have ha : ∀ v1, But (fun b => b = w.heap.size + 1 ∨ b = w.heap.size + 1 + 1) Wd v1 → ∀ i, v1.cell? ⟨gq, i, none⟩ = #[Value.int .u8 q1, .int .u16 q2, .bool q3, .int .u8 q4, .int .u8 pr, .int .u32 qs, .int .u32 qd, .slice b7 l7 c7, .slice (some ⟨g8, 0, none⟩) dq.length c8][i]? := fun v1 h => block_cell ((h.block gq (Array.getElem?_eq_some_iff.1 qd0).1 (by omega)).trans qd0)
   have hb : ∀ v1, But (fun b => b = w.heap.size + 1 ∨ b = w.heap.size + 1 + 1) Wd v1 → ∀ i, v1.cell? ⟨gq + 1, i, none⟩ = #[Value.int .u8 pr, .int .u32 qs, .int .u32 qd, .int .u16 g4, .int .u16 g4][i]? := fun v1 h => block_cell ((h.block (gq + 1) (Array.getElem?_eq_some_iff.1 td0).1 (by omega)).trans td0)
   refine anyT_val (But.pre _) 0 rfl (by kernel_rfl) (by kernel_rfl) (by kernel_rfl) (fun _ _ _ _ h => h) rfl ?_; apply Exists.intro; refine ⟨fun v1 hv1 => ?_, ?_⟩; (· (go_simp; rfl)); simp only [Act.put, sA, sB, sC]
   refine anyT_val (But.pre _) 1 rfl (by kernel_rfl) (by kernel_rfl) (by kernel_rfl) (fun _ _ _ _ h => h) rfl ?_; apply Exists.intro; refine ⟨fun v1 hv1 => ?_, ?_⟩; (· (go_simp; rfl)); simp only [Act.put, sA, sB, sC]
   clear ha hb
   have kx := block_cell rd0
   have fx := block_frozen rd0
   refine anyT_one 2 rfl (by kernel_rfl) rfl ?_
   unfold Oper.wp
   go_simp
   generalize hV1 : ((((((((Wd.setCell ⟨w.heap.size + 1, 0, none⟩ _).setCell ⟨w.heap.size + 1, 1, none⟩ _).setCell ⟨w.heap.size + 1, 2, none⟩ _).setCell ⟨w.heap.size + 1, 3, none⟩ _).setCell ⟨w.heap.size + 1, 4, none⟩ _).setCell ⟨w.heap.size + 1, 5, none⟩ _).setCell ⟨w.heap.size + 1, 6, none⟩ _).setCell ⟨w.heap.size + 1, 7, none⟩ _).setCell ⟨w.heap.size + 1, 8, none⟩ _ = Y0
   have hV9 : Y0 = putRow Wd (w.heap.size + 1) 0 [.int .u8 q1, .int .u16 q2, .bool q3, .int .u8 q4, .int .u8 pr, .int .u32 qs, .int .u32 qd, .slice b7 l7 c7, .slice (some ⟨g8, 0, none⟩) dq.length c8] := hV1.symm
   have hbY0 : But (fun b => b = w.heap.size + 1) Wd Y0 := by rw [hV9]; exact putRow_but (E := fun b => b = w.heap.size + 1) (n := w.heap.size + 1) rfl _ _ _ _ (But.refl _ _)
   have hbY1 : But (fun b => b = w.heap.size + 1 ∨ b = w.heap.size + 1 + 1) Wd Y0 := by rw [hV9]; exact putRow_but (E := fun b => b = w.heap.size + 1 ∨ b = w.heap.size + 1 + 1) (n := w.heap.size + 1) (.inl rfl) _ _ _ _ (But.refl _ _)
   have pY0 := putRow_all ([.int .u8 q1, .int .u16 q2, .bool q3, .int .u8 q4, .int .u8 pr, .int .u32 qs, .int .u32 qd, .slice b7 l7 c7, .slice (some ⟨g8, 0, none⟩) dq.length c8] : List Value) rd0 rfl
   rw [← hV9] at pY0
   have sY0 := (hbY0.block (w.heap.size + 1 + 1) (Array.getElem?_eq_some_iff.1 sd0).1 (by omega)).trans sd0
   refine ⟨hbY1, ?_⟩
   clear hV1 hV9 kx fx
   have kx := block_cell sY0
   have fx := block_frozen sY0
   refine anyT_one 3 rfl (by kernel_rfl) rfl ?_
   unfold Oper.wp
   go_simp
   generalize hV2 : ((((Y0.setCell ⟨w.heap.size + 1 + 1, 0, none⟩ _).setCell ⟨w.heap.size + 1 + 1, 1, none⟩ _).setCell ⟨w.heap.size + 1 + 1, 2, none⟩ _).setCell ⟨w.heap.size + 1 + 1, 3, none⟩ _).setCell ⟨w.heap.size + 1 + 1, 4, none⟩ _ = V
   have hV8 : V = putRow Y0 (w.heap.size + 1 + 1) 0 [.int .u8 pr, .int .u32 qs, .int .u32 qd, .int .u16 g4, .int .u16 g4] := hV2.symm
   have hbV : But (fun b => b = w.heap.size + 1 + 1) Y0 V := by rw [hV8]; exact putRow_but (E := fun b => b = w.heap.size + 1 + 1) (n := w.heap.size + 1 + 1) rfl _ _ _ _ (But.refl _ _)
   have hbV1 : But (fun b => b = w.heap.size + 1 ∨ b = w.heap.size + 1 + 1) Y0 V := by rw [hV8]; exact putRow_but (E := fun b => b = w.heap.size + 1 ∨ b = w.heap.size + 1 + 1) (n := w.heap.size + 1 + 1) (.inr rfl) _ _ _ _ (But.refl _ _)
   have qV := putRow_all ([.int .u8 pr, .int .u32 qs, .int .u32 qd, .int .u16 g4, .int .u16 g4] : List Value) sY0 rfl
   rw [← hV8] at qV
   have pV := (hbV.block (w.heap.size + 1) (Array.getElem?_eq_some_iff.1 pY0).1 (by omega)).trans pY0
   refine ⟨hbV1, ?_⟩
   clear hV2 hV8 kx fx
   refine anyT_one 4 rfl (by kernel_rfl) rfl ?_
   unfold Oper.wp
   go_simp
   refine ⟨But.refl _ _, ?_⟩
   refine anyT_done (by kernel_rfl) ?_
   have PV := block_cell pV
   have QV := block_cell qV
   have hwV : Below w.heap.size w V := (hwd.trans (hbY0.below hwd.size (fun k hk e => by omega))).trans (hbV.below (Nat.le_trans hwd.size hbY0.size) (fun k hk e => by omega))
   go_wp2_with fail
   exact bodyPost_ret (v := .tuple #[.agg #[.int .u8 q1, .int .u16 q2, .bool q3, .int .u8 q4, .int .u8 pr, .int .u32 qs, .int .u32 qd, .slice b7 l7 c7, .slice (some ⟨g8, 0, none⟩) dq.length c8], .agg #[.int .u8 pr, .int .u32 qs, .int .u32 qd, .int .u16 g4, .int .u16 g4], .int .i64 0]) (by simp [results, Tryz.results20, go_sem, PV, QV]) rfl ⟨hwV, by rw [HDQ.out, HG4.out, HQS.out, HQD.out]; exact rin_yes _ _ _ _ _ _ _ _ _ _ _ _ _ _ _ ⟨HPR.out.symm, HL7.out.symm, by rw [HDQ.out]⟩⟩

set_option maxHeartbeats 8000000 in
theorem rinner_noecho (pr : Int) (tos id ttl src dst : Int) (keep : Bool) (so sd : Value) (zd : List Int) (w : World) (hB : Mt.By zd) (hI : Rd w.heap.size w sd zd) (hl : zd.length ≤ 1099511627776) (hpi : pie 1 zd = 0) (her : erb (zd[0]?.getD 0) = true) (hrd : rde true (zd.drop 8) = 0) (hpr : (zd.drop 8)[9]?.getD 0 = pr) (h8 : 8 ≤ (qdt (zd.drop 8)).length) (hld : (qdt (zd.drop 8)).length ≤ 140737488355328) (hp : pr = 1) (hec : ecb ((qdt (zd.drop 8))[0]?.getD 0) ((qdt (zd.drop 8))[1]?.getD 0) = false) : Calls Tryz.prog 20 #[.agg #[.int .u8 tos, .int .u16 id, .bool keep, .int .u8 ttl, .int .u8 1, .int .u32 src, .int .u32 dst, so, sd]] w fun e w' => Below w.heap.size w w' ∧ rin zd (.agg #[.int .u8 0, .int .u32 0, .int .u32 0, .int .u16 0, .int .u16 0]) 12 e := by
 have HEC := hide hec
 clear hec
 obtain ⟨ad, cd, rfl, _, _⟩ := hI.slice
 have hb0 : Below w.heap.size w (((w.alloc (.cells #[.int .u8 tos, .int .u16 id, .bool keep, .int .u8 ttl, .int .u8 1, .int .u32 src, .int .u32 dst, so, .slice ad zd.length cd] 26)).alloc (.cells #[.int .u8 0, .int .u16 0, .bool false, .int .u8 0, .int .u8 0, .int .u32 0, .int .u32 0, .slice none 0 0, .slice none 0 0] 26)).alloc (.cells #[.int .u8 0, .int .u32 0, .int .u32 0, .int .u16 0, .int .u16 0] 29)) := ((((Below.refl _ _).alloc (Nat.le_refl _) _).alloc (by simp) _).alloc (by simp <;> omega) _)
 have r0 : (((w.alloc (.cells #[.int .u8 tos, .int .u16 id, .bool keep, .int .u8 ttl, .int .u8 1, .int .u32 src, .int .u32 dst, so, .slice ad zd.length cd] 26)).alloc (.cells #[.int .u8 0, .int .u16 0, .bool false, .int .u8 0, .int .u8 0, .int .u32 0, .int .u32 0, .slice none 0 0, .slice none 0 0] 26)).alloc (.cells #[.int .u8 0, .int .u32 0, .int .u32 0, .int .u16 0, .int .u16 0] 29)).heap[w.heap.size + 1]? = some (.cells #[.int .u8 0, .int .u16 0, .bool false, .int .u8 0, .int .u8 0, .int .u32 0, .int .u32 0, .slice none 0 0, .slice none 0 0] 26) := by
  have := heap_alloc_new (w.alloc (.cells #[.int .u8 tos, .int .u16 id, .bool keep, .int .u8 ttl, .int .u8 1, .int .u32 src, .int .u32 dst, so, .slice ad zd.length cd] 26)) (.cells #[.int .u8 0, .int .u16 0, .bool false, .int .u8 0, .int .u8 0, .int .u32 0, .int .u32 0, .slice none 0 0, .slice none 0 0] 26)
  rw [World.size_alloc] at this
  exact (Below.heap_alloc _ _ _ (by simp)).trans this
 have s0 : (((w.alloc (.cells #[.int .u8 tos, .int .u16 id, .bool keep, .int .u8 ttl, .int .u8 1, .int .u32 src, .int .u32 dst, so, .slice ad zd.length cd] 26)).alloc (.cells #[.int .u8 0, .int .u16 0, .bool false, .int .u8 0, .int .u8 0, .int .u32 0, .int .u32 0, .slice none 0 0, .slice none 0 0] 26)).alloc (.cells #[.int .u8 0, .int .u32 0, .int .u32 0, .int .u16 0, .int .u16 0] 29)).heap[w.heap.size + 1 + 1]? = some (.cells #[.int .u8 0, .int .u32 0, .int .u32 0, .int .u16 0, .int .u16 0] 29) := by
  have := heap_alloc_new ((w.alloc (.cells #[.int .u8 tos, .int .u16 id, .bool keep, .int .u8 ttl, .int .u8 1, .int .u32 src, .int .u32 dst, so, .slice ad zd.length cd] 26)).alloc (.cells #[.int .u8 0, .int .u16 0, .bool false, .int .u8 0, .int .u8 0, .int .u32 0, .int .u32 0, .slice none 0 0, .slice none 0 0] 26)) (.cells #[.int .u8 0, .int .u32 0, .int .u32 0, .int .u16 0, .int .u16 0] 29)
  simpa only [World.size_alloc] using this
 have R0 := hide r0
 have S0 := hide s0
 clear r0 s0
 go_enter Tryz.func20, Tryz.ntmps20
 go_wp2_with fail
 generalize (((w.alloc (.cells #[.int .u8 tos, .int .u16 id, .bool keep, .int .u8 ttl, .int .u8 1, .int .u32 src, .int .u32 dst, so, .slice ad zd.length cd] 26)).alloc (.cells #[.int .u8 0, .int .u16 0, .bool false, .int .u8 0, .int .u8 0, .int .u32 0, .int .u32 0, .slice none 0 0, .slice none 0 0] 26)).alloc (.cells #[.int .u8 0, .int .u32 0, .int .u32 0, .int .u16 0, .int .u16 0] 29)) = w0 at *
 refine (rparseIcmp_any tos id ttl 1 src dst keep _ _ zd w0 hB ((hI.below hb0).mono hb0.size) hl).mono ?_
 rintro e w1 ⟨hb1, ⟨hf, rfl⟩ | ⟨hf, a1, c1, rfl, hO⟩⟩
 ·exact absurd hpi hf
 ·clear hf
  have la : Later w1 (w1.alloc (.cells #[.int .u8 (zd[0]?.getD 0), .int .u8 (zd[1]?.getD 0), .int .u32 (wat4 zd 4), .slice a1 (zd.length - 8) c1] 42)) := (Below.refl _ _).alloc (Nat.le_refl _) _
  have l1 := Later.trans hb1 la
  have mW := heap_alloc_new w1 (.cells #[.int .u8 (zd[0]?.getD 0), .int .u8 (zd[1]?.getD 0), .int .u32 (wat4 zd 4), .slice a1 (zd.length - 8) c1] 42)
  have rW := later_keep l1 R0.out
  have sW := later_keep l1 S0.out
  have hwW := hb0.trans (l1.mono hb0.size)
  have DW := hO.ck (CK.of la)
  go_wp2_with fail
  generalize w1.alloc (.cells #[.int .u8 (zd[0]?.getD 0), .int .u8 (zd[1]?.getD 0), .int .u32 (wat4 zd 4), .slice a1 (zd.length - 8) c1] 42) = W at *
  generalize w1.heap.size = gm at *
  refine (risError_any (zd[0]?.getD 0) (zd[1]?.getD 0) (wat4 zd 4) _ W).mono ?_
  rw [show (zd[0]?.getD 0 == 3 || (zd[0]?.getD 0 == 11 || zd[0]?.getD 0 == 12)) = true from her]
  rintro e w2 ⟨rfl, hb2⟩
  have l2 : Later W w2 := hb2
  have r2 := later_keep l2 rW
  have s2 := later_keep l2 sW
  have hw2 := hwW.trans (hb2.mono hwW.size)
  have km := block_cell (later_keep l2 mW)
  have D2 := DW.ck (CK.of l2)
  go_wp2_with fail
  clear km
  refine (rquote_any _ (zd.drop 8) w2 (hB.drop 8) (by simp; omega) D2.rd).mono ?_
  rintro e w3 ⟨hb3, ⟨hf3, _⟩ | ⟨_, qo, qs0, rfl, hO3, hD3⟩⟩
  ·exact absurd hrd hf3
  obtain ⟨b7, c7, rfl, _, _⟩ := hO3.slice
  obtain ⟨b8, c8, rfl, hc8, hc9⟩ := hD3.slice
  have hBq := By_qdt (hB.drop 8)
  unfold pkt
  have HPR := hide hpr
  rw [hpr]
  clear hpr hpi her hrd
  generalize (zd.drop 8)[1]?.getD 0 = q1 at *
  generalize wat (zd.drop 8) 4 = q2 at *
  generalize decide (16384 ≤ wat (zd.drop 8) 6 % 32768) = q3 at *
  generalize (zd.drop 8)[8]?.getD 0 = q4 at *
  generalize hqs : wat4 (zd.drop 8) 12 = qs at *
  generalize hqd : wat4 (zd.drop 8) 16 = qd at *
  have HQS := hide hqs
  have HQD := hide hqd
  clear hqs hqd
  generalize hl7 : (((zd.drop 8).take (hl4 (zd.drop 8)).toNat).drop 20).length = l7 at *
  have HL7 := hide hl7
  clear hl7
  clear hO3
  rw [show ((zd.drop 8).take (ral true (zd.drop 8)).toNat).drop (hl4 (zd.drop 8)).toNat = qdt (zd.drop 8) from rfl] at hD3 hc8 ⊢
  generalize hdq : qdt (zd.drop 8) = dq at *
  have HDQ := hide hdq
  clear hdq
  have la3 : Later w3 (w3.alloc (.cells #[.int .u8 q1, .int .u16 q2, .bool q3, .int .u8 q4, .int .u8 pr, .int .u32 qs, .int .u32 qd, .slice b7 l7 c7, .slice b8 dq.length c8] 26)) := (Below.refl _ _).alloc (Nat.le_refl _) _
  have lb3 : Later (w3.alloc (.cells #[.int .u8 q1, .int .u16 q2, .bool q3, .int .u8 q4, .int .u8 pr, .int .u32 qs, .int .u32 qd, .slice b7 l7 c7, .slice b8 dq.length c8] 26)) ((w3.alloc (.cells #[.int .u8 q1, .int .u16 q2, .bool q3, .int .u8 q4, .int .u8 pr, .int .u32 qs, .int .u32 qd, .slice b7 l7 c7, .slice b8 dq.length c8] 26)).alloc (.cells #[.int .u8 pr, .int .u32 qs, .int .u32 qd, .int .u16 0, .int .u16 0] 29)) := (Below.refl _ _).alloc (Nat.le_refl _) _
  have lab := la3.trans lb3
  have l3 := Later.trans hb3 lab
  have qk := later_keep lb3 (heap_alloc_new w3 (.cells #[.int .u8 q1, .int .u16 q2, .bool q3, .int .u8 q4, .int .u8 pr, .int .u32 qs, .int .u32 qd, .slice b7 l7 c7, .slice b8 dq.length c8] 26))
  have tk := heap_alloc_new (w3.alloc (.cells #[.int .u8 q1, .int .u16 q2, .bool q3, .int .u8 q4, .int .u8 pr, .int .u32 qs, .int .u32 qd, .slice b7 l7 c7, .slice b8 dq.length c8] 26)) (.cells #[.int .u8 pr, .int .u32 qs, .int .u32 qd, .int .u16 0, .int .u16 0] 29)
  rw [World.size_alloc] at tk
  have r3 := later_keep l3 r2
  have s3 := later_keep l3 s2
  have hw3 := hw2.trans (l3.mono hw2.size)
  have D3 := hD3.ck (CK.of lab)
  have hgq : w.heap.size + 1 + 1 < w3.heap.size := Nat.lt_of_lt_of_le (Array.getElem?_eq_some_iff.1 s2).1 hb3.size
  clear D2 hD3
  have HLQ : Hid (8 ≤ dq.length) := h8
  have hq6 : (pr == 6) = false := by simp [hp]
  have hq17 : (pr == 17) = false := by simp [hp]
  have hq1 : (pr == 1) = true := by simp [hp]
  have hq47 : (pr == 47) = false := by simp [hp]
  have HP := hide hp
  clear hp
  have kq := block_cell qk
  go_upto_region 18 with fail
  generalize (w3.alloc (.cells #[.int .u8 q1, .int .u16 q2, .bool q3, .int .u8 q4, .int .u8 pr, .int .u32 qs, .int .u32 qd, .slice b7 l7 c7, .slice b8 dq.length c8] 26)).alloc (.cells #[.int .u8 pr, .int .u32 qs, .int .u32 qd, .int .u16 0, .int .u16 0] 29) = w4 at *
  generalize w3.heap.size = gq at *
  have h8q := HLQ.out
  have h8i : (8 : Int) ≤ dq.length := by omega
  obtain ⟨g8, rfl, _, _, hcs, _⟩ := D3.at (by omega)
  have kd0 := (hcs 0 (by omega)).1
  have kd1 := (hcs 1 (by omega)).1
  clear hcs
  have hec : ecb (dq[0]?.getD 0) (dq[1]?.getD 0) = false := HEC.out
  generalize dq[0]?.getD 0 = d0 at *
  generalize dq[1]?.getD 0 = d1 at *
  have rw4 := r3
  have sw4 := s3
  have hww4 := hw3
  by_cases h80 : d0 = 8 ∨ d0 = 0
  ·have h1 : (d1 != 0) = true := by
    unfold ecb at hec
    rcases h80 with rfl | rfl <;> simpa using hec
   clear hec HEC
   rcases h80 with rfl | rfl
   ·have rX := r3
    have sX := s3
    have hwX := hw3
    go_upto_region 19 with fail
    clear hq6 hq17 hq1 hq47 kq
    have kX := block_cell rX
    have fX := block_frozen rX
    have kS := block_cell sX
    have fS := block_frozen sX
    go_wp2_with fail
    generalize hV : (((((((((((((w4.setCell ⟨w.heap.size + 1, 0, none⟩ _).setCell ⟨w.heap.size + 1, 1, none⟩ _).setCell ⟨w.heap.size + 1, 2, none⟩ _).setCell ⟨w.heap.size + 1, 3, none⟩ _).setCell ⟨w.heap.size + 1, 4, none⟩ _).setCell ⟨w.heap.size + 1, 5, none⟩ _).setCell ⟨w.heap.size + 1, 6, none⟩ _).setCell ⟨w.heap.size + 1, 7, none⟩ _).setCell ⟨w.heap.size + 1, 8, none⟩ _).setCell ⟨w.heap.size + 1 + 1, 0, none⟩ _).setCell ⟨w.heap.size + 1 + 1, 1, none⟩ _).setCell ⟨w.heap.size + 1 + 1, 2, none⟩ _).setCell ⟨w.heap.size + 1 + 1, 3, none⟩ _).setCell ⟨w.heap.size + 1 + 1, 4, none⟩ _ = V
    have hV8 : V = putRow (putRow w4 (w.heap.size + 1) 0 [.int .u8 0, .int .u16 0, .bool false, .int .u8 0, .int .u8 0, .int .u32 0, .int .u32 0, .slice none 0 0, .slice none 0 0]) (w.heap.size + 1 + 1) 0 [.int .u8 0, .int .u32 0, .int .u32 0, .int .u16 0, .int .u16 0] := hV.symm
    have hbY : But (fun b => b = w.heap.size + 1) w4 (putRow w4 (w.heap.size + 1) 0 [.int .u8 0, .int .u16 0, .bool false, .int .u8 0, .int .u8 0, .int .u32 0, .int .u32 0, .slice none 0 0, .slice none 0 0]) := putRow_but (E := fun b => b = w.heap.size + 1) (n := w.heap.size + 1) rfl _ _ _ _ (But.refl _ _)
    have pY := putRow_all ([.int .u8 0, .int .u16 0, .bool false, .int .u8 0, .int .u8 0, .int .u32 0, .int .u32 0, .slice none 0 0, .slice none 0 0] : List Value) rX rfl
    have sY := (hbY.block (w.heap.size + 1 + 1) (Array.getElem?_eq_some_iff.1 sX).1 (by omega)).trans sX
    generalize putRow w4 (w.heap.size + 1) 0 [.int .u8 0, .int .u16 0, .bool false, .int .u8 0, .int .u8 0, .int .u32 0, .int .u32 0, .slice none 0 0, .slice none 0 0] = Y at *
    have hbV : But (fun b => b = w.heap.size + 1 + 1) Y V := by rw [hV8]; exact putRow_but (E := fun b => b = w.heap.size + 1 + 1) (n := w.heap.size + 1 + 1) rfl _ _ _ _ (But.refl _ _)
    have qV := putRow_all ([.int .u8 0, .int .u32 0, .int .u32 0, .int .u16 0, .int .u16 0] : List Value) sY rfl
    rw [← hV8] at qV
    have pV := (hbV.block (w.heap.size + 1) (Array.getElem?_eq_some_iff.1 pY).1 (by omega)).trans pY
    clear hV8 kX fX kS fS
    have PV := block_cell pV
    have QV := block_cell qV
    have hwV : Below w.heap.size w V := (hwX.trans (hbY.below hwX.size (fun k hk e => by omega))).trans (hbV.below (Nat.le_trans hwX.size hbY.size) (fun k hk e => by omega))
    exact bodyPost_ret (v := .tuple #[.agg #[.int .u8 0, .int .u16 0, .bool false, .int .u8 0, .int .u8 0, .int .u32 0, .int .u32 0, .slice none 0 0, .slice none 0 0], .agg #[.int .u8 0, .int .u32 0, .int .u32 0, .int .u16 0, .int .u16 0], .int .i64 12]) (by simp [results, Tryz.results20, go_sem, PV, QV]) rfl ⟨hwV, rin_no _ _ _ _ _ _ _ _ _ _ _ _ _ _ _ (by decide)⟩
   ·have rX := r3
    have sX := s3
    have hwX := hw3
    go_upto_region 19 with fail
    clear hq6 hq17 hq1 hq47 kq
    have kX := block_cell rX
    have fX := block_frozen rX
    have kS := block_cell sX
    have fS := block_frozen sX
    go_wp2_with fail
    generalize hV : (((((((((((((w4.setCell ⟨w.heap.size + 1, 0, none⟩ _).setCell ⟨w.heap.size + 1, 1, none⟩ _).setCell ⟨w.heap.size + 1, 2, none⟩ _).setCell ⟨w.heap.size + 1, 3, none⟩ _).setCell ⟨w.heap.size + 1, 4, none⟩ _).setCell ⟨w.heap.size + 1, 5, none⟩ _).setCell ⟨w.heap.size + 1, 6, none⟩ _).setCell ⟨w.heap.size + 1, 7, none⟩ _).setCell ⟨w.heap.size + 1, 8, none⟩ _).setCell ⟨w.heap.size + 1 + 1, 0, none⟩ _).setCell ⟨w.heap.size + 1 + 1, 1, none⟩ _).setCell ⟨w.heap.size + 1 + 1, 2, none⟩ _).setCell ⟨w.heap.size + 1 + 1, 3, none⟩ _).setCell ⟨w.heap.size + 1 + 1, 4, none⟩ _ = V
    have hV8 : V = putRow (putRow w4 (w.heap.size + 1) 0 [.int .u8 0, .int .u16 0, .bool false, .int .u8 0, .int .u8 0, .int .u32 0, .int .u32 0, .slice none 0 0, .slice none 0 0]) (w.heap.size + 1 + 1) 0 [.int .u8 0, .int .u32 0, .int .u32 0, .int .u16 0, .int .u16 0] := hV.symm
    have hbY : But (fun b => b = w.heap.size + 1) w4 (putRow w4 (w.heap.size + 1) 0 [.int .u8 0, .int .u16 0, .bool false, .int .u8 0, .int .u8 0, .int .u32 0, .int .u32 0, .slice none 0 0, .slice none 0 0]) := putRow_but (E := fun b => b = w.heap.size + 1) (n := w.heap.size + 1) rfl _ _ _ _ (But.refl _ _)
    have pY := putRow_all ([.int .u8 0, .int .u16 0, .bool false, .int .u8 0, .int .u8 0, .int .u32 0, .int .u32 0, .slice none 0 0, .slice none 0 0] : List Value) rX rfl
    have sY := (hbY.block (w.heap.size + 1 + 1) (Array.getElem?_eq_some_iff.1 sX).1 (by omega)).trans sX
    generalize putRow w4 (w.heap.size + 1) 0 [.int .u8 0, .int .u16 0, .bool false, .int .u8 0, .int .u8 0, .int .u32 0, .int .u32 0, .slice none 0 0, .slice none 0 0] = Y at *
    have hbV : But (fun b => b = w.heap.size + 1 + 1) Y V := by rw [hV8]; exact putRow_but (E := fun b => b = w.heap.size + 1 + 1) (n := w.heap.size + 1 + 1) rfl _ _ _ _ (But.refl _ _)
    have qV := putRow_all ([.int .u8 0, .int .u32 0, .int .u32 0, .int .u16 0, .int .u16 0] : List Value) sY rfl
    rw [← hV8] at qV
    have pV := (hbV.block (w.heap.size + 1) (Array.getElem?_eq_some_iff.1 pY).1 (by omega)).trans pY
    clear hV8 kX fX kS fS
    have PV := block_cell pV
    have QV := block_cell qV
    have hwV : Below w.heap.size w V := (hwX.trans (hbY.below hwX.size (fun k hk e => by omega))).trans (hbV.below (Nat.le_trans hwX.size hbY.size) (fun k hk e => by omega))
    exact bodyPost_ret (v := .tuple #[.agg #[.int .u8 0, .int .u16 0, .bool false, .int .u8 0, .int .u8 0, .int .u32 0, .int .u32 0, .slice none 0 0, .slice none 0 0], .agg #[.int .u8 0, .int .u32 0, .int .u32 0, .int .u16 0, .int .u16 0], .int .i64 12]) (by simp [results, Tryz.results20, go_sem, PV, QV]) rfl ⟨hwV, rin_no _ _ _ _ _ _ _ _ _ _ _ _ _ _ _ (by decide)⟩
  ·have h1 : (d0 != 8) = true := by simp; omega
   have h2 : (d0 != 0) = true := by simp; omega
   clear hec HEC h80
   have rX := r3
   have sX := s3
   have hwX := hw3
   go_upto_region 19 with fail
   clear hq6 hq17 hq1 hq47 kq
   have kX := block_cell rX
   have fX := block_frozen rX
   have kS := block_cell sX
   have fS := block_frozen sX
   go_wp2_with fail
   generalize hV : (((((((((((((w4.setCell ⟨w.heap.size + 1, 0, none⟩ _).setCell ⟨w.heap.size + 1, 1, none⟩ _).setCell ⟨w.heap.size + 1, 2, none⟩ _).setCell ⟨w.heap.size + 1, 3, none⟩ _).setCell ⟨w.heap.size + 1, 4, none⟩ _).setCell ⟨w.heap.size + 1, 5, none⟩ _).setCell ⟨w.heap.size + 1, 6, none⟩ _).setCell ⟨w.heap.size + 1, 7, none⟩ _).setCell ⟨w.heap.size + 1, 8, none⟩ _).setCell ⟨w.heap.size + 1 + 1, 0, none⟩ _).setCell ⟨w.heap.size + 1 + 1, 1, none⟩ _).setCell ⟨w.heap.size + 1 + 1, 2, none⟩ _).setCell ⟨w.heap.size + 1 + 1, 3, none⟩ _).setCell ⟨w.heap.size + 1 + 1, 4, none⟩ _ = V
   have hV8 : V = putRow (putRow w4 (w.heap.size + 1) 0 [.int .u8 0, .int .u16 0, .bool false, .int .u8 0, .int .u8 0, .int .u32 0, .int .u32 0, .slice none 0 0, .slice none 0 0]) (w.heap.size + 1 + 1) 0 [.int .u8 0, .int .u32 0, .int .u32 0, .int .u16 0, .int .u16 0] := hV.symm
   have hbY : But (fun b => b = w.heap.size + 1) w4 (putRow w4 (w.heap.size + 1) 0 [.int .u8 0, .int .u16 0, .bool false, .int .u8 0, .int .u8 0, .int .u32 0, .int .u32 0, .slice none 0 0, .slice none 0 0]) := putRow_but (E := fun b => b = w.heap.size + 1) (n := w.heap.size + 1) rfl _ _ _ _ (But.refl _ _)
   have pY := putRow_all ([.int .u8 0, .int .u16 0, .bool false, .int .u8 0, .int .u8 0, .int .u32 0, .int .u32 0, .slice none 0 0, .slice none 0 0] : List Value) rX rfl
   have sY := (hbY.block (w.heap.size + 1 + 1) (Array.getElem?_eq_some_iff.1 sX).1 (by omega)).trans sX
   generalize putRow w4 (w.heap.size + 1) 0 [.int .u8 0, .int .u16 0, .bool false, .int .u8 0, .int .u8 0, .int .u32 0, .int .u32 0, .slice none 0 0, .slice none 0 0] = Y at *
   have hbV : But (fun b => b = w.heap.size + 1 + 1) Y V := by rw [hV8]; exact putRow_but (E := fun b => b = w.heap.size + 1 + 1) (n := w.heap.size + 1 + 1) rfl _ _ _ _ (But.refl _ _)
   have qV := putRow_all ([.int .u8 0, .int .u32 0, .int .u32 0, .int .u16 0, .int .u16 0] : List Value) sY rfl
   rw [← hV8] at qV
   have pV := (hbV.block (w.heap.size + 1) (Array.getElem?_eq_some_iff.1 pY).1 (by omega)).trans pY
   clear hV8 kX fX kS fS
   have PV := block_cell pV
   have QV := block_cell qV
   have hwV : Below w.heap.size w V := (hwX.trans (hbY.below hwX.size (fun k hk e => by omega))).trans (hbV.below (Nat.le_trans hwX.size hbY.size) (fun k hk e => by omega))
   exact bodyPost_ret (v := .tuple #[.agg #[.int .u8 0, .int .u16 0, .bool false, .int .u8 0, .int .u8 0, .int .u32 0, .int .u32 0, .slice none 0 0, .slice none 0 0], .agg #[.int .u8 0, .int .u32 0, .int .u32 0, .int .u16 0, .int .u16 0], .int .i64 12]) (by simp [results, Tryz.results20, go_sem, PV, QV]) rfl ⟨hwV, rin_no _ _ _ _ _ _ _ _ _ _ _ _ _ _ _ (by decide)⟩

set_option maxHeartbeats 8000000 in
theorem rinner_gre (pr : Int) (tos id ttl src dst : Int) (keep : Bool) (so sd : Value) (zd : List Int) (w : World) (hB : Mt.By zd) (hI : Rd w.heap.size w sd zd) (hl : zd.length ≤ 1099511627776) (hpi : pie 1 zd = 0) (her : erb (zd[0]?.getD 0) = true) (hrd : rde true (zd.drop 8) = 0) (hpr : (zd.drop 8)[9]?.getD 0 = pr) (h8 : 8 ≤ (qdt (zd.drop 8)).length) (hld : (qdt (zd.drop 8)).length ≤ 140737488355328) (hp : pr = 47) : Calls Tryz.prog 20 #[.agg #[.int .u8 tos, .int .u16 id, .bool keep, .int .u8 ttl, .int .u8 1, .int .u32 src, .int .u32 dst, so, sd]] w fun e w' => Below w.heap.size w w' ∧ ((rin zd (.agg #[.int .u8 pr, .int .u32 (wat4 (zd.drop 8) 12), .int .u32 (wat4 (zd.drop 8) 16), .int .u16 (0), .int .u16 (getAt2 (qdt (zd.drop 8)) 6)]) 0 e ∧ bgz (qdt (zd.drop 8)) ≠ 4) ∨ (rin zd (.agg #[.int .u8 0, .int .u32 0, .int .u32 0, .int .u16 0, .int .u16 0]) 4 e ∧ bgz (qdt (zd.drop 8)) = 4)) := by
 obtain ⟨ad, cd, rfl, _, _⟩ := hI.slice
 have hb0 : Below w.heap.size w (((w.alloc (.cells #[.int .u8 tos, .int .u16 id, .bool keep, .int .u8 ttl, .int .u8 1, .int .u32 src, .int .u32 dst, so, .slice ad zd.length cd] 26)).alloc (.cells #[.int .u8 0, .int .u16 0, .bool false, .int .u8 0, .int .u8 0, .int .u32 0, .int .u32 0, .slice none 0 0, .slice none 0 0] 26)).alloc (.cells #[.int .u8 0, .int .u32 0, .int .u32 0, .int .u16 0, .int .u16 0] 29)) := ((((Below.refl _ _).alloc (Nat.le_refl _) _).alloc (by simp) _).alloc (by simp <;> omega) _)
 have r0 : (((w.alloc (.cells #[.int .u8 tos, .int .u16 id, .bool keep, .int .u8 ttl, .int .u8 1, .int .u32 src, .int .u32 dst, so, .slice ad zd.length cd] 26)).alloc (.cells #[.int .u8 0, .int .u16 0, .bool false, .int .u8 0, .int .u8 0, .int .u32 0, .int .u32 0, .slice none 0 0, .slice none 0 0] 26)).alloc (.cells #[.int .u8 0, .int .u32 0, .int .u32 0, .int .u16 0, .int .u16 0] 29)).heap[w.heap.size + 1]? = some (.cells #[.int .u8 0, .int .u16 0, .bool false, .int .u8 0, .int .u8 0, .int .u32 0, .int .u32 0, .slice none 0 0, .slice none 0 0] 26) := by
  have := heap_alloc_new (w.alloc (.cells #[.int .u8 tos, .int .u16 id, .bool keep, .int .u8 ttl, .int .u8 1, .int .u32 src, .int .u32 dst, so, .slice ad zd.length cd] 26)) (.cells #[.int .u8 0, .int .u16 0, .bool false, .int .u8 0, .int .u8 0, .int .u32 0, .int .u32 0, .slice none 0 0, .slice none 0 0] 26)
  rw [World.size_alloc] at this
  exact (Below.heap_alloc _ _ _ (by simp)).trans this
 have s0 : (((w.alloc (.cells #[.int .u8 tos, .int .u16 id, .bool keep, .int .u8 ttl, .int .u8 1, .int .u32 src, .int .u32 dst, so, .slice ad zd.length cd] 26)).alloc (.cells #[.int .u8 0, .int .u16 0, .bool false, .int .u8 0, .int .u8 0, .int .u32 0, .int .u32 0, .slice none 0 0, .slice none 0 0] 26)).alloc (.cells #[.int .u8 0, .int .u32 0, .int .u32 0, .int .u16 0, .int .u16 0] 29)).heap[w.heap.size + 1 + 1]? = some (.cells #[.int .u8 0, .int .u32 0, .int .u32 0, .int .u16 0, .int .u16 0] 29) := by
  have := heap_alloc_new ((w.alloc (.cells #[.int .u8 tos, .int .u16 id, .bool keep, .int .u8 ttl, .int .u8 1, .int .u32 src, .int .u32 dst, so, .slice ad zd.length cd] 26)).alloc (.cells #[.int .u8 0, .int .u16 0, .bool false, .int .u8 0, .int .u8 0, .int .u32 0, .int .u32 0, .slice none 0 0, .slice none 0 0] 26)) (.cells #[.int .u8 0, .int .u32 0, .int .u32 0, .int .u16 0, .int .u16 0] 29)
  simpa only [World.size_alloc] using this
 have R0 := hide r0
 have S0 := hide s0
 clear r0 s0
 go_enter Tryz.func20, Tryz.ntmps20
 go_wp2_with fail
 generalize (((w.alloc (.cells #[.int .u8 tos, .int .u16 id, .bool keep, .int .u8 ttl, .int .u8 1, .int .u32 src, .int .u32 dst, so, .slice ad zd.length cd] 26)).alloc (.cells #[.int .u8 0, .int .u16 0, .bool false, .int .u8 0, .int .u8 0, .int .u32 0, .int .u32 0, .slice none 0 0, .slice none 0 0] 26)).alloc (.cells #[.int .u8 0, .int .u32 0, .int .u32 0, .int .u16 0, .int .u16 0] 29)) = w0 at *
 refine (rparseIcmp_any tos id ttl 1 src dst keep _ _ zd w0 hB ((hI.below hb0).mono hb0.size) hl).mono ?_
 rintro e w1 ⟨hb1, ⟨hf, rfl⟩ | ⟨hf, a1, c1, rfl, hO⟩⟩
 ·exact absurd hpi hf
 ·clear hf
  have la : Later w1 (w1.alloc (.cells #[.int .u8 (zd[0]?.getD 0), .int .u8 (zd[1]?.getD 0), .int .u32 (wat4 zd 4), .slice a1 (zd.length - 8) c1] 42)) := (Below.refl _ _).alloc (Nat.le_refl _) _
  have l1 := Later.trans hb1 la
  have mW := heap_alloc_new w1 (.cells #[.int .u8 (zd[0]?.getD 0), .int .u8 (zd[1]?.getD 0), .int .u32 (wat4 zd 4), .slice a1 (zd.length - 8) c1] 42)
  have rW := later_keep l1 R0.out
  have sW := later_keep l1 S0.out
  have hwW := hb0.trans (l1.mono hb0.size)
  have DW := hO.ck (CK.of la)
  go_wp2_with fail
  generalize w1.alloc (.cells #[.int .u8 (zd[0]?.getD 0), .int .u8 (zd[1]?.getD 0), .int .u32 (wat4 zd 4), .slice a1 (zd.length - 8) c1] 42) = W at *
  generalize w1.heap.size = gm at *
  refine (risError_any (zd[0]?.getD 0) (zd[1]?.getD 0) (wat4 zd 4) _ W).mono ?_
  rw [show (zd[0]?.getD 0 == 3 || (zd[0]?.getD 0 == 11 || zd[0]?.getD 0 == 12)) = true from her]
  rintro e w2 ⟨rfl, hb2⟩
  have l2 : Later W w2 := hb2
  have r2 := later_keep l2 rW
  have s2 := later_keep l2 sW
  have hw2 := hwW.trans (hb2.mono hwW.size)
  have km := block_cell (later_keep l2 mW)
  have D2 := DW.ck (CK.of l2)
  go_wp2_with fail
  clear km
  refine (rquote_any _ (zd.drop 8) w2 (hB.drop 8) (by simp; omega) D2.rd).mono ?_
  rintro e w3 ⟨hb3, ⟨hf3, _⟩ | ⟨_, qo, qs0, rfl, hO3, hD3⟩⟩
  ·exact absurd hrd hf3
  obtain ⟨b7, c7, rfl, _, _⟩ := hO3.slice
  obtain ⟨b8, c8, rfl, hc8, hc9⟩ := hD3.slice
  have hBq := By_qdt (hB.drop 8)
  unfold pkt
  have HPR := hide hpr
  rw [hpr]
  clear hpr hpi her hrd
  generalize (zd.drop 8)[1]?.getD 0 = q1 at *
  generalize wat (zd.drop 8) 4 = q2 at *
  generalize decide (16384 ≤ wat (zd.drop 8) 6 % 32768) = q3 at *
  generalize (zd.drop 8)[8]?.getD 0 = q4 at *
  generalize hqs : wat4 (zd.drop 8) 12 = qs at *
  generalize hqd : wat4 (zd.drop 8) 16 = qd at *
  have HQS := hide hqs
  have HQD := hide hqd
  clear hqs hqd
  generalize hl7 : (((zd.drop 8).take (hl4 (zd.drop 8)).toNat).drop 20).length = l7 at *
  have HL7 := hide hl7
  clear hl7
  clear hO3
  rw [show ((zd.drop 8).take (ral true (zd.drop 8)).toNat).drop (hl4 (zd.drop 8)).toNat = qdt (zd.drop 8) from rfl] at hD3 hc8 ⊢
  generalize hdq : qdt (zd.drop 8) = dq at *
  have HDQ := hide hdq
  clear hdq
  have la3 : Later w3 (w3.alloc (.cells #[.int .u8 q1, .int .u16 q2, .bool q3, .int .u8 q4, .int .u8 pr, .int .u32 qs, .int .u32 qd, .slice b7 l7 c7, .slice b8 dq.length c8] 26)) := (Below.refl _ _).alloc (Nat.le_refl _) _
  have lb3 : Later (w3.alloc (.cells #[.int .u8 q1, .int .u16 q2, .bool q3, .int .u8 q4, .int .u8 pr, .int .u32 qs, .int .u32 qd, .slice b7 l7 c7, .slice b8 dq.length c8] 26)) ((w3.alloc (.cells #[.int .u8 q1, .int .u16 q2, .bool q3, .int .u8 q4, .int .u8 pr, .int .u32 qs, .int .u32 qd, .slice b7 l7 c7, .slice b8 dq.length c8] 26)).alloc (.cells #[.int .u8 pr, .int .u32 qs, .int .u32 qd, .int .u16 0, .int .u16 0] 29)) := (Below.refl _ _).alloc (Nat.le_refl _) _
  have lab := la3.trans lb3
  have l3 := Later.trans hb3 lab
  have qk := later_keep lb3 (heap_alloc_new w3 (.cells #[.int .u8 q1, .int .u16 q2, .bool q3, .int .u8 q4, .int .u8 pr, .int .u32 qs, .int .u32 qd, .slice b7 l7 c7, .slice b8 dq.length c8] 26))
  have tk := heap_alloc_new (w3.alloc (.cells #[.int .u8 q1, .int .u16 q2, .bool q3, .int .u8 q4, .int .u8 pr, .int .u32 qs, .int .u32 qd, .slice b7 l7 c7, .slice b8 dq.length c8] 26)) (.cells #[.int .u8 pr, .int .u32 qs, .int .u32 qd, .int .u16 0, .int .u16 0] 29)
  rw [World.size_alloc] at tk
  have r3 := later_keep l3 r2
  have s3 := later_keep l3 s2
  have hw3 := hw2.trans (l3.mono hw2.size)
  have D3 := hD3.ck (CK.of lab)
  have hgq : w.heap.size + 1 + 1 < w3.heap.size := Nat.lt_of_lt_of_le (Array.getElem?_eq_some_iff.1 s2).1 hb3.size
  clear D2 hD3
  have HLQ : Hid (8 ≤ dq.length) := h8
  have hq6 : (pr == 6) = false := by simp [hp]
  have hq17 : (pr == 17) = false := by simp [hp]
  have hq1 : (pr == 1) = false := by simp [hp]
  have hq47 : (pr == 47) = true := by simp [hp]
  have HP := hide hp
  clear hp
  have kq := block_cell qk
  go_upto_region 23 with fail
  generalize (w3.alloc (.cells #[.int .u8 q1, .int .u16 q2, .bool q3, .int .u8 q4, .int .u8 pr, .int .u32 qs, .int .u32 qd, .slice b7 l7 c7, .slice b8 dq.length c8] 26)).alloc (.cells #[.int .u8 pr, .int .u32 qs, .int .u32 qd, .int .u16 0, .int .u16 0] 29) = w4 at *
  generalize w3.heap.size = gq at *
  clear hq6 hq17 hq1 hq47 kq
  have h8q := HLQ.out
  have kq := block_cell qk
  go_wp2_with fail
  clear kq
  refine (rbegin_any _ dq (by omega) w4 D3.rd).mono ?_
  have HBK : Hid (bgk (bgz dq) = (bgz dq != 4)) := rfl
  generalize hbk : bgk (bgz dq) = bk at *
  clear hbk
  rintro e W5 ⟨rfl, hb5⟩
  have l5 : Later w4 W5 := hb5
  have tW5 := later_keep l5 tk
  have qW5 := later_keep l5 qk
  have rW5 := later_keep l5 r3
  have sW5 := later_keep l5 s3
  have D5 := D3.ck (CK.of l5)
  have hwW5 := hw3.trans (l5.mono hw3.size)
  cases bk with
  | false =>
   have hb4 : bgz dq = 4 := by simpa using HBK.out
   have HB4 := hide hb4
   clear hb4
   have rX := rW5
   have sX := sW5
   have hwX := hwW5
   have kX := block_cell rX
   have fX := block_frozen rX
   have kS := block_cell sX
   have fS := block_frozen sX
   go_wp2_with fail
   generalize hV : (((((((((((((W5.setCell ⟨w.heap.size + 1, 0, none⟩ _).setCell ⟨w.heap.size + 1, 1, none⟩ _).setCell ⟨w.heap.size + 1, 2, none⟩ _).setCell ⟨w.heap.size + 1, 3, none⟩ _).setCell ⟨w.heap.size + 1, 4, none⟩ _).setCell ⟨w.heap.size + 1, 5, none⟩ _).setCell ⟨w.heap.size + 1, 6, none⟩ _).setCell ⟨w.heap.size + 1, 7, none⟩ _).setCell ⟨w.heap.size + 1, 8, none⟩ _).setCell ⟨w.heap.size + 1 + 1, 0, none⟩ _).setCell ⟨w.heap.size + 1 + 1, 1, none⟩ _).setCell ⟨w.heap.size + 1 + 1, 2, none⟩ _).setCell ⟨w.heap.size + 1 + 1, 3, none⟩ _).setCell ⟨w.heap.size + 1 + 1, 4, none⟩ _ = V
   have hV8 : V = putRow (putRow W5 (w.heap.size + 1) 0 [.int .u8 0, .int .u16 0, .bool false, .int .u8 0, .int .u8 0, .int .u32 0, .int .u32 0, .slice none 0 0, .slice none 0 0]) (w.heap.size + 1 + 1) 0 [.int .u8 0, .int .u32 0, .int .u32 0, .int .u16 0, .int .u16 0] := hV.symm
   have hbY : But (fun b => b = w.heap.size + 1) W5 (putRow W5 (w.heap.size + 1) 0 [.int .u8 0, .int .u16 0, .bool false, .int .u8 0, .int .u8 0, .int .u32 0, .int .u32 0, .slice none 0 0, .slice none 0 0]) := putRow_but (E := fun b => b = w.heap.size + 1) (n := w.heap.size + 1) rfl _ _ _ _ (But.refl _ _)
   have pY := putRow_all ([.int .u8 0, .int .u16 0, .bool false, .int .u8 0, .int .u8 0, .int .u32 0, .int .u32 0, .slice none 0 0, .slice none 0 0] : List Value) rX rfl
   have sY := (hbY.block (w.heap.size + 1 + 1) (Array.getElem?_eq_some_iff.1 sX).1 (by omega)).trans sX
   generalize putRow W5 (w.heap.size + 1) 0 [.int .u8 0, .int .u16 0, .bool false, .int .u8 0, .int .u8 0, .int .u32 0, .int .u32 0, .slice none 0 0, .slice none 0 0] = Y at *
   have hbV : But (fun b => b = w.heap.size + 1 + 1) Y V := by rw [hV8]; exact putRow_but (E := fun b => b = w.heap.size + 1 + 1) (n := w.heap.size + 1 + 1) rfl _ _ _ _ (But.refl _ _)
   have qV := putRow_all ([.int .u8 0, .int .u32 0, .int .u32 0, .int .u16 0, .int .u16 0] : List Value) sY rfl
   rw [← hV8] at qV
   have pV := (hbV.block (w.heap.size + 1) (Array.getElem?_eq_some_iff.1 pY).1 (by omega)).trans pY
   clear hV8 kX fX kS fS
   have PV := block_cell pV
   have QV := block_cell qV
   have hwV : Below w.heap.size w V := (hwX.trans (hbY.below hwX.size (fun k hk e => by omega))).trans (hbV.below (Nat.le_trans hwX.size hbY.size) (fun k hk e => by omega))
   exact bodyPost_ret (v := .tuple #[.agg #[.int .u8 0, .int .u16 0, .bool false, .int .u8 0, .int .u8 0, .int .u32 0, .int .u32 0, .slice none 0 0, .slice none 0 0], .agg #[.int .u8 0, .int .u32 0, .int .u32 0, .int .u16 0, .int .u16 0], .int .i64 4]) (by simp [results, Tryz.results20, go_sem, PV, QV]) rfl ⟨hwV, .inr ⟨rin_no _ _ _ _ _ _ _ _ _ _ _ _ _ _ _ (by decide), by rw [HDQ.out]; exact HB4.out⟩⟩
  | true =>
   have hb4 : bgz dq ≠ 4 := by simpa using HBK.out
   have HB4 := hide hb4
   clear hb4
   have kq := block_cell qW5
   go_wp2_with fail
   clear kq
   refine (rget16_at _ dq hBq 6 (by omega) hld W5 D5.rd).mono ?_
   rintro e W6 ⟨rfl, n6, e6⟩
   have l6 : Later W5 W6 := by rw [e6]; exact below_draw (Later.refl W5) n6
   clear e6
   have t6 := later_keep l6 tW5
   generalize hg6 : getAt2 dq 6 = g6 at *
   have HG6 := hide hg6
   clear hg6
   have kx := block_cell t6
   have fx := block_frozen t6
   go_upto_region 26 with fail
   generalize hV : W6.setCell ⟨gq + 1, 4, none⟩ _ = V8
   have tN := heap_set1 t6 4 (.int .u16 g6)
   rw [hV] at tN
   have hbV8 : But (fun b => b = gq + 1) W6 V8 := by rw [← hV]; exact (But.refl (fun b => b = gq + 1) _).setCell (p := ⟨gq + 1, 4, none⟩) rfl _
   clear hV kx fx
   simp only [List.setIfInBounds_toArray, List.set_cons_zero, List.set_cons_succ] at tN
   have hbN : But (fun b => b = gq + 1) w4 V8 := (But.of (l5.trans l6)).trans hbV8
   have qN := (hbN.block gq (Array.getElem?_eq_some_iff.1 qk).1 (by omega)).trans qk
   have rN := (hbN.block (w.heap.size + 1) (Array.getElem?_eq_some_iff.1 r3).1 (by omega)).trans r3
   have sN := (hbN.block (w.heap.size + 1 + 1) (Array.getElem?_eq_some_iff.1 s3).1 (by omega)).trans s3
   have hwN : Below w.heap.size w V8 := hw3.trans (hbN.below hw3.size (fun k hk e => by omega))
   refine anyT_begin (R := But (fun b => b = w.heap.size + 1 ∨ b = w.heap.size + 1 + 1)) 5 rfl (by kernel_rfl) ?_
   have ld : Later V8 V8.drew := Later.drew V8
   have qd0 := later_keep ld qN
   have td0 := later_keep ld tN
   have rd0 := later_keep ld rN
   have sd0 := later_keep ld sN
   have hwd := hwN.trans (ld.mono hwN.size)
   generalize V8.drew = Wd at *
   have ha : ∀ v1, But (fun b => b = w.heap.size + 1 ∨ b = w.heap.size + 1 + 1) Wd v1 → ∀ i, v1.cell? ⟨gq, i, none⟩ = #[Value.int .u8 q1, .int .u16 q2, .bool q3, .int .u8 q4, .int .u8 pr, .int .u32 qs, .int .u32 qd, .slice b7 l7 c7, .slice b8 dq.length c8][i]? := fun v1 h => block_cell ((h.block gq (Array.getElem?_eq_some_iff.1 qd0).1 (by omega)).trans qd0)
   have hb : ∀ v1, But (fun b => b = w.heap.size + 1 ∨ b = w.heap.size + 1 + 1) Wd v1 → ∀ i, v1.cell? ⟨gq + 1, i, none⟩ = #[Value.int .u8 pr, .int .u32 qs, .int .u32 qd, .int .u16 0, .int .u16 g6][i]? := fun v1 h => block_cell ((h.block (gq + 1) (Array.getElem?_eq_some_iff.1 td0).1 (by omega)).trans td0)
   refine anyT_val (But.pre _) 0 rfl (by kernel_rfl) (by kernel_rfl) (by kernel_rfl) (fun _ _ _ _ h => h) rfl ?_; apply Exists.intro; refine ⟨fun v1 hv1 => ?_, ?_⟩; (· (go_simp; rfl)); simp only [Act.put, sA, sB, sC]
   refine anyT_val (But.pre _) 1 rfl (by kernel_rfl) (by kernel_rfl) (by kernel_rfl) (fun _ _ _ _ h => h) rfl ?_; apply Exists.intro; refine ⟨fun v1 hv1 => ?_, ?_⟩; (· (go_simp; rfl)); simp only [Act.put, sA, sB, sC]
   clear ha hb
   have kx := block_cell rd0
   have fx := block_frozen rd0
   refine anyT_one 2 rfl (by kernel_rfl) rfl ?_
   unfold Oper.wp
   go_simp
   generalize hV1 : ((((((((Wd.setCell ⟨w.heap.size + 1, 0, none⟩ _).setCell ⟨w.heap.size + 1, 1, none⟩ _).setCell ⟨w.heap.size + 1, 2, none⟩ _).setCell ⟨w.heap.size + 1, 3, none⟩ _).setCell ⟨w.heap.size + 1, 4, none⟩ _).setCell ⟨w.heap.size + 1, 5, none⟩ _).setCell ⟨w.heap.size + 1, 6, none⟩ _).setCell ⟨w.heap.size + 1, 7, none⟩ _).setCell ⟨w.heap.size + 1, 8, none⟩ _ = Y0
   have hV9 : Y0 = putRow Wd (w.heap.size + 1) 0 [.int .u8 q1, .int .u16 q2, .bool q3, .int .u8 q4, .int .u8 pr, .int .u32 qs, .int .u32 qd, .slice b7 l7 c7, .slice b8 dq.length c8] := hV1.symm
   have hbY0 : But (fun b => b = w.heap.size + 1) Wd Y0 := by rw [hV9]; exact putRow_but (E := fun b => b = w.heap.size + 1) (n := w.heap.size + 1) rfl _ _ _ _ (But.refl _ _)
   have hbY1 : But (fun b => b = w.heap.size + 1 ∨ b = w.heap.size + 1 + 1) Wd Y0 := by rw [hV9]; exact putRow_but (E := fun b => b = w.heap.size + 1 ∨ b = w.heap.size + 1 + 1) (n := w.heap.size + 1) (.inl rfl) _ _ _ _ (But.refl _ _)
   have pY0 := putRow_all ([.int .u8 q1, .int .u16 q2, .bool q3, .int .u8 q4, .int .u8 pr, .int .u32 qs, .int .u32 qd, .slice b7 l7 c7, .slice b8 dq.length c8] : List Value) rd0 rfl
   rw [← hV9] at pY0
   have sY0 := (hbY0.block (w.heap.size + 1 + 1) (Array.getElem?_eq_some_iff.1 sd0).1 (by omega)).trans sd0
   refine ⟨hbY1, ?_⟩
   clear hV1 hV9 kx fx
   have kx := block_cell sY0
   have fx := block_frozen sY0
   refine anyT_one 3 rfl (by kernel_rfl) rfl ?_
   unfold Oper.wp
   go_simp
   generalize hV2 : ((((Y0.setCell ⟨w.heap.size + 1 + 1, 0, none⟩ _).setCell ⟨w.heap.size + 1 + 1, 1, none⟩ _).setCell ⟨w.heap.size + 1 + 1, 2, none⟩ _).setCell ⟨w.heap.size + 1 + 1, 3, none⟩ _).setCell ⟨w.heap.size + 1 + 1, 4, none⟩ _ = V
   have hV8 : V = putRow Y0 (w.heap.size + 1 + 1) 0 [.int .u8 pr, .int .u32 qs, .int .u32 qd, .int .u16 0, .int .u16 g6] := hV2.symm
   have hbV : But (fun b => b = w.heap.size + 1 + 1) Y0 V := by rw [hV8]; exact putRow_but (E := fun b => b = w.heap.size + 1 + 1) (n := w.heap.size + 1 + 1) rfl _ _ _ _ (But.refl _ _)
   have hbV1 : But (fun b => b = w.heap.size + 1 ∨ b = w.heap.size + 1 + 1) Y0 V := by rw [hV8]; exact putRow_but (E := fun b => b = w.heap.size + 1 ∨ b = w.heap.size + 1 + 1) (n := w.heap.size + 1 + 1) (.inr rfl) _ _ _ _ (But.refl _ _)
   have qV := putRow_all ([.int .u8 pr, .int .u32 qs, .int .u32 qd, .int .u16 0, .int .u16 g6] : List Value) sY0 rfl
   rw [← hV8] at qV
   have pV := (hbV.block (w.heap.size + 1) (Array.getElem?_eq_some_iff.1 pY0).1 (by omega)).trans pY0
   refine ⟨hbV1, ?_⟩
   clear hV2 hV8 kx fx
   refine anyT_one 4 rfl (by kernel_rfl) rfl ?_
   unfold Oper.wp
   go_simp
   refine ⟨But.refl _ _, ?_⟩
   refine anyT_done (by kernel_rfl) ?_
   have PV := block_cell pV
   have QV := block_cell qV
   have hwV : Below w.heap.size w V := (hwd.trans (hbY0.below hwd.size (fun k hk e => by omega))).trans (hbV.below (Nat.le_trans hwd.size hbY0.size) (fun k hk e => by omega))
   go_wp2_with fail
   exact bodyPost_ret (v := .tuple #[.agg #[.int .u8 q1, .int .u16 q2, .bool q3, .int .u8 q4, .int .u8 pr, .int .u32 qs, .int .u32 qd, .slice b7 l7 c7, .slice b8 dq.length c8], .agg #[.int .u8 pr, .int .u32 qs, .int .u32 qd, .int .u16 0, .int .u16 g6], .int .i64 0]) (by simp [results, Tryz.results20, go_sem, PV, QV]) rfl ⟨hwV, .inl ⟨by rw [HDQ.out, HG6.out, HQS.out, HQD.out]; exact rin_yes _ _ _ _ _ _ _ _ _ _ _ _ _ _ _ ⟨HPR.out.symm, HL7.out.symm, by rw [HDQ.out]⟩, by rw [HDQ.out]; exact HB4.out⟩⟩

set_option maxHeartbeats 8000000 in
theorem rinner_other (pr : Int) (tos id ttl src dst : Int) (keep : Bool) (so sd : Value) (zd : List Int) (w : World) (hB : Mt.By zd) (hI : Rd w.heap.size w sd zd) (hl : zd.length ≤ 1099511627776) (hpi : pie 1 zd = 0) (her : erb (zd[0]?.getD 0) = true) (hrd : rde true (zd.drop 8) = 0) (hpr : (zd.drop 8)[9]?.getD 0 = pr) (h8 : 8 ≤ (qdt (zd.drop 8)).length) (hld : (qdt (zd.drop 8)).length ≤ 140737488355328) (hp : pr ≠ 6 ∧ pr ≠ 17 ∧ pr ≠ 1 ∧ pr ≠ 47) : Calls Tryz.prog 20 #[.agg #[.int .u8 tos, .int .u16 id, .bool keep, .int .u8 ttl, .int .u8 1, .int .u32 src, .int .u32 dst, so, sd]] w fun e w' => Below w.heap.size w w' ∧ rin zd (.agg #[.int .u8 0, .int .u32 0, .int .u32 0, .int .u16 0, .int .u16 0]) 12 e := by
 obtain ⟨ad, cd, rfl, _, _⟩ := hI.slice
 have hb0 : Below w.heap.size w (((w.alloc (.cells #[.int .u8 tos, .int .u16 id, .bool keep, .int .u8 ttl, .int .u8 1, .int .u32 src, .int .u32 dst, so, .slice ad zd.length cd] 26)).alloc (.cells #[.int .u8 0, .int .u16 0, .bool false, .int .u8 0, .int .u8 0, .int .u32 0, .int .u32 0, .slice none 0 0, .slice none 0 0] 26)).alloc (.cells #[.int .u8 0, .int .u32 0, .int .u32 0, .int .u16 0, .int .u16 0] 29)) := ((((Below.refl _ _).alloc (Nat.le_refl _) _).alloc (by simp) _).alloc (by simp <;> omega) _)
 have r0 : (((w.alloc (.cells #[.int .u8 tos, .int .u16 id, .bool keep, .int .u8 ttl, .int .u8 1, .int .u32 src, .int .u32 dst, so, .slice ad zd.length cd] 26)).alloc (.cells #[.int .u8 0, .int .u16 0, .bool false, .int .u8 0, .int .u8 0, .int .u32 0, .int .u32 0, .slice none 0 0, .slice none 0 0] 26)).alloc (.cells #[.int .u8 0, .int .u32 0, .int .u32 0, .int .u16 0, .int .u16 0] 29)).heap[w.heap.size + 1]? = some (.cells #[.int .u8 0, .int .u16 0, .bool false, .int .u8 0, .int .u8 0, .int .u32 0, .int .u32 0, .slice none 0 0, .slice none 0 0] 26) := by
  have := heap_alloc_new (w.alloc (.cells #[.int .u8 tos, .int .u16 id, .bool keep, .int .u8 ttl, .int .u8 1, .int .u32 src, .int .u32 dst, so, .slice ad zd.length cd] 26)) (.cells #[.int .u8 0, .int .u16 0, .bool false, .int .u8 0, .int .u8 0, .int .u32 0, .int .u32 0, .slice none 0 0, .slice none 0 0] 26)
  rw [World.size_alloc] at this
  exact (Below.heap_alloc _ _ _ (by simp)).trans this
 have s0 : (((w.alloc (.cells #[.int .u8 tos, .int .u16 id, .bool keep, .int .u8 ttl, .int .u8 1, .int .u32 src, .int .u32 dst, so, .slice ad zd.length cd] 26)).alloc (.cells #[.int .u8 0, .int .u16 0, .bool false, .int .u8 0, .int .u8 0, .int .u32 0, .int .u32 0, .slice none 0 0, .slice none 0 0] 26)).alloc (.cells #[.int .u8 0, .int .u32 0, .int .u32 0, .int .u16 0, .int .u16 0] 29)).heap[w.heap.size + 1 + 1]? = some (.cells #[.int .u8 0, .int .u32 0, .int .u32 0, .int .u16 0, .int .u16 0] 29) := by
  have := heap_alloc_new ((w.alloc (.cells #[.int .u8 tos, .int .u16 id, .bool keep, .int .u8 ttl, .int .u8 1, .int .u32 src, .int .u32 dst, so, .slice ad zd.length cd] 26)).alloc (.cells #[.int .u8 0, .int .u16 0, .bool false, .int .u8 0, .int .u8 0, .int .u32 0, .int .u32 0, .slice none 0 0, .slice none 0 0] 26)) (.cells #[.int .u8 0, .int .u32 0, .int .u32 0, .int .u16 0, .int .u16 0] 29)
  simpa only [World.size_alloc] using this
 have R0 := hide r0
 have S0 := hide s0
 clear r0 s0
 go_enter Tryz.func20, Tryz.ntmps20
 go_wp2_with fail
 generalize (((w.alloc (.cells #[.int .u8 tos, .int .u16 id, .bool keep, .int .u8 ttl, .int .u8 1, .int .u32 src, .int .u32 dst, so, .slice ad zd.length cd] 26)).alloc (.cells #[.int .u8 0, .int .u16 0, .bool false, .int .u8 0, .int .u8 0, .int .u32 0, .int .u32 0, .slice none 0 0, .slice none 0 0] 26)).alloc (.cells #[.int .u8 0, .int .u32 0, .int .u32 0, .int .u16 0, .int .u16 0] 29)) = w0 at *
 refine (rparseIcmp_any tos id ttl 1 src dst keep _ _ zd w0 hB ((hI.below hb0).mono hb0.size) hl).mono ?_
 rintro e w1 ⟨hb1, ⟨hf, rfl⟩ | ⟨hf, a1, c1, rfl, hO⟩⟩
 ·exact absurd hpi hf
 ·clear hf
  have la : Later w1 (w1.alloc (.cells #[.int .u8 (zd[0]?.getD 0), .int .u8 (zd[1]?.getD 0), .int .u32 (wat4 zd 4), .slice a1 (zd.length - 8) c1] 42)) := (Below.refl _ _).alloc (Nat.le_refl _) _
  have l1 := Later.trans hb1 la
  have mW := heap_alloc_new w1 (.cells #[.int .u8 (zd[0]?.getD 0), .int .u8 (zd[1]?.getD 0), .int .u32 (wat4 zd 4), .slice a1 (zd.length - 8) c1] 42)
  have rW := later_keep l1 R0.out
  have sW := later_keep l1 S0.out
  have hwW := hb0.trans (l1.mono hb0.size)
  have DW := hO.ck (CK.of la)
  go_wp2_with fail
  generalize w1.alloc (.cells #[.int .u8 (zd[0]?.getD 0), .int .u8 (zd[1]?.getD 0), .int .u32 (wat4 zd 4), .slice a1 (zd.length - 8) c1] 42) = W at *
  generalize w1.heap.size = gm at *
  refine (risError_any (zd[0]?.getD 0) (zd[1]?.getD 0) (wat4 zd 4) _ W).mono ?_
  rw [show (zd[0]?.getD 0 == 3 || (zd[0]?.getD 0 == 11 || zd[0]?.getD 0 == 12)) = true from her]
  rintro e w2 ⟨rfl, hb2⟩
  have l2 : Later W w2 := hb2
  have r2 := later_keep l2 rW
  have s2 := later_keep l2 sW
  have hw2 := hwW.trans (hb2.mono hwW.size)
  have km := block_cell (later_keep l2 mW)
  have D2 := DW.ck (CK.of l2)
  go_wp2_with fail
  clear km
  refine (rquote_any _ (zd.drop 8) w2 (hB.drop 8) (by simp; omega) D2.rd).mono ?_
  rintro e w3 ⟨hb3, ⟨hf3, _⟩ | ⟨_, qo, qs0, rfl, hO3, hD3⟩⟩
  ·exact absurd hrd hf3
  obtain ⟨b7, c7, rfl, _, _⟩ := hO3.slice
  obtain ⟨b8, c8, rfl, hc8, hc9⟩ := hD3.slice
  have hBq := By_qdt (hB.drop 8)
  unfold pkt
  have HPR := hide hpr
  rw [hpr]
  clear hpr hpi her hrd
  generalize (zd.drop 8)[1]?.getD 0 = q1 at *
  generalize wat (zd.drop 8) 4 = q2 at *
  generalize decide (16384 ≤ wat (zd.drop 8) 6 % 32768) = q3 at *
  generalize (zd.drop 8)[8]?.getD 0 = q4 at *
  generalize hqs : wat4 (zd.drop 8) 12 = qs at *
  generalize hqd : wat4 (zd.drop 8) 16 = qd at *
  have HQS := hide hqs
  have HQD := hide hqd
  clear hqs hqd
  generalize hl7 : (((zd.drop 8).take (hl4 (zd.drop 8)).toNat).drop 20).length = l7 at *
  have HL7 := hide hl7
  clear hl7
  clear hO3
  rw [show ((zd.drop 8).take (ral true (zd.drop 8)).toNat).drop (hl4 (zd.drop 8)).toNat = qdt (zd.drop 8) from rfl] at hD3 hc8 ⊢
  generalize hdq : qdt (zd.drop 8) = dq at *
  have HDQ := hide hdq
  clear hdq
  have la3 : Later w3 (w3.alloc (.cells #[.int .u8 q1, .int .u16 q2, .bool q3, .int .u8 q4, .int .u8 pr, .int .u32 qs, .int .u32 qd, .slice b7 l7 c7, .slice b8 dq.length c8] 26)) := (Below.refl _ _).alloc (Nat.le_refl _) _
  have lb3 : Later (w3.alloc (.cells #[.int .u8 q1, .int .u16 q2, .bool q3, .int .u8 q4, .int .u8 pr, .int .u32 qs, .int .u32 qd, .slice b7 l7 c7, .slice b8 dq.length c8] 26)) ((w3.alloc (.cells #[.int .u8 q1, .int .u16 q2, .bool q3, .int .u8 q4, .int .u8 pr, .int .u32 qs, .int .u32 qd, .slice b7 l7 c7, .slice b8 dq.length c8] 26)).alloc (.cells #[.int .u8 pr, .int .u32 qs, .int .u32 qd, .int .u16 0, .int .u16 0] 29)) := (Below.refl _ _).alloc (Nat.le_refl _) _
  have lab := la3.trans lb3
  have l3 := Later.trans hb3 lab
  have qk := later_keep lb3 (heap_alloc_new w3 (.cells #[.int .u8 q1, .int .u16 q2, .bool q3, .int .u8 q4, .int .u8 pr, .int .u32 qs, .int .u32 qd, .slice b7 l7 c7, .slice b8 dq.length c8] 26))
  have tk := heap_alloc_new (w3.alloc (.cells #[.int .u8 q1, .int .u16 q2, .bool q3, .int .u8 q4, .int .u8 pr, .int .u32 qs, .int .u32 qd, .slice b7 l7 c7, .slice b8 dq.length c8] 26)) (.cells #[.int .u8 pr, .int .u32 qs, .int .u32 qd, .int .u16 0, .int .u16 0] 29)
  rw [World.size_alloc] at tk
  have r3 := later_keep l3 r2
  have s3 := later_keep l3 s2
  have hw3 := hw2.trans (l3.mono hw2.size)
  have D3 := hD3.ck (CK.of lab)
  have hgq : w.heap.size + 1 + 1 < w3.heap.size := Nat.lt_of_lt_of_le (Array.getElem?_eq_some_iff.1 s2).1 hb3.size
  clear D2 hD3
  have HLQ : Hid (8 ≤ dq.length) := h8
  have hq6 : (pr == 6) = false := by simp [hp]
  have hq17 : (pr == 17) = false := by simp [hp]
  have hq1 : (pr == 1) = false := by simp [hp]
  have hq47 : (pr == 47) = false := by simp [hp]
  have HP := hide hp
  clear hp
  have kq := block_cell qk
  go_upto_region 13 with fail
  generalize (w3.alloc (.cells #[.int .u8 q1, .int .u16 q2, .bool q3, .int .u8 q4, .int .u8 pr, .int .u32 qs, .int .u32 qd, .slice b7 l7 c7, .slice b8 dq.length c8] 26)).alloc (.cells #[.int .u8 pr, .int .u32 qs, .int .u32 qd, .int .u16 0, .int .u16 0] 29) = w4 at *
  generalize w3.heap.size = gq at *
  clear hq6 hq17 hq1 hq47 kq
  have rX := r3
  have sX := s3
  have hwX := hw3
  have kX := block_cell rX
  have fX := block_frozen rX
  have kS := block_cell sX
  have fS := block_frozen sX
  go_wp2_with fail
  generalize hV : (((((((((((((w4.setCell ⟨w.heap.size + 1, 0, none⟩ _).setCell ⟨w.heap.size + 1, 1, none⟩ _).setCell ⟨w.heap.size + 1, 2, none⟩ _).setCell ⟨w.heap.size + 1, 3, none⟩ _).setCell ⟨w.heap.size + 1, 4, none⟩ _).setCell ⟨w.heap.size + 1, 5, none⟩ _).setCell ⟨w.heap.size + 1, 6, none⟩ _).setCell ⟨w.heap.size + 1, 7, none⟩ _).setCell ⟨w.heap.size + 1, 8, none⟩ _).setCell ⟨w.heap.size + 1 + 1, 0, none⟩ _).setCell ⟨w.heap.size + 1 + 1, 1, none⟩ _).setCell ⟨w.heap.size + 1 + 1, 2, none⟩ _).setCell ⟨w.heap.size + 1 + 1, 3, none⟩ _).setCell ⟨w.heap.size + 1 + 1, 4, none⟩ _ = V
  have hV8 : V = putRow (putRow w4 (w.heap.size + 1) 0 [.int .u8 0, .int .u16 0, .bool false, .int .u8 0, .int .u8 0, .int .u32 0, .int .u32 0, .slice none 0 0, .slice none 0 0]) (w.heap.size + 1 + 1) 0 [.int .u8 0, .int .u32 0, .int .u32 0, .int .u16 0, .int .u16 0] := hV.symm
  have hbY : But (fun b => b = w.heap.size + 1) w4 (putRow w4 (w.heap.size + 1) 0 [.int .u8 0, .int .u16 0, .bool false, .int .u8 0, .int .u8 0, .int .u32 0, .int .u32 0, .slice none 0 0, .slice none 0 0]) := putRow_but (E := fun b => b = w.heap.size + 1) (n := w.heap.size + 1) rfl _ _ _ _ (But.refl _ _)
  have pY := putRow_all ([.int .u8 0, .int .u16 0, .bool false, .int .u8 0, .int .u8 0, .int .u32 0, .int .u32 0, .slice none 0 0, .slice none 0 0] : List Value) rX rfl
  have sY := (hbY.block (w.heap.size + 1 + 1) (Array.getElem?_eq_some_iff.1 sX).1 (by omega)).trans sX
  generalize putRow w4 (w.heap.size + 1) 0 [.int .u8 0, .int .u16 0, .bool false, .int .u8 0, .int .u8 0, .int .u32 0, .int .u32 0, .slice none 0 0, .slice none 0 0] = Y at *
  have hbV : But (fun b => b = w.heap.size + 1 + 1) Y V := by rw [hV8]; exact putRow_but (E := fun b => b = w.heap.size + 1 + 1) (n := w.heap.size + 1 + 1) rfl _ _ _ _ (But.refl _ _)
  have qV := putRow_all ([.int .u8 0, .int .u32 0, .int .u32 0, .int .u16 0, .int .u16 0] : List Value) sY rfl
  rw [← hV8] at qV
  have pV := (hbV.block (w.heap.size + 1) (Array.getElem?_eq_some_iff.1 pY).1 (by omega)).trans pY
  clear hV8 kX fX kS fS
  have PV := block_cell pV
  have QV := block_cell qV
  have hwV : Below w.heap.size w V := (hwX.trans (hbY.below hwX.size (fun k hk e => by omega))).trans (hbV.below (Nat.le_trans hwX.size hbY.size) (fun k hk e => by omega))
  exact bodyPost_ret (v := .tuple #[.agg #[.int .u8 0, .int .u16 0, .bool false, .int .u8 0, .int .u8 0, .int .u32 0, .int .u32 0, .slice none 0 0, .slice none 0 0], .agg #[.int .u8 0, .int .u32 0, .int .u32 0, .int .u16 0, .int .u16 0], .int .i64 12]) (by simp [results, Tryz.results20, go_sem, PV, QV]) rfl ⟨hwV, rin_no _ _ _ _ _ _ _ _ _ _ _ _ _ _ _ (by decide)⟩
end Go.Proofs.YtghpakfjpdifaaaGreatDoor

/- Layer 5: live. -/
namespace Go.Proofs.YtghpakfjpdifaaaGreatDoor
open Go.RowKit Go.Shelf
set_option maxRecDepth 100000
set_option linter.unusedVariables false
set_option linter.unusedSimpArgs false

def z5 : List Int := udp 3 4 false 1 2 []
end Go.Proofs.YtghpakfjpdifaaaGreatDoor

/- The document's Inner in one form, its Quoted; the walk of TupleQuoted. -/
namespace Go.Proofs.YtghpakfjpdifaaaGreatDoor
open Go.RowKit Go.Shelf
set_option maxRecDepth 100000
set_option linter.unusedVariables false
set_option linter.unusedSimpArgs false

theorem gat (d : List Int) (k : Nat) (p : Int) (hp : p = k) (h : k + 2 ≤ d.length) : getAt2 d p = wat d k := by
 subst hp
 unfold getAt2
 rw [if_pos (by omega), Int.toNat_natCast]
theorem begin_eq {d : List Int} (hB : Mt.By d) (h : 8 ≤ d.length) : pge 47 (d.take 8) = 4 ↔ bgz d = 4 := by
 have hl : (d.take 8).length = 8 := by simp; omega
 have hz : bgz (d.take 8) = bgz d := by unfold bgz; simp
 have hw := wat_bd (hB.take 8) 4
 have hg := ghd_bd (bgz d)
 unfold pge
 rw [if_neg (by decide), if_neg (by omega), hz]
 constructor
 ·intro h4
  by_cases e : bgz d = 4
  ·exact e
  ·rw [if_neg e] at h4
   by_cases e2 : ((d.take 8).length : Int) < ghd (bgz d) + wat (d.take 8) 4
   ·rw [if_pos e2] at h4; exact absurd h4 (by decide)
   ·rw [if_neg e2, if_neg (by omega)] at h4; exact absurd h4 (by decide)
 ·intro e
  rw [if_pos e]
set_option maxHeartbeats 2000000 in
theorem rinner_any (tos id ttl proto src dst : Int) (keep : Bool) (so sd : Value) (zd : List Int) (w : World) (hB : Mt.By zd) (hI : Rd w.heap.size w sd zd) (hl : zd.length ≤ 1099511627776) : Calls Tryz.prog 20 #[.agg #[.int .u8 tos, .int .u16 id, .bool keep, .int .u8 ttl, .int .u8 proto, .int .u32 src, .int .u32 dst, so, sd]] w fun e w' => Below w.heap.size w w' ∧ rin zd (quv proto zd) (que proto zd) e := by
 unfold quv
 by_cases hp : proto = 1
 ·subst hp
  by_cases hpi : pie 1 zd = 0
  ·cases her : erb (zd[0]?.getD 0) with
   | false =>
    have hq : que 1 zd = 12 := by unfold que; rw [if_neg (fun h => h hpi), if_pos her]
    rw [otv_no (by rw [hq]; decide)]
    exact rinner_bad tos id ttl src dst keep so sd zd w hB hI hl (.inr (.inl her))
   | true =>
    by_cases hrd : rde true (zd.drop 8) = 0
    ·have h8 := qdt_len (hB.drop 8) hrd
     have hBq := By_qdt (hB.drop 8)
     have hld : (qdt (zd.drop 8)).length ≤ 140737488355328 := by unfold qdt; simp only [List.length_drop, List.length_take]; omega
     have hq : que 1 zd = qie (qpr (zd.drop 8)) (qdt (zd.drop 8)) := by unfold que; rw [if_neg (fun h => h hpi), if_neg (by rw [her]; decide), if_neg (fun h => h hrd)]
     rw [hq]
     obtain ⟨pr, hpr⟩ : ∃ pr, (zd.drop 8)[9]?.getD 0 = pr := ⟨_, rfl⟩
     rw [show qpr (zd.drop 8) = pr from hpr]
     have g0 := gat (qdt (zd.drop 8)) 0 0 rfl (by omega)
     have g2 := gat (qdt (zd.drop 8)) 2 2 rfl (by omega)
     have g4 := gat (qdt (zd.drop 8)) 4 4 rfl (by omega)
     have g6 := gat (qdt (zd.drop 8)) 6 6 rfl (by omega)
     by_cases h6 : pr = 6
     ·have := rinner_tcp pr tos id ttl src dst keep so sd zd w hB hI hl hpi her hrd hpr h8 hld h6
      rw [g0, g2] at this
      subst h6
      exact this
     by_cases h17 : pr = 17
     ·have := rinner_udp pr tos id ttl src dst keep so sd zd w hB hI hl hpi her hrd hpr h8 hld h17
      rw [g0, g2] at this
      subst h17
      exact this
     by_cases h1 : pr = 1
     ·cases hec : ecb ((qdt (zd.drop 8))[0]?.getD 0) ((qdt (zd.drop 8))[1]?.getD 0) with
      | true =>
       have := rinner_icmp pr tos id ttl src dst keep so sd zd w hB hI hl hpi her hrd hpr h8 hld h1 hec
       rw [g4] at this
       subst h1
       rw [show qie 1 (qdt (zd.drop 8)) = 0 from if_pos hec]
       exact this
      | false =>
       have := rinner_noecho pr tos id ttl src dst keep so sd zd w hB hI hl hpi her hrd hpr h8 hld h1 hec
       subst h1
       rw [show qie 1 (qdt (zd.drop 8)) = (if ecb ((qdt (zd.drop 8))[0]?.getD 0) ((qdt (zd.drop 8))[1]?.getD 0) = true then 0 else 12) from rfl, if_neg (show ¬ ecb ((qdt (zd.drop 8))[0]?.getD 0) ((qdt (zd.drop 8))[1]?.getD 0) = true by rw [hec]; decide), otv_no (show (12 : Int) ≠ 0 by decide)]
       exact this
     by_cases h47 : pr = 47
     ·refine (rinner_gre pr tos id ttl src dst keep so sd zd w hB hI hl hpi her hrd hpr h8 hld h47).mono ?_
      subst h47
      rintro e w' ⟨hb, ⟨h, hb4⟩ | ⟨h, hb4⟩⟩
      ·rw [g6] at h
       rw [show qie 47 (qdt (zd.drop 8)) = 0 from if_neg (fun e => hb4 ((begin_eq hBq h8).1 e))]
       exact ⟨hb, h⟩
      ·rw [show qie 47 (qdt (zd.drop 8)) = 4 from if_pos ((begin_eq hBq h8).2 hb4), otv_no (show (4 : Int) ≠ 0 by decide)]
       exact ⟨hb, h⟩
     have hqi : qie pr (qdt (zd.drop 8)) = 12 := by unfold qie; rw [if_neg h6, if_neg h17, if_neg h1, if_neg h47]
     rw [hqi, otv_no (show (12 : Int) ≠ 0 by decide)]
     exact rinner_other pr tos id ttl src dst keep so sd zd w hB hI hl hpi her hrd hpr h8 hld ⟨h6, h17, h1, h47⟩
    ·have hq : que 1 zd = rde true (zd.drop 8) := by unfold que; rw [if_neg (fun h => h hpi), if_neg (by rw [her]; decide), if_pos hrd]
     rw [otv_no (by rw [hq]; exact hrd)]
     exact rinner_bad tos id ttl src dst keep so sd zd w hB hI hl (.inr (.inr hrd))
  ·have hq : que 1 zd = pie 1 zd := if_pos hpi
   rw [otv_no (by rw [hq]; exact hpi)]
   exact rinner_bad tos id ttl src dst keep so sd zd w hB hI hl (.inl hpi)
 ·have hpi : pie proto zd = 12 := if_pos hp
  have hq : que proto zd = 12 := by unfold que; rw [if_pos (by rw [hpi]; decide)]; exact hpi
  rw [hq, otv_no (show (12 : Int) ≠ 0 by decide)]
  exact rinner_kind proto tos id ttl src dst keep so sd zd w hB hI hl hp

end Go.Proofs.YtghpakfjpdifaaaGreatDoor

/- What the document does behind a quoted header. -/
namespace Go.Proofs.YtghpakfjpdifaaaGreatDoor
open Go.RowKit Go.Shelf
set_option maxRecDepth 100000
set_option linter.unusedVariables false
set_option linter.unusedSimpArgs false

theorem prt_at2 {zs : List Int} (a b : Int) (h : 8 ≤ zs.length) : putAt2 (putAt2 zs 0 a) 2 b = prt a b zs := by
 rw [putAt2_lit zs 0 0 a rfl (by omega), putAt2_lit _ 2 2 b rfl (by rw [Mt.put2_length]; omega)]
 rfl
theorem put2_comm24 (zs : List Int) (x y : Int) : Mt.put2 (Mt.put2 zs 4 x) 2 y = Mt.put2 (Mt.put2 zs 2 y) 4 x := by
 unfold Mt.put2
 rw [List.set_comm _ _ (show (4 + 1 : Nat) ≠ 2 by omega), List.set_comm _ _ (show (4 : Nat) ≠ 2 by omega), List.set_comm _ _ (show (4 + 1 : Nat) ≠ 2 + 1 by omega), List.set_comm _ _ (show (4 : Nat) ≠ 2 + 1 by omega)]
theorem getAt2_put4 (zs : List Int) (a : Int) : getAt2 (Mt.put2 zs 4 a) 2 = getAt2 zs 2 := by
 unfold getAt2
 rw [Mt.put2_length]
 split
 ·exact wat_put2_other _ _ _ _ (by omega)
 ·rfl
theorem qsI_eq (u : Un) {zs : List Int} (h : 8 ≤ zs.length) : qsI u zs = putAt2 (putAt2 zs 2 (ptv (getAt2 zs 2) u.a1 u.a)) 4 u.a := by
 unfold qsI
 rw [getAt2_put4, putAt2_lit _ 2 2 _ rfl (by rw [Mt.put2_length]; omega), putAt2_lit zs 2 2 _ rfl (by omega), putAt2_lit _ 4 4 _ rfl (by rw [Mt.put2_length]; omega), put2_comm24]
theorem getAt2_bd9 {zs : List Int} (hB : Mt.By zs) (p : Int) : 0 ≤ getAt2 zs p ∧ getAt2 zs p ≤ 65535 := by
 unfold getAt2
 split
 ·exact wat_bd hB _
 ·omega

set_option maxHeartbeats 8000000 in
theorem rin10_gre (pr s1 d1 a1 b1 s d a b : Int) (sv : Value) (zs : List Int) (w : World) (hB : Mt.By zs) (hI : Rd w.heap.size w sv zs) (hl : zs.length ≤ 140737488355328) (h8 : 8 ≤ zs.length) (hs1 : 0 ≤ s1 ∧ s1 ≤ 4294967295) (hd1 : 0 ≤ d1 ∧ d1 ≤ 4294967295) (ha1 : 0 ≤ a1 ∧ a1 ≤ 65535) (hb1 : 0 ≤ b1 ∧ b1 ≤ 65535) (hs : 0 ≤ s ∧ s ≤ 4294967295) (hd : 0 ≤ d ∧ d ≤ 4294967295) (ha : 0 ≤ a ∧ a ≤ 65535) (hb : 0 ≤ b ∧ b ≤ 65535) (hpr : pr ≠ 6 ∧ pr ≠ 17 ∧ pr ≠ 1) : Calls Tryz.prog 24 #[sv, .agg #[.int .u8 pr, .int .u32 s1, .int .u32 d1, .int .u16 a1, .int .u16 b1], .agg #[.int .u8 pr, .int .u32 s, .int .u32 d, .int .u16 a, .int .u16 b]] w fun e w' => ∃ r, e = .returned r ∧ Ow w.heap.size w' r (rwG b zs) ∧ Later w w' := by
 have HG : Hid (rwG b zs = putAt2 zs 6 b) := by show _ = _; unfold rwG; rw [putAt2_lit zs 6 6 b rfl (by omega)]
 have n6 : (pr == 6) = false := by simp [hpr.1]
 have n17 : (pr == 17) = false := by simp [hpr.2.1]
 have n1 : (pr == 1) = false := by simp [hpr.2.2]
 clear hpr
 have lw : Later w ((w.alloc (.cells #[.int .u8 pr, .int .u32 s1, .int .u32 d1, .int .u16 a1, .int .u16 b1] 29)).alloc (.cells #[.int .u8 pr, .int .u32 s, .int .u32 d, .int .u16 a, .int .u16 b] 29)) := (later_alloc9 w _).trans (later_alloc9 _ _); have rW : ((w.alloc (.cells #[.int .u8 pr, .int .u32 s1, .int .u32 d1, .int .u16 a1, .int .u16 b1] 29)).alloc (.cells #[.int .u8 pr, .int .u32 s, .int .u32 d, .int .u16 a, .int .u16 b] 29)).heap[w.heap.size]? = some (.cells #[.int .u8 pr, .int .u32 s1, .int .u32 d1, .int .u16 a1, .int .u16 b1] 29 (0, 0)) := (by rw [(later_alloc9 _ _).block w.heap.size (by simp)]; exact heap_alloc_new _ _); have rT := heap_alloc_new (w.alloc (.cells #[.int .u8 pr, .int .u32 s1, .int .u32 d1, .int .u16 a1, .int .u16 b1] 29)) (.cells #[.int .u8 pr, .int .u32 s, .int .u32 d, .int .u16 a, .int .u16 b] 29); rw [World.size_alloc] at rT; have RW := hide rW; have RT := hide rT; clear rW rT
 go_enter Tryz.func24, Tryz.ntmps24
 go_upto_region 1 with fail
 generalize (w.alloc (.cells #[.int .u8 pr, .int .u32 s1, .int .u32 d1, .int .u16 a1, .int .u16 b1] 29)).alloc (.cells #[.int .u8 pr, .int .u32 s, .int .u32 d, .int .u16 a, .int .u16 b] 29) = w1 at *
 have kW := block_cell RW.out
 have kT := block_cell RT.out
 go_wp2_with fail
 refine (rput16_any sv zs 6 b (by omega) hl w1 (hI.later lw) hb).mono ?_
 rintro e w2 ⟨r, rfl, hO, l2⟩
 clear kW kT
 go_wp2_with fail
 go_ret
 exact ⟨_, rfl, by rw [HG.out]; exact hO.mono lw.size, lw.trans l2⟩

set_option maxHeartbeats 8000000 in
theorem rin10_icmp (pr s1 d1 a1 b1 s d a b : Int) (sv : Value) (zs : List Int) (w : World) (hB : Mt.By zs) (hI : Rd w.heap.size w sv zs) (hl : zs.length ≤ 140737488355328) (h8 : 8 ≤ zs.length) (hs1 : 0 ≤ s1 ∧ s1 ≤ 4294967295) (hd1 : 0 ≤ d1 ∧ d1 ≤ 4294967295) (ha1 : 0 ≤ a1 ∧ a1 ≤ 65535) (hb1 : 0 ≤ b1 ∧ b1 ≤ 65535) (hs : 0 ≤ s ∧ s ≤ 4294967295) (hd : 0 ≤ d ∧ d ≤ 4294967295) (ha : 0 ≤ a ∧ a ≤ 65535) (hb : 0 ≤ b ∧ b ≤ 65535) (hpr : pr = 1) : Calls Tryz.prog 24 #[sv, .agg #[.int .u8 pr, .int .u32 s1, .int .u32 d1, .int .u16 a1, .int .u16 b1], .agg #[.int .u8 pr, .int .u32 s, .int .u32 d, .int .u16 a, .int .u16 b]] w fun e w' => ∃ r, e = .returned r ∧ Ow w.heap.size w' r (qsI ⟨pr, s1, d1, a1, b1, pr, s, d, a, b⟩ zs) ∧ Later w w' := by
 have HG : Hid (qsI ⟨pr, s1, d1, a1, b1, pr, s, d, a, b⟩ zs = putAt2 (putAt2 zs 2 (ptv (getAt2 zs 2) a1 a)) 4 a) := qsI_eq _ h8
 have n6 : (pr == 6) = false := by simp [hpr]
 have n17 : (pr == 17) = false := by simp [hpr]
 have n1 : (pr == 1) = true := by simp [hpr]
 clear hpr
 have lw : Later w ((w.alloc (.cells #[.int .u8 pr, .int .u32 s1, .int .u32 d1, .int .u16 a1, .int .u16 b1] 29)).alloc (.cells #[.int .u8 pr, .int .u32 s, .int .u32 d, .int .u16 a, .int .u16 b] 29)) := (later_alloc9 w _).trans (later_alloc9 _ _); have rW : ((w.alloc (.cells #[.int .u8 pr, .int .u32 s1, .int .u32 d1, .int .u16 a1, .int .u16 b1] 29)).alloc (.cells #[.int .u8 pr, .int .u32 s, .int .u32 d, .int .u16 a, .int .u16 b] 29)).heap[w.heap.size]? = some (.cells #[.int .u8 pr, .int .u32 s1, .int .u32 d1, .int .u16 a1, .int .u16 b1] 29 (0, 0)) := (by rw [(later_alloc9 _ _).block w.heap.size (by simp)]; exact heap_alloc_new _ _); have rT := heap_alloc_new (w.alloc (.cells #[.int .u8 pr, .int .u32 s1, .int .u32 d1, .int .u16 a1, .int .u16 b1] 29)) (.cells #[.int .u8 pr, .int .u32 s, .int .u32 d, .int .u16 a, .int .u16 b] 29); rw [World.size_alloc] at rT; have RW := hide rW; have RT := hide rT; clear rW rT
 go_enter Tryz.func24, Tryz.ntmps24
 go_upto_region 1 with fail
 generalize (w.alloc (.cells #[.int .u8 pr, .int .u32 s1, .int .u32 d1, .int .u16 a1, .int .u16 b1] 29)).alloc (.cells #[.int .u8 pr, .int .u32 s, .int .u32 d, .int .u16 a, .int .u16 b] 29) = w1 at *
 have kW := block_cell RW.out
 go_upto_region 16 with fail
 clear kW n6 n17 n1
 refine anyT_begin (R := Later) 10 rfl (by kernel_rfl) ?_
 have ldr : Later w1 w1.drew := Later.drew w1; generalize w1.drew = wd at *
 have qW : ∀ v1, Later wd v1 → ∀ j, v1.cell? ⟨w.heap.size, j, none⟩ = #[Value.int .u8 pr, .int .u32 s1, .int .u32 d1, .int .u16 a1, .int .u16 b1][j]? := fun v1 h => block_cell (later_keep (Later.trans ldr h) RW.out); have qT : ∀ v1, Later wd v1 → ∀ j, v1.cell? ⟨w.heap.size + 1, j, none⟩ = #[Value.int .u8 pr, .int .u32 s, .int .u32 d, .int .u16 a, .int .u16 b][j]? := fun v1 h => block_cell (later_keep (Later.trans ldr h) RT.out)
 have hIz := (hI.later lw).later ldr
 refine anyT_val Later.pre 0 rfl (by kernel_rfl) (by kernel_rfl) (by kernel_rfl) (fun _ _ _ _ h => h) rfl ?_; apply Exists.intro; refine ⟨fun v1 hv1 => ?_, ?_⟩; (· (go_simp; rfl)); simp only [Act.put, sA, sB, sC]
 refine anyT_val Later.pre 1 rfl (by kernel_rfl) (by kernel_rfl) (by kernel_rfl) (fun _ _ _ _ h => h) rfl ?_; apply Exists.intro; refine ⟨fun v1 hv1 => ?_, ?_⟩; (· (go_simp; rfl)); simp only [Act.put, sA, sB, sC]
 refine anyT_val Later.pre 3 rfl (by kernel_rfl) (by kernel_rfl) (by kernel_rfl) (fun _ _ _ _ h => h) rfl ?_; apply Exists.intro; refine ⟨fun v1 hv1 => ?_, ?_⟩; (· (go_simp; rfl)); simp only [Act.put, sA, sB, sC]
 refine anyT_val Later.pre 4 rfl (by kernel_rfl) (by kernel_rfl) (by kernel_rfl) (fun _ _ _ _ h => h) rfl ?_; apply Exists.intro; refine ⟨fun v1 hv1 => ?_, ?_⟩; (· (go_simp; rfl)); simp only [Act.put, sA, sB, sC]
 refine anyT_val Later.pre 5 rfl (by kernel_rfl) (by kernel_rfl) (by kernel_rfl) (fun _ _ _ _ h => h) rfl ?_; apply Exists.intro; refine ⟨fun v1 hv1 => ?_, ?_⟩; (· (go_simp; rfl)); simp only [Act.put, sA, sB, sC]
 refine anyT_val Later.pre 6 rfl (by kernel_rfl) (by kernel_rfl) (by kernel_rfl) (fun _ _ _ _ h => h) rfl ?_; apply Exists.intro; refine ⟨fun v1 hv1 => ?_, ?_⟩; (· (go_simp; rfl)); simp only [Act.put, sA, sB, sC]
 clear qW qT
 refine anyT_one 2 rfl (by kernel_rfl) rfl ?_
 refine wp_enter 62 #[sv, .int .i64 2] (by go_simp) ((rget16_at sv zs hB 2 (by omega) hl wd hIz).mono ?_)
 rintro e w3 ⟨rfl, q, e3⟩
 have l3 : Later wd w3 := by rw [e3]; exact below_draw (Later.refl wd) q
 clear e3
 refine ⟨l3, ?_⟩
 simp only [Act.put, sA, sB, sC]
 refine anyT_one 7 rfl (by kernel_rfl) rfl ?_
 refine wp_enter 67 #[.int .u16 (getAt2 zs 2), .int .u16 a1, .int .u16 a] (by go_simp) ((rpatch_any (getAt2 zs 2) a1 a w3 (getAt2_bd9 hB 2) ha1 ha).mono ?_)
 rintro e w4 ⟨rfl, rfl⟩
 refine ⟨Later.refl _, ?_⟩
 simp only [Act.put, sA, sB, sC]
 rw [show 65535 - Mt.fd (65535 - getAt2 zs 2 + (65535 - a1) + a) = ptv (getAt2 zs 2) a1 a from rfl]
 have hpb := ptv_bd (getAt2 zs 2) a1 a
 generalize ptv (getAt2 zs 2) a1 a = pv at *
 have hIy := hIz.later l3
 refine anyT_one 8 rfl (by kernel_rfl) rfl ?_; refine wp_enter 22 #[sv, .int .i64 2, .int .u16 pv] (by go_simp) ((rput16_any (sv) (zs) (2) (pv) (by omega) (by first | exact hl | (simp only [putAt2_length]; exact hl)) w4 hIy hpb).mono ?_); rintro e w5 ⟨r, rfl, hO, l5⟩; refine ⟨l5, ?_⟩; simp only [Act.put, sA, sB, sC]
 refine anyT_val Later.pre 9 rfl (by kernel_rfl) (by kernel_rfl) (by kernel_rfl) (fun _ _ _ _ h => h) rfl ?_; apply Exists.intro; refine ⟨fun v1 hv1 => ?_, ?_⟩; (· (go_simp; rfl)); simp only [Act.put, sA, sB, sC]
 refine anyT_done (by kernel_rfl) ?_
 have L5 : Later w w5 := lw.trans (ldr.trans (l3.trans l5))
 have kT := block_cell (later_keep (ldr.trans (l3.trans l5)) RT.out)
 obtain ⟨zs2, HZ⟩ : ∃ z, Hid (putAt2 zs 2 pv = z) := ⟨_, rfl⟩
 have hl2 : zs2.length ≤ 140737488355328 := by rw [← HZ.out, putAt2_length]; exact hl
 rw [HZ.out] at HG hO
 go_wp2_with fail
 refine (rput16_any r zs2 4 a (by omega) hl2 w5 hO.rd ha).mono ?_
 rintro e w6 ⟨r2, rfl, hO2, l6⟩
 clear kT
 go_wp2_with fail
 go_ret
 exact ⟨_, rfl, by rw [HG.out]; exact hO2.mono L5.size, L5.trans l6⟩

set_option maxHeartbeats 8000000 in
theorem rin10_tcp (pr s1 d1 a1 b1 s d a b : Int) (sv : Value) (zs : List Int) (w : World) (hB : Mt.By zs) (hI : Rd w.heap.size w sv zs) (hl : zs.length ≤ 140737488355328) (h8 : 8 ≤ zs.length) (hs1 : 0 ≤ s1 ∧ s1 ≤ 4294967295) (hd1 : 0 ≤ d1 ∧ d1 ≤ 4294967295) (ha1 : 0 ≤ a1 ∧ a1 ≤ 65535) (hb1 : 0 ≤ b1 ∧ b1 ≤ 65535) (hs : 0 ≤ s ∧ s ≤ 4294967295) (hd : 0 ≤ d ∧ d ≤ 4294967295) (ha : 0 ≤ a ∧ a ≤ 65535) (hb : 0 ≤ b ∧ b ≤ 65535) (hpr : pr = 6) : Calls Tryz.prog 24 #[sv, .agg #[.int .u8 pr, .int .u32 s1, .int .u32 d1, .int .u16 a1, .int .u16 b1], .agg #[.int .u8 pr, .int .u32 s, .int .u32 d, .int .u16 a, .int .u16 b]] w fun e w' => ∃ r, e = .returned r ∧ Ow w.heap.size w' r (qsT ⟨pr, s1, d1, a1, b1, pr, s, d, a, b⟩ zs) ∧ Later w w' := by
 have HG : Hid (qsT ⟨pr, s1, d1, a1, b1, pr, s, d, a, b⟩ zs = putAt2 (putAt2 (putAt2 zs 0 a) 2 b) 16 (ptch ⟨pr, s1, d1, a1, b1, pr, s, d, a, b⟩ (getAt2 (putAt2 (putAt2 zs 0 a) 2 b) 16))) := by show _ = _; rw [prt_at2 a b h8]; rfl
 have n6 : (pr == 6) = true := by simp [hpr]
 clear hpr
 have lw : Later w ((w.alloc (.cells #[.int .u8 pr, .int .u32 s1, .int .u32 d1, .int .u16 a1, .int .u16 b1] 29)).alloc (.cells #[.int .u8 pr, .int .u32 s, .int .u32 d, .int .u16 a, .int .u16 b] 29)) := (later_alloc9 w _).trans (later_alloc9 _ _); have rW : ((w.alloc (.cells #[.int .u8 pr, .int .u32 s1, .int .u32 d1, .int .u16 a1, .int .u16 b1] 29)).alloc (.cells #[.int .u8 pr, .int .u32 s, .int .u32 d, .int .u16 a, .int .u16 b] 29)).heap[w.heap.size]? = some (.cells #[.int .u8 pr, .int .u32 s1, .int .u32 d1, .int .u16 a1, .int .u16 b1] 29 (0, 0)) := (by rw [(later_alloc9 _ _).block w.heap.size (by simp)]; exact heap_alloc_new _ _); have rT := heap_alloc_new (w.alloc (.cells #[.int .u8 pr, .int .u32 s1, .int .u32 d1, .int .u16 a1, .int .u16 b1] 29)) (.cells #[.int .u8 pr, .int .u32 s, .int .u32 d, .int .u16 a, .int .u16 b] 29); rw [World.size_alloc] at rT; have RW := hide rW; have RT := hide rT; clear rW rT
 go_enter Tryz.func24, Tryz.ntmps24
 go_upto_region 1 with fail
 generalize (w.alloc (.cells #[.int .u8 pr, .int .u32 s1, .int .u32 d1, .int .u16 a1, .int .u16 b1] 29)).alloc (.cells #[.int .u8 pr, .int .u32 s, .int .u32 d, .int .u16 a, .int .u16 b] 29) = w1 at *
 have kW := block_cell RW.out
 go_upto_region 4 with fail
 clear kW n6
 refine anyT_begin (R := Later) 8 rfl (by kernel_rfl) ?_
 have ldr : Later w1 w1.drew := Later.drew w1; generalize w1.drew = wd at *
 have qW : ∀ v1, Later wd v1 → ∀ j, v1.cell? ⟨w.heap.size, j, none⟩ = #[Value.int .u8 pr, .int .u32 s1, .int .u32 d1, .int .u16 a1, .int .u16 b1][j]? := fun v1 h => block_cell (later_keep (Later.trans ldr h) RW.out); have qT : ∀ v1, Later wd v1 → ∀ j, v1.cell? ⟨w.heap.size + 1, j, none⟩ = #[Value.int .u8 pr, .int .u32 s, .int .u32 d, .int .u16 a, .int .u16 b][j]? := fun v1 h => block_cell (later_keep (Later.trans ldr h) RT.out)
 have hIz := (hI.later lw).later ldr
 refine anyT_val Later.pre 0 rfl (by kernel_rfl) (by kernel_rfl) (by kernel_rfl) (fun _ _ _ _ h => h) rfl ?_; apply Exists.intro; refine ⟨fun v1 hv1 => ?_, ?_⟩; (· (go_simp; rfl)); simp only [Act.put, sA, sB, sC]
 refine anyT_val Later.pre 1 rfl (by kernel_rfl) (by kernel_rfl) (by kernel_rfl) (fun _ _ _ _ h => h) rfl ?_; apply Exists.intro; refine ⟨fun v1 hv1 => ?_, ?_⟩; (· (go_simp; rfl)); simp only [Act.put, sA, sB, sC]
 refine anyT_val Later.pre 2 rfl (by kernel_rfl) (by kernel_rfl) (by kernel_rfl) (fun _ _ _ _ h => h) rfl ?_; apply Exists.intro; refine ⟨fun v1 hv1 => ?_, ?_⟩; (· (go_simp; rfl)); simp only [Act.put, sA, sB, sC]
 refine anyT_val Later.pre 4 rfl (by kernel_rfl) (by kernel_rfl) (by kernel_rfl) (fun _ _ _ _ h => h) rfl ?_; apply Exists.intro; refine ⟨fun v1 hv1 => ?_, ?_⟩; (· (go_simp; rfl)); simp only [Act.put, sA, sB, sC]
 refine anyT_val Later.pre 5 rfl (by kernel_rfl) (by kernel_rfl) (by kernel_rfl) (fun _ _ _ _ h => h) rfl ?_; apply Exists.intro; refine ⟨fun v1 hv1 => ?_, ?_⟩; (· (go_simp; rfl)); simp only [Act.put, sA, sB, sC]
 clear qW qT
 refine anyT_one 3 rfl (by kernel_rfl) rfl ?_; refine wp_enter 22 #[sv, .int .i64 0, .int .u16 a] (by go_simp) ((rput16_any (sv) (zs) (0) (a) (by omega) (by first | exact hl | (simp only [putAt2_length]; exact hl)) wd hIz ha).mono ?_); rintro e w2 ⟨r, rfl, hO, l2⟩; refine ⟨l2, ?_⟩; simp only [Act.put, sA, sB, sC]
 have hOr := hO.rd
 refine anyT_one 6 rfl (by kernel_rfl) rfl ?_; refine wp_enter 22 #[r, .int .i64 2, .int .u16 b] (by go_simp) ((rput16_any (r) (putAt2 zs 0 a) (2) (b) (by omega) (by first | exact hl | (simp only [putAt2_length]; exact hl)) w2 hOr hb).mono ?_); rintro e w3 ⟨r3, rfl, hO3, l3⟩; refine ⟨l3, ?_⟩; simp only [Act.put, sA, sB, sC]
 refine anyT_val Later.pre 7 rfl (by kernel_rfl) (by kernel_rfl) (by kernel_rfl) (fun _ _ _ _ h => h) rfl ?_; apply Exists.intro; refine ⟨fun v1 hv1 => ?_, ?_⟩; (· (go_simp; rfl)); simp only [Act.put, sA, sB, sC]
 refine anyT_done (by kernel_rfl) ?_
 have l13 : Later w1 w3 := ldr.trans (Later.trans l2 l3)
 have L3 : Later w w3 := lw.trans l13
 have hB3 : Mt.By (putAt2 (putAt2 zs 0 a) 2 b) := By_putAt2 (By_putAt2 hB 0 ha) 2 hb
 have hl3 : (putAt2 (putAt2 zs 0 a) 2 b).length ≤ 140737488355328 := by rw [putAt2_length, putAt2_length]; exact hl
 have hO3' := hO3.mono (show w.heap.size ≤ w2.heap.size from Nat.le_trans (lw.trans ldr).size (Below.size l2))
 have RW3 := hide (later_keep l13 RW.out)
 have RT3 := hide (later_keep l13 RT.out)
 clear hO3 hO l2 l3 hIz ldr hOr lw RW RT l13
 obtain ⟨z3, HZ⟩ : ∃ z, Hid (putAt2 (putAt2 zs 0 a) 2 b = z) := ⟨_, rfl⟩
 rw [HZ.out] at HG hB3 hl3 hO3'
 clear HZ
 obtain ⟨a3, c3, rfl, hc3, hc4⟩ := hO3'.slice
 obtain ⟨n3, HN3⟩ : ∃ n, Hid (z3.length = n) := ⟨_, rfl⟩
 by_cases h18 : 18 ≤ z3.length
 ·have h18' : (18 : Int) ≤ (z3.length : Int) := by omega
  go_upto_region 6 with fail
  clear h18'
  refine anyT_begin (R := Later) 8 rfl (by kernel_rfl) ?_
  have ldr : Later w3 w3.drew := Later.drew w3
  have RW4 := hide (later_keep ldr RW3.out)
  have RT4 := hide (later_keep ldr RT3.out)
  have hO4 := hO3'.later ldr
  have L4 := L3.trans ldr
  generalize w3.drew = wd at *
  have qW : ∀ v1, Later wd v1 → ∀ j, v1.cell? ⟨w.heap.size, j, none⟩ = #[Value.int .u8 pr, .int .u32 s1, .int .u32 d1, .int .u16 a1, .int .u16 b1][j]? := fun v1 h => block_cell (later_keep h RW4.out)
  have qT : ∀ v1, Later wd v1 → ∀ j, v1.cell? ⟨w.heap.size + 1, j, none⟩ = #[Value.int .u8 pr, .int .u32 s, .int .u32 d, .int .u16 a, .int .u16 b][j]? := fun v1 h => block_cell (later_keep h RT4.out)
  refine anyT_val Later.pre 0 rfl (by kernel_rfl) (by kernel_rfl) (by kernel_rfl) (fun _ _ _ _ h => h) rfl ?_; apply Exists.intro; refine ⟨fun v1 hv1 => ?_, ?_⟩; (· (go_simp; rfl)); simp only [Act.put, sA, sB, sC]
  refine anyT_val Later.pre 1 rfl (by kernel_rfl) (by kernel_rfl) (by kernel_rfl) (fun _ _ _ _ h => h) rfl ?_; apply Exists.intro; refine ⟨fun v1 hv1 => ?_, ?_⟩; (· (go_simp; rfl)); simp only [Act.put, sA, sB, sC]
  refine anyT_val Later.pre 3 rfl (by kernel_rfl) (by kernel_rfl) (by kernel_rfl) (fun _ _ _ _ h => h) rfl ?_; apply Exists.intro; refine ⟨fun v1 hv1 => ?_, ?_⟩; (· (go_simp; rfl)); simp only [Act.put, sA, sB, sC]
  refine anyT_val Later.pre 4 rfl (by kernel_rfl) (by kernel_rfl) (by kernel_rfl) (fun _ _ _ _ h => h) rfl ?_; apply Exists.intro; refine ⟨fun v1 hv1 => ?_, ?_⟩; (· (go_simp; rfl)); simp only [Act.put, sA, sB, sC]
  clear qW qT
  have hIw := hO4.rd
  have hbg := getAt2_bd9 hB3 16
  refine anyT_one 2 rfl (by kernel_rfl) rfl ?_
  refine wp_enter 62 #[.slice a3 z3.length c3, .int .i64 16] (by go_simp) ((rget16_at _ z3 hB3 16 (by omega) hl3 wd hIw).mono ?_)
  rintro e w5 ⟨rfl, q, e5⟩
  have l5 : Later wd w5 := by rw [e5]; exact below_draw (Later.refl wd) q
  clear e5
  refine ⟨l5, ?_⟩
  simp only [Act.put, sA, sB, sC]
  generalize getAt2 z3 16 = g16 at *
  refine anyT_one 5 rfl (by kernel_rfl) rfl ?_
  refine wp_enter 66 #[.int .u16 g16, .agg #[.int .u8 pr, .int .u32 s1, .int .u32 d1, .int .u16 a1, .int .u16 b1], .agg #[.int .u8 pr, .int .u32 s, .int .u32 d, .int .u16 a, .int .u16 b]] (by go_simp) ((rpatched_any pr s1 d1 a1 b1 pr s d a b g16 w5 hbg hs1 hd1 ha1 hb1 hs hd ha hb).mono ?_)
  rintro e w6 ⟨rfl, l6⟩
  refine ⟨l6, ?_⟩
  simp only [Act.put, sA, sB, sC]
  have hpb := ptch_bd ⟨pr, s1, d1, a1, b1, pr, s, d, a, b⟩ g16
  generalize ptch ⟨pr, s1, d1, a1, b1, pr, s, d, a, b⟩ g16 = pv at *
  refine anyT_one 6 rfl (by kernel_rfl) rfl ?_
  refine wp_enter 22 #[.slice a3 z3.length c3, .int .i64 16, .int .u16 pv] (by go_simp) ((rput16_any _ z3 16 pv (by omega) hl3 w6 (hIw.later (l5.trans l6)) hpb).mono ?_)
  rintro e w7 ⟨r7, rfl, hO7, l7⟩
  refine ⟨l7, ?_⟩
  simp only [Act.put, sA, sB, sC]
  refine anyT_val Later.pre 7 rfl (by kernel_rfl) (by kernel_rfl) (by kernel_rfl) (fun _ _ _ _ h => h) rfl ?_; apply Exists.intro; refine ⟨fun v1 hv1 => ?_, ?_⟩; (· (go_simp; rfl)); simp only [Act.put, sA, sB, sC]
  refine anyT_done (by kernel_rfl) ?_
  have L6 : Later w w6 := L4.trans (l5.trans l6)
  go_wp2_with fail
  go_ret
  exact ⟨_, rfl, by rw [HG.out]; exact hO7.mono L6.size, L6.trans l7⟩
 ·have h18' : ¬ (18 : Int) ≤ (z3.length : Int) := by omega
  have HE : Hid (qsT ⟨pr, s1, d1, a1, b1, pr, s, d, a, b⟩ zs = z3) := by show _ = _; rw [HG.out]; unfold putAt2; rw [if_neg (by omega)]
  go_wp2_with fail
  go_ret
  exact ⟨_, rfl, by rw [HE.out]; exact hO3', L3⟩

set_option maxHeartbeats 8000000 in
theorem rin10_udp (pr s1 d1 a1 b1 s d a b : Int) (sv : Value) (zs : List Int) (w : World) (hB : Mt.By zs) (hI : Rd w.heap.size w sv zs) (hl : zs.length ≤ 140737488355328) (h8 : 8 ≤ zs.length) (hs1 : 0 ≤ s1 ∧ s1 ≤ 4294967295) (hd1 : 0 ≤ d1 ∧ d1 ≤ 4294967295) (ha1 : 0 ≤ a1 ∧ a1 ≤ 65535) (hb1 : 0 ≤ b1 ∧ b1 ≤ 65535) (hs : 0 ≤ s ∧ s ≤ 4294967295) (hd : 0 ≤ d ∧ d ≤ 4294967295) (ha : 0 ≤ a ∧ a ≤ 65535) (hb : 0 ≤ b ∧ b ≤ 65535) (hpr : pr = 17) : Calls Tryz.prog 24 #[sv, .agg #[.int .u8 pr, .int .u32 s1, .int .u32 d1, .int .u16 a1, .int .u16 b1], .agg #[.int .u8 pr, .int .u32 s, .int .u32 d, .int .u16 a, .int .u16 b]] w fun e w' => ∃ r, e = .returned r ∧ Ow w.heap.size w' r (qsU ⟨pr, s1, d1, a1, b1, pr, s, d, a, b⟩ zs) ∧ Later w w' := by
 have HG : Hid (qsU ⟨pr, s1, d1, a1, b1, pr, s, d, a, b⟩ zs = if getAt2 (putAt2 (putAt2 zs 0 a) 2 b) 6 = 0 then putAt2 (putAt2 zs 0 a) 2 b else putAt2 (putAt2 (putAt2 zs 0 a) 2 b) 6 (nbr (ptch ⟨pr, s1, d1, a1, b1, pr, s, d, a, b⟩ (getAt2 (putAt2 (putAt2 zs 0 a) 2 b) 6)))) := by show _ = _; rw [prt_at2 a b h8]; rfl
 have n6 : (pr == 6) = false := by simp [hpr]
 have n17 : (pr == 17) = true := by simp [hpr]
 clear hpr
 have lw : Later w ((w.alloc (.cells #[.int .u8 pr, .int .u32 s1, .int .u32 d1, .int .u16 a1, .int .u16 b1] 29)).alloc (.cells #[.int .u8 pr, .int .u32 s, .int .u32 d, .int .u16 a, .int .u16 b] 29)) := (later_alloc9 w _).trans (later_alloc9 _ _); have rW : ((w.alloc (.cells #[.int .u8 pr, .int .u32 s1, .int .u32 d1, .int .u16 a1, .int .u16 b1] 29)).alloc (.cells #[.int .u8 pr, .int .u32 s, .int .u32 d, .int .u16 a, .int .u16 b] 29)).heap[w.heap.size]? = some (.cells #[.int .u8 pr, .int .u32 s1, .int .u32 d1, .int .u16 a1, .int .u16 b1] 29 (0, 0)) := (by rw [(later_alloc9 _ _).block w.heap.size (by simp)]; exact heap_alloc_new _ _); have rT := heap_alloc_new (w.alloc (.cells #[.int .u8 pr, .int .u32 s1, .int .u32 d1, .int .u16 a1, .int .u16 b1] 29)) (.cells #[.int .u8 pr, .int .u32 s, .int .u32 d, .int .u16 a, .int .u16 b] 29); rw [World.size_alloc] at rT; have RW := hide rW; have RT := hide rT; clear rW rT
 go_enter Tryz.func24, Tryz.ntmps24
 go_upto_region 1 with fail
 generalize (w.alloc (.cells #[.int .u8 pr, .int .u32 s1, .int .u32 d1, .int .u16 a1, .int .u16 b1] 29)).alloc (.cells #[.int .u8 pr, .int .u32 s, .int .u32 d, .int .u16 a, .int .u16 b] 29) = w1 at *
 have kW := block_cell RW.out
 go_upto_region 8 with fail
 clear kW n6 n17
 refine anyT_begin (R := Later) 8 rfl (by kernel_rfl) ?_
 have ldr : Later w1 w1.drew := Later.drew w1; generalize w1.drew = wd at *
 have qW : ∀ v1, Later wd v1 → ∀ j, v1.cell? ⟨w.heap.size, j, none⟩ = #[Value.int .u8 pr, .int .u32 s1, .int .u32 d1, .int .u16 a1, .int .u16 b1][j]? := fun v1 h => block_cell (later_keep (Later.trans ldr h) RW.out); have qT : ∀ v1, Later wd v1 → ∀ j, v1.cell? ⟨w.heap.size + 1, j, none⟩ = #[Value.int .u8 pr, .int .u32 s, .int .u32 d, .int .u16 a, .int .u16 b][j]? := fun v1 h => block_cell (later_keep (Later.trans ldr h) RT.out)
 have hIz := (hI.later lw).later ldr
 refine anyT_val Later.pre 0 rfl (by kernel_rfl) (by kernel_rfl) (by kernel_rfl) (fun _ _ _ _ h => h) rfl ?_; apply Exists.intro; refine ⟨fun v1 hv1 => ?_, ?_⟩; (· (go_simp; rfl)); simp only [Act.put, sA, sB, sC]
 refine anyT_val Later.pre 1 rfl (by kernel_rfl) (by kernel_rfl) (by kernel_rfl) (fun _ _ _ _ h => h) rfl ?_; apply Exists.intro; refine ⟨fun v1 hv1 => ?_, ?_⟩; (· (go_simp; rfl)); simp only [Act.put, sA, sB, sC]
 refine anyT_val Later.pre 2 rfl (by kernel_rfl) (by kernel_rfl) (by kernel_rfl) (fun _ _ _ _ h => h) rfl ?_; apply Exists.intro; refine ⟨fun v1 hv1 => ?_, ?_⟩; (· (go_simp; rfl)); simp only [Act.put, sA, sB, sC]
 refine anyT_val Later.pre 4 rfl (by kernel_rfl) (by kernel_rfl) (by kernel_rfl) (fun _ _ _ _ h => h) rfl ?_; apply Exists.intro; refine ⟨fun v1 hv1 => ?_, ?_⟩; (· (go_simp; rfl)); simp only [Act.put, sA, sB, sC]
 refine anyT_val Later.pre 5 rfl (by kernel_rfl) (by kernel_rfl) (by kernel_rfl) (fun _ _ _ _ h => h) rfl ?_; apply Exists.intro; refine ⟨fun v1 hv1 => ?_, ?_⟩; (· (go_simp; rfl)); simp only [Act.put, sA, sB, sC]
 clear qW qT
 refine anyT_one 3 rfl (by kernel_rfl) rfl ?_; refine wp_enter 22 #[sv, .int .i64 0, .int .u16 a] (by go_simp) ((rput16_any (sv) (zs) (0) (a) (by omega) (by first | exact hl | (simp only [putAt2_length]; exact hl)) wd hIz ha).mono ?_); rintro e w2 ⟨r, rfl, hO, l2⟩; refine ⟨l2, ?_⟩; simp only [Act.put, sA, sB, sC]
 have hOr := hO.rd
 refine anyT_one 6 rfl (by kernel_rfl) rfl ?_; refine wp_enter 22 #[r, .int .i64 2, .int .u16 b] (by go_simp) ((rput16_any (r) (putAt2 zs 0 a) (2) (b) (by omega) (by first | exact hl | (simp only [putAt2_length]; exact hl)) w2 hOr hb).mono ?_); rintro e w3 ⟨r3, rfl, hO3, l3⟩; refine ⟨l3, ?_⟩; simp only [Act.put, sA, sB, sC]
 refine anyT_val Later.pre 7 rfl (by kernel_rfl) (by kernel_rfl) (by kernel_rfl) (fun _ _ _ _ h => h) rfl ?_; apply Exists.intro; refine ⟨fun v1 hv1 => ?_, ?_⟩; (· (go_simp; rfl)); simp only [Act.put, sA, sB, sC]
 refine anyT_done (by kernel_rfl) ?_
 have l13 : Later w1 w3 := ldr.trans (Later.trans l2 l3)
 have L3 : Later w w3 := lw.trans l13
 have hB3 : Mt.By (putAt2 (putAt2 zs 0 a) 2 b) := By_putAt2 (By_putAt2 hB 0 ha) 2 hb
 have hl3 : (putAt2 (putAt2 zs 0 a) 2 b).length ≤ 140737488355328 := by rw [putAt2_length, putAt2_length]; exact hl
 have hO3' := hO3.mono (show w.heap.size ≤ w2.heap.size from Nat.le_trans (lw.trans ldr).size (Below.size l2))
 have RW3 := hide (later_keep l13 RW.out)
 have RT3 := hide (later_keep l13 RT.out)
 clear hO3 hO l2 l3 hIz ldr hOr lw RW RT l13
 obtain ⟨z3, HZ⟩ : ∃ z, Hid (putAt2 (putAt2 zs 0 a) 2 b = z) := ⟨_, rfl⟩
 rw [HZ.out] at HG hB3 hl3 hO3'
 clear HZ
 have hbg := getAt2_bd9 hB3 6
 go_wp2_with fail
 refine (rget16_at r3 z3 hB3 6 (by omega) hl3 w3 hO3'.rd).mono ?_
 rintro e w4 ⟨rfl, q, e4⟩
 have l4 : Later w3 w4 := by rw [e4]; exact below_draw (Later.refl w3) q
 clear e4
 have hO4 := hO3'.later l4
 have L4 := L3.trans l4
 have RW4 := hide (later_keep l4 RW3.out)
 have RT4 := hide (later_keep l4 RT3.out)
 clear RW3 RT3 hO3' l4
 generalize getAt2 z3 6 = g6 at *
 by_cases h0 : g6 = 0
 ·have HE : Hid (qsU ⟨pr, s1, d1, a1, b1, pr, s, d, a, b⟩ zs = z3) := by show _ = _; rw [HG.out, if_pos h0]
  have t0 : (g6 != 0) = false := by simp [h0]
  clear h0 hbg
  go_wp2_with fail
  go_ret
  exact ⟨_, rfl, by rw [HE.out]; exact hO4, L4⟩
 ·have HE : Hid (qsU ⟨pr, s1, d1, a1, b1, pr, s, d, a, b⟩ zs = putAt2 z3 6 (nbr (ptch ⟨pr, s1, d1, a1, b1, pr, s, d, a, b⟩ g6))) := by show _ = _; rw [HG.out, if_neg h0]
  have t0 : (g6 != 0) = true := by simp [h0]
  clear h0 HG
  have kW := block_cell RW4.out
  have kT := block_cell RT4.out
  have HPT := hide (rpatched_any pr s1 d1 a1 b1 pr s d a b g6 w4 hbg hs1 hd1 ha1 hb1 hs hd ha hb)
  go_wp2_with fail
  refine HPT.out.mono ?_
  rintro e w5 ⟨rfl, l5⟩
  clear kW kT HPT t0
  have hpb := ptch_bd ⟨pr, s1, d1, a1, b1, pr, s, d, a, b⟩ g6
  generalize ptch ⟨pr, s1, d1, a1, b1, pr, s, d, a, b⟩ g6 = pv at *
  have L5 := L4.trans l5
  have hO5 := hO4.later l5
  have HR := hide (fun (x : Int) (hx : 0 ≤ x ∧ x ≤ 65535) => rput16_any r3 z3 6 x (by omega) hl3 w5 hO5.rd hx)
  by_cases hp0 : pv = 0
  ·have t1 : (pv == 0) = true := by simp [hp0]
   have HN : Hid (nbr pv = 65535) := by show _ = _; unfold nbr; rw [if_pos hp0]
   clear hp0
   go_wp2_with fail
   refine (HR.out 65535 (by omega)).mono ?_
   rintro e w6 ⟨r6, rfl, hO6, l6⟩
   go_wp2_with fail
   go_ret
   exact ⟨_, rfl, by rw [HE.out, HN.out]; exact hO6.mono L5.size, L5.trans l6⟩
  ·have t1 : (pv == 0) = false := by simp [hp0]
   have HN : Hid (nbr pv = pv) := by show _ = _; unfold nbr; rw [if_neg hp0]
   clear hp0
   go_wp2_with fail
   refine (HR.out pv hpb).mono ?_
   rintro e w6 ⟨r6, rfl, hO6, l6⟩
   go_wp2_with fail
   go_ret
   exact ⟨_, rfl, by rw [HE.out, HN.out]; exact hO6.mono L5.size, L5.trans l6⟩

theorem rin10_any (pr s1 d1 a1 b1 s d a b : Int) (sv : Value) (zs : List Int) (w : World) (hB : Mt.By zs) (hI : Rd w.heap.size w sv zs) (hl : zs.length ≤ 140737488355328) (h8 : 8 ≤ zs.length) (hs1 : 0 ≤ s1 ∧ s1 ≤ 4294967295) (hd1 : 0 ≤ d1 ∧ d1 ≤ 4294967295) (ha1 : 0 ≤ a1 ∧ a1 ≤ 65535) (hb1 : 0 ≤ b1 ∧ b1 ≤ 65535) (hs : 0 ≤ s ∧ s ≤ 4294967295) (hd : 0 ≤ d ∧ d ≤ 4294967295) (ha : 0 ≤ a ∧ a ≤ 65535) (hb : 0 ≤ b ∧ b ≤ 65535) (hok : pok pr) : Calls Tryz.prog 24 #[sv, .agg #[.int .u8 pr, .int .u32 s1, .int .u32 d1, .int .u16 a1, .int .u16 b1], .agg #[.int .u8 pr, .int .u32 s, .int .u32 d, .int .u16 a, .int .u16 b]] w fun e w' => ∃ r, e = .returned r ∧ Ow w.heap.size w' r (qsD pr ⟨pr, s1, d1, a1, b1, pr, s, d, a, b⟩ zs) ∧ Later w w' := by
 rcases hok with rfl | rfl | rfl | rfl
 ·exact rin10_tcp 6 s1 d1 a1 b1 s d a b sv zs w hB hI hl h8 hs1 hd1 ha1 hb1 hs hd ha hb rfl
 ·exact rin10_udp 17 s1 d1 a1 b1 s d a b sv zs w hB hI hl h8 hs1 hd1 ha1 hb1 hs hd ha hb rfl
 ·exact rin10_icmp 1 s1 d1 a1 b1 s d a b sv zs w hB hI hl h8 hs1 hd1 ha1 hb1 hs hd ha hb rfl
 ·exact rin10_gre 47 s1 d1 a1 b1 s d a b sv zs w hB hI hl h8 hs1 hd1 ha1 hb1 hs hd ha hb (by decide)
end Go.Proofs.YtghpakfjpdifaaaGreatDoor

/- The document's header and Build of a packet. -/
namespace Go.Proofs.YtghpakfjpdifaaaGreatDoor
open Go.RowKit Go.Shelf
set_option maxRecDepth 100000
set_option linter.unusedVariables false
set_option linter.unusedSimpArgs false

/-- A row of the call's own that grows, all from Wb on. -/
def Row (Wb : World) (v : Value) (ys : List Int) (W : World) : Prop := W.ownsRow Wb.heap.size 5 1 v ys.length (ys.map (Value.int .u8)) ∧ Below Wb.heap.size Wb W
theorem Row.alloc {Wb W : World} {v : Value} {ys : List Int} (h : Row Wb v ys W) (o : Obj) : Row Wb v ys (W.alloc o) := ⟨h.1.alloc o, h.2.alloc h.2.size o⟩
theorem Row.two (Wb : World) (x y : Int) : Row Wb (.slice (some ⟨Wb.heap.size, 0, none⟩) 2 2) [x, y] (Wb.alloc (.cells #[.int .u8 x, .int .u8 y] 5)) :=
 ⟨⟨by simp, .inr ⟨Wb.heap.size, 2, _, rfl, Nat.le_refl _, heap_alloc_new Wb _, Nat.le_refl _, by unfold maxLen; omega, rfl, rfl⟩⟩, (Below.refl _ _).alloc (Nat.le_refl _) _⟩
theorem Row.cell {Wb W : World} {v u : Value} {ys : List Int} (h : Row Wb v ys W) {p : Addr} (hc : Wb.cell? p = some u) : W.cell? p = some u := (h.2.cell (World.block_lt_of_cell? Wb p hc)).trans hc
set_option maxHeartbeats 1000000 in
theorem rput16_row (sv : Value) (zs : List Int) (n : Nat) (v : Int) (hl : zs.length ≤ 140737488355328) (k1 : n + 1 < zs.length) (w : World) (hI : Rd w.heap.size w sv zs) (hv : 0 ≤ v ∧ v ≤ 65535) :
  Calls Tryz.prog 22 #[sv, .int .i64 n, .int .u16 v] w fun e w' => ∃ r, e = .returned r ∧ w'.ownsRow w.heap.size 5 1 r zs.length ((Mt.put2 zs n v).map (Value.int .u8)) ∧ Below w.heap.size w w' := by
 obtain ⟨i0, hi, hz0, hz1, hz2⟩ := info_parts info_u8
 obtain ⟨a, cap, rfl, h1, h2⟩ := hI.slice
 have t0 : (0 : Int) ≤ n := by omega
 have t1 : 2 ≤ (zs.length : Int) := by omega
 have t2 : (n : Int) ≤ (zs.length : Int) - 2 := by omega
 have i1 : (n : Int) < zs.length := by omega
 have i2 : (n : Int) + 1 < zs.length := by omega
 go_enter Tryz.func22, Tryz.ntmps22
 go_wp2_with (at_builtin; refine wpList_app _ rfl (.tmp 8) (.tmp 9) 24 rfl w.heap.size 5 i0 Tryz.underlying24 hi hz0 hz1 hz2 _ [] rfl (World.ownsRow_nil _ _ _ _) w.heap.size _ zs rfl hI (by simp; omega) (by simp) ?_; intro v2 w2 hown2 hg2; have hb2 := (Below.refl w.heap.size w).grown hg2 (by simp) (fun k e => by cases e); clear hg2; have hO2 := Ow.of_row hown2; simp only [List.nil_append] at hO2 hown2; have HW := hide hown2; clear hown2; obtain ⟨a2, cap2, rfl, hl2, hm2⟩ := hO2.slice; obtain ⟨g, rfl, _, hg, hcf, hset⟩ := hO2.at (by omega); obtain ⟨c0, f0⟩ := hcf n (by omega); obtain ⟨c1, f1⟩ := hcf (n + 1) k1; clear hcf)
 go_ret
 refine ⟨_, rfl, ?_, (hb2.setCell (p := ⟨g, n, none⟩) hg _).setCell (p := ⟨g, n + 1, none⟩) hg _⟩
 have := ((HW.out.stored n (.int .u8 (v / 256))).1.stored (n + 1) (.int .u8 (v % 256))).1
 simpa [Mt.put2, List.map_set] using this

end Go.Proofs.YtghpakfjpdifaaaGreatDoor

/- The document's Requote. -/
namespace Go.Proofs.YtghpakfjpdifaaaGreatDoor
open Go.RowKit Go.Shelf
set_option maxRecDepth 100000
set_option linter.unusedVariables false
set_option linter.unusedSimpArgs false

theorem row_later9 {base n k : Nat} {t : TypeId} {A B : World} {v : Value} {xs : List Value} (h : A.ownsRow base t k v n xs) (l : Later A B) : B.ownsRow base t k v n xs := by
 obtain ⟨h1, h2 | ⟨g, cap, cur, e, hg, hh, r⟩⟩ := h
 ·exact ⟨h1, .inl h2⟩
 ·exact ⟨h1, .inr ⟨g, cap, cur, e, hg, later_keep l hh, r⟩⟩

set_option maxHeartbeats 16000000 in
theorem rrequote_any (tos id ttl pr src dst : Int) (keep : Bool) (so sd : Value) (zo zd : List Int) (ns nd tp s d a b : Int) (w : World) (hBo : Mt.By zo) (hBd : Mt.By zd) (hIo : Rd w.heap.size w so zo) (hId : Rd w.heap.size w sd zd) (hlo : zo.length ≤ 140737488355328) (hl : zd.length ≤ 1099511627776)
  (ht : 0 ≤ tos ∧ tos ≤ 255) (hid : 0 ≤ id ∧ id ≤ 65535) (htt : 0 ≤ ttl ∧ ttl ≤ 255) (hns : 0 ≤ ns ∧ ns ≤ 4294967295) (hnd : 0 ≤ nd ∧ nd ≤ 4294967295) (hs : 0 ≤ s ∧ s ≤ 4294967295) (hd : 0 ≤ d ∧ d ≤ 4294967295) (ha : 0 ≤ a ∧ a ≤ 65535) (hb : 0 ≤ b ∧ b ≤ 65535) :
  Calls Tryz.prog 6 #[.agg #[.int .u8 tos, .int .u16 id, .bool keep, .int .u8 ttl, .int .u8 pr, .int .u32 src, .int .u32 dst, so, sd], .int .u32 ns, .int .u32 nd, .agg #[.int .u8 tp, .int .u32 s, .int .u32 d, .int .u16 a, .int .u16 b]] w fun e w' => Below w.heap.size w w' ∧ ((rqe pr tp zo.length zd ≠ 0 ∧ e = .returned (.tuple #[.agg zpk.toArray, .int .i64 (rqe pr tp zo.length zd)])) ∨
   (rqe pr tp zo.length zd = 0 ∧ ∃ ao co ad cd, e = .returned (.tuple #[.agg #[.int .u8 tos, .int .u16 id, .bool keep, .int .u8 ttl, .int .u8 1, .int .u32 ns, .int .u32 nd, .slice ao zo.length co, .slice ad (8 + (zd.drop 8).length) cd], .int .i64 0]) ∧ Ow w.heap.size w' (.slice ao zo.length co) zo ∧ Ow w.heap.size w' (.slice ad (8 + (zd.drop 8).length) cd) (icm (zd[0]?.getD 0) (zd[1]?.getD 0) (wat4 zd 4) (rqt (qun (zd.drop 8) s d a b) (zd.drop 8))))) := by
 obtain ⟨i0, hi, hz0, hz1, hz2⟩ := info_parts info_u8
 obtain ⟨ao, co, rfl, hlo1, hmo1⟩ := hIo.slice
 obtain ⟨ad, cd, rfl, hl1, hm1⟩ := hId.slice
 have hb0 : Below w.heap.size w (((w.alloc (.cells #[.int .u8 tos, .int .u16 id, .bool keep, .int .u8 ttl, .int .u8 pr, .int .u32 src, .int .u32 dst, .slice ao zo.length co, .slice ad zd.length cd] 26)).alloc (.cells #[.int .u8 tp, .int .u32 s, .int .u32 d, .int .u16 a, .int .u16 b] 29)).alloc (.cells zpk.toArray 26)) := (((Below.refl _ _).alloc (Nat.le_refl _) _).alloc (by simp) _).alloc (by simp <;> omega) _
 have p0 : (((w.alloc (.cells #[.int .u8 tos, .int .u16 id, .bool keep, .int .u8 ttl, .int .u8 pr, .int .u32 src, .int .u32 dst, .slice ao zo.length co, .slice ad zd.length cd] 26)).alloc (.cells #[.int .u8 tp, .int .u32 s, .int .u32 d, .int .u16 a, .int .u16 b] 29)).alloc (.cells zpk.toArray 26)).heap[w.heap.size]? = some (.cells #[.int .u8 tos, .int .u16 id, .bool keep, .int .u8 ttl, .int .u8 pr, .int .u32 src, .int .u32 dst, .slice ao zo.length co, .slice ad zd.length cd] 26) := (Below.heap_alloc _ _ _ (by simp <;> omega)).trans ((Below.heap_alloc _ _ _ (by simp)).trans (heap_alloc_new w _))
 have t0 : (((w.alloc (.cells #[.int .u8 tos, .int .u16 id, .bool keep, .int .u8 ttl, .int .u8 pr, .int .u32 src, .int .u32 dst, .slice ao zo.length co, .slice ad zd.length cd] 26)).alloc (.cells #[.int .u8 tp, .int .u32 s, .int .u32 d, .int .u16 a, .int .u16 b] 29)).alloc (.cells zpk.toArray 26)).heap[w.heap.size + 1]? = some (.cells #[.int .u8 tp, .int .u32 s, .int .u32 d, .int .u16 a, .int .u16 b] 29) := by
  have := heap_alloc_new (w.alloc (.cells #[.int .u8 tos, .int .u16 id, .bool keep, .int .u8 ttl, .int .u8 pr, .int .u32 src, .int .u32 dst, .slice ao zo.length co, .slice ad zd.length cd] 26)) (.cells #[.int .u8 tp, .int .u32 s, .int .u32 d, .int .u16 a, .int .u16 b] 29)
  rw [World.size_alloc] at this
  exact (Below.heap_alloc _ _ _ (by simp)).trans this
 have r0 : (((w.alloc (.cells #[.int .u8 tos, .int .u16 id, .bool keep, .int .u8 ttl, .int .u8 pr, .int .u32 src, .int .u32 dst, .slice ao zo.length co, .slice ad zd.length cd] 26)).alloc (.cells #[.int .u8 tp, .int .u32 s, .int .u32 d, .int .u16 a, .int .u16 b] 29)).alloc (.cells zpk.toArray 26)).heap[w.heap.size + 1 + 1]? = some (.cells zpk.toArray 26) := by
  have := heap_alloc_new ((w.alloc (.cells #[.int .u8 tos, .int .u16 id, .bool keep, .int .u8 ttl, .int .u8 pr, .int .u32 src, .int .u32 dst, .slice ao zo.length co, .slice ad zd.length cd] 26)).alloc (.cells #[.int .u8 tp, .int .u32 s, .int .u32 d, .int .u16 a, .int .u16 b] 29)) (.cells zpk.toArray 26)
  simpa only [World.size_alloc] using this
 have P0 := hide p0
 have T0 := hide t0
 have R0 := hide r0
 clear p0 t0 r0
 go_enter Tryz.func6, Tryz.ntmps6
 go_upto_region 1 with fail
 generalize ((w.alloc _).alloc _).alloc _ = W0 at *
 have kP := block_cell P0.out
 have hs0 : w.heap.size + 1 + 1 < W0.heap.size := (Array.getElem?_eq_some_iff.1 R0.out).1
 go_wp2_with fail
 refine (rinner_any tos id ttl pr src dst keep _ _ zd W0 hBd ((hId.below hb0).mono hb0.size) hl).mono ?_
 clear kP
 unfold quv
 obtain ⟨oe, HO⟩ : ∃ e, Hid (que pr zd = e) := ⟨_, rfl⟩
 rw [HO.out]
 rintro e w1 ⟨hb1, y0, y1, y2, y3, y4, y5, y6, y7, m7, d7, y8, m8, d8, rfl, hrin⟩
 have HRI := hide hrin
 clear hrin
 have l1 : Later W0 w1 := hb1
 have hw1 : Below w.heap.size w w1 := Later.below hb0 (Nat.le_refl _) l1
 by_cases c2 : oe = 0
 case neg =>
  rw [otv_no c2]
  have t2 : (oe != 0) = true := by simp [c2]
  have HF : Hid (rqe pr tp zo.length zd = oe) := by show _ = _; unfold rqe; rw [HO.out, if_pos c2]
  have HNZ : Hid (oe ≠ 0) := c2
  have r1 := (l1.block (w.heap.size + 1 + 1) hs0).trans R0.out
  have lA := (later_alloc' w1 (.cells #[.int .u8 y0, .int .u16 y1, .bool y2, .int .u8 y3, .int .u8 y4, .int .u32 y5, .int .u32 y6, .slice y7 m7 d7, .slice y8 m8 d8] 26)).trans (later_alloc' _ (.cells #[.int .u8 0, .int .u32 0, .int .u32 0, .int .u16 0, .int .u16 0] 29))
  have r2 := (lA.block (w.heap.size + 1 + 1) (Array.getElem?_eq_some_iff.1 r1).1).trans r1
  have hw2 := Later.below hw1 (Nat.le_refl _) lA
  have R2 := hide r2
  clear c2 r1 r2 lA
  go_upto_region 2 with fail
  generalize (w1.alloc _).alloc _ = w2 at *
  have kR := block_cell R2.out
  have fR := block_frozen R2.out
  go_wp2_with fail
  generalize hV : (((((((((w2.setCell ⟨w.heap.size + 1 + 1, 0, none⟩ _).setCell ⟨w.heap.size + 1 + 1, 1, none⟩ _).setCell ⟨w.heap.size + 1 + 1, 2, none⟩ _).setCell ⟨w.heap.size + 1 + 1, 3, none⟩ _).setCell ⟨w.heap.size + 1 + 1, 4, none⟩ _).setCell ⟨w.heap.size + 1 + 1, 5, none⟩ _).setCell ⟨w.heap.size + 1 + 1, 6, none⟩ _).setCell ⟨w.heap.size + 1 + 1, 7, none⟩ _).setCell ⟨w.heap.size + 1 + 1, 8, none⟩ _) = V8; have hV9 : V8 = putRow w2 (w.heap.size + 1 + 1) 0 zpk := hV.symm; have hb8 : But (fun b => b = w.heap.size + 1 + 1) w2 V8 := by { rw [hV9]; exact putRow_but (E := fun b => b = w.heap.size + 1 + 1) (n := w.heap.size + 1 + 1) rfl _ _ _ _ (But.refl _ _) }; have p8 := putRow_all zpk R2.out rfl; rw [← hV9] at p8; clear hV hV9; have P8 := block_cell p8; have hw8 : Below w.heap.size w V8 := (hw2).trans (hb8.below (hw2).size (fun k h e => by omega)); exact bodyPost_ret (v := .tuple #[.agg zpk.toArray, .int .i64 oe]) (by simp [results, Tryz.results6, go_sem, P8, zpk]) rfl ⟨hw8, .inl ⟨by rw [HF.out]; exact HNZ.out, by rw [HF.out]⟩⟩
 subst c2
 rw [otv_ok]
 obtain ⟨hpi, her, hrd, hqi⟩ := que_zero HO.out
 obtain ⟨hy4, hm7, hm8⟩ := HRI.out rfl
 have hok := qie_pok hqi
 have hBm := hBd.drop 8
 have hF := rde_facts hBm hrd
 have hl7 : (((zd.drop 8).take (hl4 (zd.drop 8)).toNat).drop 20).length = (hl4 (zd.drop 8)).toNat - 20 := by rw [List.length_drop, List.length_take]; omega
 have hl8 : (qdt (zd.drop 8)).length = (ral true (zd.drop 8)).toNat - (hl4 (zd.drop 8)).toNat := by unfold qdt; rw [List.length_drop, List.length_take]; omega
 have HX1 := hide (wat4_bd9 hBm 12)
 have HX2 := hide (wat4_bd9 hBm 16)
 have HX3 := hide (qia_bd (pr := qpr (zd.drop 8)) (By_qdt hBm))
 have HX4 := hide (qib_bd (pr := qpr (zd.drop 8)) (By_qdt hBm))
 have HM7 := hide (hm7.trans hl7)
 have HM8 := hide hm8
 have HL8 := hide hl8
 have HFF := hide hF
 rw [← hy4] at hok HX3 HX4 ⊢
 have HU : Hid (qun (zd.drop 8) s d a b = ⟨y4, wat4 (zd.drop 8) 12, wat4 (zd.drop 8) 16, qia y4 (qdt (zd.drop 8)), qib y4 (qdt (zd.drop 8)), y4, s, d, a, b⟩) := by show _ = _; unfold qun; rw [hy4]
 have HE : Hid (rqe pr tp zo.length zd = if y4 ≠ tp then 12 else flt zo.length (8 + (zd.drop 8).length)) := by show _ = _; unfold rqe; rw [HO.out, if_neg (by simp), ← hy4]
 clear hy4 hm7 hm8 hl7 hl8 hF hqi her HRI
 generalize wat4 (zd.drop 8) 12 = xs at *
 generalize wat4 (zd.drop 8) 16 = xd at *
 generalize qia y4 (qdt (zd.drop 8)) = xa at *
 generalize qib y4 (qdt (zd.drop 8)) = xb at *
 have hs1 : w.heap.size + 1 + 1 < w1.heap.size := Nat.lt_of_lt_of_le hs0 l1.size
 have lA := (later_alloc' w1 (.cells #[.int .u8 y0, .int .u16 y1, .bool y2, .int .u8 y3, .int .u8 y4, .int .u32 y5, .int .u32 y6, .slice y7 m7 d7, .slice y8 m8 d8] 26)).trans (later_alloc' _ (.cells #[.int .u8 y4, .int .u32 xs, .int .u32 xd, .int .u16 xa, .int .u16 xb] 29))
 have Q2 : Hid (((w1.alloc (.cells #[.int .u8 y0, .int .u16 y1, .bool y2, .int .u8 y3, .int .u8 y4, .int .u32 y5, .int .u32 y6, .slice y7 m7 d7, .slice y8 m8 d8] 26)).alloc (.cells #[.int .u8 y4, .int .u32 xs, .int .u32 xd, .int .u16 xa, .int .u16 xb] 29)).heap[w1.heap.size]? = some (.cells #[.int .u8 y0, .int .u16 y1, .bool y2, .int .u8 y3, .int .u8 y4, .int .u32 y5, .int .u32 y6, .slice y7 m7 d7, .slice y8 m8 d8] 26 (0, 0))) := later_keep (later_alloc' _ _) (heap_alloc_new w1 _)
 have W2 : Hid (((w1.alloc (.cells #[.int .u8 y0, .int .u16 y1, .bool y2, .int .u8 y3, .int .u8 y4, .int .u32 y5, .int .u32 y6, .slice y7 m7 d7, .slice y8 m8 d8] 26)).alloc (.cells #[.int .u8 y4, .int .u32 xs, .int .u32 xd, .int .u16 xa, .int .u16 xb] 29)).heap[w1.heap.size + 1]? = some (.cells #[.int .u8 y4, .int .u32 xs, .int .u32 xd, .int .u16 xa, .int .u16 xb] 29 (0, 0))) := by
  have := heap_alloc_new (w1.alloc (.cells #[.int .u8 y0, .int .u16 y1, .bool y2, .int .u8 y3, .int .u8 y4, .int .u32 y5, .int .u32 y6, .slice y7 m7 d7, .slice y8 m8 d8] 26)) (.cells #[.int .u8 y4, .int .u32 xs, .int .u32 xd, .int .u16 xa, .int .u16 xb] 29)
  rw [World.size_alloc] at this
  exact this
 have l2 := l1.trans lA
 have P2 := hide (later_keep l2 P0.out)
 have T2 := hide (later_keep l2 T0.out)
 have R2 := hide (later_keep l2 R0.out)
 have hw2 := Later.below hb0 (Nat.le_refl _) l2
 clear P0 T0 R0 lA l1 hb1 hb0 hw1 l2
 go_upto_region 2 with fail
 generalize (w1.alloc _).alloc _ = w2 at *
 generalize hgq : w1.heap.size = gq at *
 clear hgq
 have hs2 : gq + 1 < w2.heap.size := (Array.getElem?_eq_some_iff.1 W2.out).1
 have kT := block_cell T2.out
 have kQ := block_cell Q2.out
 by_cases c1 : tp = y4
 case neg =>
  have t1 : (tp != y4) = true := by simp [c1]
  have HF : Hid (rqe pr tp zo.length zd = 12) := by show _ = _; rw [HE.out, if_pos (fun e => c1 e.symm)]
  have HNZ : Hid ((12 : Int) ≠ 0) := by show _ ≠ _; decide
  have kR := block_cell R2.out
  have fR := block_frozen R2.out
  clear c1
  go_upto_region 4 with fail
  go_wp2_with fail
  generalize hV : (((((((((w2.setCell ⟨w.heap.size + 1 + 1, 0, none⟩ _).setCell ⟨w.heap.size + 1 + 1, 1, none⟩ _).setCell ⟨w.heap.size + 1 + 1, 2, none⟩ _).setCell ⟨w.heap.size + 1 + 1, 3, none⟩ _).setCell ⟨w.heap.size + 1 + 1, 4, none⟩ _).setCell ⟨w.heap.size + 1 + 1, 5, none⟩ _).setCell ⟨w.heap.size + 1 + 1, 6, none⟩ _).setCell ⟨w.heap.size + 1 + 1, 7, none⟩ _).setCell ⟨w.heap.size + 1 + 1, 8, none⟩ _) = V8; have hV9 : V8 = putRow w2 (w.heap.size + 1 + 1) 0 zpk := hV.symm; have hb8 : But (fun b => b = w.heap.size + 1 + 1) w2 V8 := by { rw [hV9]; exact putRow_but (E := fun b => b = w.heap.size + 1 + 1) (n := w.heap.size + 1 + 1) rfl _ _ _ _ (But.refl _ _) }; have p8 := putRow_all zpk R2.out rfl; rw [← hV9] at p8; clear hV hV9; have P8 := block_cell p8; have hw8 : Below w.heap.size w V8 := (hw2).trans (hb8.below (hw2).size (fun k h e => by omega)); exact bodyPost_ret (v := .tuple #[.agg zpk.toArray, .int .i64 12]) (by simp [results, Tryz.results6, go_sem, P8, zpk]) rfl ⟨hw8, .inl ⟨by rw [HF.out]; exact HNZ.out, by rw [HF.out]⟩⟩
 subst c1
 have t1 : (tp != tp) = false := by simp
 have HFL : Hid (rqe pr tp zo.length zd = flt zo.length (8 + (zd.drop 8).length)) := by show _ = _; rw [HE.out, if_neg (by simp)]
 clear HE
 have kP := block_cell P2.out
 go_upto_region 6 with fail
 go_wp2_with fail
 refine (rparseIcmp_any tos id ttl pr src dst keep _ _ zd w2 hBd ((hId.below hw2).mono hw2.size) hl).mono ?_
 rintro e w3 ⟨hb3, ⟨hff, rfl⟩ | ⟨hff, a3, c3, rfl, hO3⟩⟩
 ·exact absurd hpi hff
 have hlen : zd.length - 8 = (zd.drop 8).length := by rw [List.length_drop]
 rw [hlen] at hO3 ⊢
 clear hlen kP kT kQ hff t1
 have l3 : Later w2 w3 := hb3
 have HTY := hide (Mt.By.at hBd 0)
 have HCO := hide (Mt.By.at hBd 1)
 have HRE := hide (wat4_bd9 hBd 4)
 obtain ⟨ty, E1⟩ : ∃ x, Hid (zd[0]?.getD 0 = x) := ⟨zd[0]?.getD 0, hide rfl⟩
 obtain ⟨cde, E2⟩ : ∃ x, Hid (zd[1]?.getD 0 = x) := ⟨zd[1]?.getD 0, hide rfl⟩
 obtain ⟨rs, E3⟩ : ∃ x, Hid (wat4 zd 4 = x) := ⟨_, rfl⟩
 rw [E1.out] at HTY ⊢
 rw [E2.out] at HCO ⊢
 rw [E3.out] at HRE ⊢
 have hmz : (zd.drop 8).length ≤ 1099511627776 := by rw [List.length_drop]; omega
 generalize h4 : zd.drop 8 = mz at *
 have E4 := hide h4
 clear h4
 have lM := later_alloc' w3 (.cells #[.int .u8 ty, .int .u8 cde, .int .u32 rs, .slice a3 mz.length c3] 42)
 have M4 := hide (heap_alloc_new w3 (.cells #[.int .u8 ty, .int .u8 cde, .int .u32 rs, .slice a3 mz.length c3] 42))
 have l4 := l3.trans lM
 have P4 := hide (later_keep l4 P2.out)
 have T4 := hide (later_keep l4 T2.out)
 have R4 := hide (later_keep l4 R2.out)
 have Q4 := hide (later_keep l4 Q2.out)
 have W4 := hide (later_keep l4 W2.out)
 have O4 := hide (hO3.later lM)
 have hw4 := Later.below hw2 (Nat.le_refl _) l4
 have hgm3 : gq + 1 < w3.heap.size := Nat.lt_of_lt_of_le hs2 l3.size
 clear hO3 P2 T2 R2 Q2 W2 lM l4 hb3 l3 hw2
 go_upto_region 7 with fail
 generalize w3.alloc _ = w4 at *
 generalize w3.heap.size = gm at *
 have HRQ : Hid (rqt (qun mz s d a b) mz = rnm s d (mz.take (hl4 mz).toNat) ++ (qsD tp ⟨tp, xs, xd, xa, xb, tp, s, d, a, b⟩ (qdt mz) ++ mz.drop (ral true mz).toNat)) := by show _ = _; rw [HU.out]; rfl
 have HQD : Hid (qdt mz = (mz.take (ral true mz).toNat).drop (hl4 mz).toNat) := hide rfl
 have HRL : Hid ((rqt (qun mz s d a b) mz).length = mz.length) := rqt_length hBm hrd
 have HRB : Hid (Mt.By (rqt (qun mz s d a b) mz)) := by
  refine ((rnm_by (hBm.take _) hs hd).append ((qsD_by (By_qdt hBm) ?_).append (hBm.drop _)))
  exact ⟨hs, hd, ha, hb⟩
 have HBQ := hide (By_qdt hBm)
 clear hrd hpi HO
 generalize (hl4 mz).toNat = hh at *
 generalize (ral true mz).toNat = he at *
 have hm7' : (20 : Int) + (m7 : Int) = (hh : Int) := by have := HM7.out; have := HFF.out; omega
 have hm8' : (hh : Int) + (m8 : Int) = (he : Int) := by have := HM8.out; have := HL8.out; have := HFF.out; omega
 have HK := hide O4.out.slice
 have hc3 : mz.length ≤ c3 := by obtain ⟨_, _, e, h1, _⟩ := HK.out; cases e; exact h1
 have hhc : hh ≤ c3 := by have := HFF.out; omega
 have hhs : hh ≤ 9223372036854775807 := by have := HFF.out; omega
 have hes : he ≤ 9223372036854775807 := by have := HFF.out; omega
 clear HK
 have kQ := block_cell Q4.out
 go_upto_region 8 with fail
 clear kQ
 obtain ⟨bs, HBS⟩ : ∃ n, Hid (w4.heap.size = n) := ⟨_, rfl⟩
 have hgmb : gm < bs := by rw [← HBS.out]; exact (Array.getElem?_eq_some_iff.1 M4.out).1
 have hwb : w.heap.size + 1 + 1 < bs := by rw [← HBS.out]; exact (Array.getElem?_eq_some_iff.1 R4.out).1
 refine anyT_begin (R := Later) 11 rfl (by kernel_rfl) ?_
 have hdr : Later w4 w4.drew := Later.drew w4
 have O5 := hide (O4.out.later hdr)
 have b5 : Below bs w4 w4.drew := by rw [← HBS.out]; exact hdr
 generalize w4.drew = w5 at *
 have qM : ∀ v1, Later w5 v1 → ∀ i, v1.cell? ⟨gm, i, none⟩ = #[Value.int .u8 ty, .int .u8 cde, .int .u32 rs, .slice a3 mz.length c3][i]? := fun v1 h => block_cell (later_keep (hdr.trans h) M4.out)
 have qT : ∀ v1, Later w5 v1 → ∀ i, v1.cell? ⟨w.heap.size + 1, i, none⟩ = #[Value.int .u8 tp, .int .u32 s, .int .u32 d, .int .u16 a, .int .u16 b][i]? := fun v1 h => block_cell (later_keep (hdr.trans h) T4.out)
 refine anyT_val Later.pre 0 rfl (by kernel_rfl) (by kernel_rfl) (by kernel_rfl) (fun _ _ _ _ h => h) rfl ?_; apply Exists.intro; refine ⟨fun v1 hv1 => ?_, ?_⟩; (· (go_simp; rfl)); simp only [Act.put, sA, sB, sC]
 refine anyT_val Later.pre 1 rfl (by kernel_rfl) (by kernel_rfl) (by kernel_rfl) (fun _ _ _ _ h => h) rfl ?_; apply Exists.intro; refine ⟨fun v1 hv1 => ?_, ?_⟩; (· (go_simp; rfl)); simp only [Act.put, sA, sB, sC]
 refine anyT_val Later.pre 2 rfl (by kernel_rfl) (by kernel_rfl) (by kernel_rfl) (fun _ _ _ _ h => h) rfl ?_; apply Exists.intro; refine ⟨fun v1 hv1 => ?_, ?_⟩; (· (go_simp; rfl)); simp only [Act.put, sA, sB, sC]
 refine anyT_val Later.pre 3 rfl (by kernel_rfl) (by kernel_rfl) (by kernel_rfl) (fun _ _ _ _ h => h) rfl ?_; apply Exists.intro; refine ⟨fun v1 hv1 => ?_, ?_⟩; (· (go_simp; rfl)); simp only [Act.put, sA, sB, sC]
 refine anyT_val Later.pre 4 rfl (by kernel_rfl) (by kernel_rfl) (by kernel_rfl) (fun _ _ _ _ h => h) rfl ?_; apply Exists.intro; refine ⟨fun v1 hv1 => ?_, ?_⟩; (· (go_simp; rfl)); simp only [Act.put, sA, sB, sC]
 refine anyT_val Later.pre 5 rfl (by kernel_rfl) (by kernel_rfl) (by kernel_rfl) (fun _ _ _ _ h => h) rfl ?_; apply Exists.intro; refine ⟨fun v1 hv1 => ?_, ?_⟩; (· (go_simp; rfl)); simp only [Act.put, sA, sB, sC]
 refine anyT_val Later.pre 7 rfl (by kernel_rfl) (by kernel_rfl) (by kernel_rfl) (fun _ _ _ _ h => h) rfl ?_; apply Exists.intro; refine ⟨fun v1 hv1 => ?_, ?_⟩; (· (go_simp; rfl)); simp only [Act.put, sA, sB, sC]
 refine anyT_val Later.pre 8 rfl (by kernel_rfl) (by kernel_rfl) (by kernel_rfl) (fun _ _ _ _ h => h) rfl ?_; apply Exists.intro; refine ⟨fun v1 hv1 => ?_, ?_⟩; (· (go_simp; rfl)); simp only [Act.put, sA, sB, sC]
 clear qM qT
 have hth : (mz.take hh).length = hh := by have := HFF.out; rw [List.length_take]; omega
 have HTH := hide hth
 clear hth
 have hIt : Rd w5.heap.size w5 (.slice a3 hh c3) (mz.take hh) := O5.out.rd.take hh (by have := HFF.out; omega)
 have hBt : Mt.By (mz.take hh) := hBm.take hh
 have HTQ : Hid (mz.take hh = mz.take hh) := rfl
 have HRN : Hid (rnm s d (mz.take hh) = putAt2 (putAt2 (putAt4 (putAt4 (mz.take hh) 12 s) 16 d) 10 0) 10 (Mt.cks (putAt2 (putAt4 (putAt4 (mz.take hh) 12 s) 16 d) 10 0))) := rfl
 generalize mz.take hh = zt at *
 have hlt : zt.length ≤ 140737488355328 := by rw [HTH.out]; have := HFF.out; omega
 refine anyT_one 6 rfl (by kernel_rfl) rfl ?_
 refine wp_enter 21 #[.slice a3 hh c3, .int .i64 12, .int .u32 s] (by go_simp) ((rput32_any _ zt 12 s (by omega) hlt w5 hIt hs).mono ?_)
 rintro e w6 ⟨r6, rfl, O6, l6⟩
 refine ⟨l6, ?_⟩
 simp only [Act.put, sA, sB, sC]
 refine anyT_one 9 rfl (by kernel_rfl) rfl ?_
 refine wp_enter 21 #[r6, .int .i64 16, .int .u32 d] (by go_simp) ((rput32_any r6 (putAt4 zt 12 s) 16 d (by omega) (by rw [putAt4_length]; exact hlt) w6 O6.rd hd).mono ?_)
 rintro e w7 ⟨r7, rfl, O7, l7⟩
 refine ⟨l7, ?_⟩
 simp only [Act.put, sA, sB, sC]
 refine anyT_val Later.pre 10 rfl (by kernel_rfl) (by kernel_rfl) (by kernel_rfl) (fun _ _ _ _ h => h) rfl ?_; apply Exists.intro; refine ⟨fun v1 hv1 => ?_, ?_⟩; (· (go_simp; rfl)); simp only [Act.put, sA, sB, sC]
 refine anyT_done (by kernel_rfl) ?_
 have l57 : Later w5 w7 := Later.trans l6 l7
 have l47 : Later w4 w7 := hdr.trans l57
 have b7 : Below bs w4 w7 := by rw [← HBS.out]; exact l47
 have hs7 : bs ≤ w7.heap.size := by rw [← HBS.out]; exact l47.size
 have hB7 : Mt.By (putAt4 (putAt4 zt 12 s) 16 d) := By_putAt4 (By_putAt4 hBt 12 hs) 16 hd
 have hl7 : (putAt4 (putAt4 zt 12 s) 16 d).length = zt.length := by rw [putAt4_length, putAt4_length]
 have HL7 := hide hl7
 clear hl7 O6 l6 l7 l57 hdr O5 hIt b5 l47
 generalize putAt4 (putAt4 zt 12 s) 16 d = z7 at *
 go_wp2_with fail
 refine (rput16_any r7 z7 10 0 (by omega) (by rw [HL7.out]; exact hlt) w7 O7.rd (by omega)).mono ?_
 rintro e w8 ⟨r8, rfl, O8, l8⟩
 have hB8 : Mt.By (putAt2 z7 10 0) := By_putAt2 hB7 10 (by omega)
 have hl8 : (putAt2 z7 10 0).length = zt.length := by rw [putAt2_length]; exact HL7.out
 have HL9 := hide hl8
 clear hl8 O7 HL7 hB7
 generalize putAt2 z7 10 0 = z8 at *
 go_wp2_with fail
 refine (rsum_any r8 z8 hB8 (by rw [HL9.out, HTH.out]; have := HFF.out; omega) w8 O8.rd).mono ?_
 rintro e w9 ⟨rfl, l9⟩
 have hck := Mt.cks_bd z8
 go_wp2_with fail
 refine (rput16_row r8 z8 10 (Mt.cks z8) (by rw [HL9.out]; exact hlt) (by rw [HL9.out, HTH.out]; have := HFF.out; omega) w9 (O8.rd.later l9) hck).mono ?_
 rintro e w10 ⟨r10, rfl, hown, l10⟩
 have HR4 : Hid (rnm s d zt = Mt.put2 z8 10 (Mt.cks z8)) := by
  show _ = _
  rw [HRN.out, putAt2_lit z8 10 10 _ rfl (by rw [HL9.out, HTH.out]; have := HFF.out; omega)]
 have l710 : Later w7 w10 := Later.trans l8 (Later.trans l9 l10)
 have b10 : Below bs w4 w10 := b7.trans (l710.mono hs7)
 have hs10 : bs ≤ w10.heap.size := Nat.le_trans hs7 l710.size
 have HBA := hide (Below.size l10)
 have hs9 : bs ≤ w9.heap.size := Nat.le_trans hs7 (Later.trans l8 l9).size
 have hl10 : (Mt.put2 z8 10 (Mt.cks z8)).length = zt.length := by rw [Mt.put2_length]; exact HL9.out
 rw [show z8.length = (Mt.put2 z8 10 (Mt.cks z8)).length from (Mt.put2_length _ _ _).symm] at hown
 have HL10 := hide hl10
 have HOWN := hide hown
 clear hl10 hown O8 HL9 hB8 l8 l9 l10 l710 HRN hck
 generalize Mt.put2 z8 10 (Mt.cks z8) = z10 at *
 have hba0 : w9.heap.size ≤ w10.heap.size := HBA.out
 generalize w9.heap.size = ba at *
 go_upto_region 11 with fail
 refine anyT_begin (R := Below bs) 15 rfl (by kernel_rfl) ?_
 have hdr : Later w10 w10.drew := Later.drew w10
 have b11 : Below bs w4 w10.drew := b10.trans (hdr.mono hs10)
 have hs11 : bs ≤ w10.drew.heap.size := Nat.le_trans hs10 hdr.size
 have hba : ba ≤ w10.drew.heap.size := Nat.le_trans hba0 hdr.size
 have HOW := hide (show w10.drew.ownsRow ba 5 1 r10 z10.length (z10.map (Value.int .u8)) from HOWN.out)
 generalize w10.drew = w11 at *
 clear hdr HOWN b10 b7
 have HBL : Hid (∀ v1, Below bs w11 v1 → Below bs w4 v1) := fun v1 h => b11.trans h
 have qM : ∀ v1, Below bs w11 v1 → ∀ i, v1.cell? ⟨gm, i, none⟩ = #[Value.int .u8 ty, .int .u8 cde, .int .u32 rs, .slice a3 mz.length c3][i]? := fun v1 h => block_cell (((HBL.out v1 h).block gm hgmb).trans M4.out)
 have qT : ∀ v1, Below bs w11 v1 → ∀ i, v1.cell? ⟨w.heap.size + 1, i, none⟩ = #[Value.int .u8 tp, .int .u32 s, .int .u32 d, .int .u16 a, .int .u16 b][i]? := fun v1 h => block_cell (((HBL.out v1 h).block (w.heap.size + 1) (by omega)).trans T4.out)
 have qQ : ∀ v1, Below bs w11 v1 → ∀ i, v1.cell? ⟨gq, i, none⟩ = #[Value.int .u8 y0, .int .u16 y1, .bool y2, .int .u8 y3, .int .u8 tp, .int .u32 y5, .int .u32 y6, .slice y7 m7 d7, .slice y8 m8 d8][i]? := fun v1 h => block_cell (((HBL.out v1 h).block gq (by omega)).trans Q4.out)
 have qW : ∀ v1, Below bs w11 v1 → ∀ i, v1.cell? ⟨gq + 1, i, none⟩ = #[Value.int .u8 tp, .int .u32 xs, .int .u32 xd, .int .u16 xa, .int .u16 xb][i]? := fun v1 h => block_cell (((HBL.out v1 h).block (gq + 1) (by omega)).trans W4.out)
 have hhe : hh ≤ he := by have := HFF.out; omega
 have hec : he ≤ c3 := by have := HFF.out; omega
 have hwe : IntKind.i64.wrap (he : Int) = (he : Int) := by simp [IntKind.wrap, IntKind.bits, IntKind.signed]; omega
 refine anyT_val (⟨fun A => Below.refl _ _, fun A B C h k => h.trans k⟩ : Pre (Below bs)) 0 rfl (by kernel_rfl) (by kernel_rfl) (by kernel_rfl) (fun _ _ _ _ h => h) rfl ?_; apply Exists.intro; refine ⟨fun v1 hv1 => ?_, ?_⟩; (· (go_simp; rfl)); simp only [Act.put, sA, sB, sC]
 refine anyT_val (⟨fun A => Below.refl _ _, fun A B C h k => h.trans k⟩ : Pre (Below bs)) 1 rfl (by kernel_rfl) (by kernel_rfl) (by kernel_rfl) (fun _ _ _ _ h => h) rfl ?_; apply Exists.intro; refine ⟨fun v1 hv1 => ?_, ?_⟩; (· (go_simp; rfl)); simp only [Act.put, sA, sB, sC]
 refine anyT_val (⟨fun A => Below.refl _ _, fun A B C h k => h.trans k⟩ : Pre (Below bs)) 2 rfl (by kernel_rfl) (by kernel_rfl) (by kernel_rfl) (fun _ _ _ _ h => h) rfl ?_; apply Exists.intro; refine ⟨fun v1 hv1 => ?_, ?_⟩; (· (go_simp; rfl)); simp only [Act.put, sA, sB, sC]
 refine anyT_val (⟨fun A => Below.refl _ _, fun A B C h k => h.trans k⟩ : Pre (Below bs)) 3 rfl (by kernel_rfl) (by kernel_rfl) (by kernel_rfl) (fun _ _ _ _ h => h) rfl ?_; apply Exists.intro; refine ⟨fun v1 hv1 => ?_, ?_⟩; (· (go_simp; rfl)); simp only [Act.put, sA, sB, sC]
 refine anyT_val (⟨fun A => Below.refl _ _, fun A B C h k => h.trans k⟩ : Pre (Below bs)) 4 rfl (by kernel_rfl) (by kernel_rfl) (by kernel_rfl) (fun _ _ _ _ h => h) rfl ?_; apply Exists.intro; refine ⟨fun v1 hv1 => ?_, ?_⟩; (· (go_simp; rfl)); simp only [Act.put, sA, sB, sC]
 refine anyT_val (⟨fun A => Below.refl _ _, fun A B C h k => h.trans k⟩ : Pre (Below bs)) 5 rfl (by kernel_rfl) (by kernel_rfl) (by kernel_rfl) (fun _ _ _ _ h => h) rfl ?_; apply Exists.intro; refine ⟨fun v1 hv1 => ?_, ?_⟩; (· (go_simp; rfl)); simp only [Act.put, sA, sB, sC]
 refine anyT_val (⟨fun A => Below.refl _ _, fun A B C h k => h.trans k⟩ : Pre (Below bs)) 6 rfl (by kernel_rfl) (by kernel_rfl) (by kernel_rfl) (fun _ _ _ _ h => h) rfl ?_; apply Exists.intro; refine ⟨fun v1 hv1 => ?_, ?_⟩; (· (go_simp; rfl)); simp only [Act.put, sA, sB, sC]
 refine anyT_val (⟨fun A => Below.refl _ _, fun A B C h k => h.trans k⟩ : Pre (Below bs)) 7 rfl (by kernel_rfl) (by kernel_rfl) (by kernel_rfl) (fun _ _ _ _ h => h) rfl ?_; apply Exists.intro; refine ⟨fun v1 hv1 => ?_, ?_⟩; (· (go_simp; rfl)); simp only [Act.put, sA, sB, sC]
 refine anyT_val (⟨fun A => Below.refl _ _, fun A B C h k => h.trans k⟩ : Pre (Below bs)) 8 rfl (by kernel_rfl) (by kernel_rfl) (by kernel_rfl) (fun _ _ _ _ h => h) rfl ?_; apply Exists.intro; refine ⟨fun v1 hv1 => ?_, ?_⟩; (· (go_simp; rfl)); simp only [Act.put, sA, sB, sC]
 refine anyT_val (⟨fun A => Below.refl _ _, fun A B C h k => h.trans k⟩ : Pre (Below bs)) 9 rfl (by kernel_rfl) (by kernel_rfl) (by kernel_rfl) (fun _ _ _ _ h => h) rfl ?_; apply Exists.intro; refine ⟨fun v1 hv1 => ?_, ?_⟩; (· (go_simp; rfl)); simp only [Act.put, sA, sB, sC]
 refine anyT_val (⟨fun A => Below.refl _ _, fun A B C h k => h.trans k⟩ : Pre (Below bs)) 10 rfl (by kernel_rfl) (by kernel_rfl) (by kernel_rfl) (fun _ _ _ _ h => h) rfl ?_; apply Exists.intro; refine ⟨fun v1 hv1 => ?_, ?_⟩; (· (go_simp; rfl)); simp only [Act.put, sA, sB, sC]
 refine anyT_val (⟨fun A => Below.refl _ _, fun A B C h k => h.trans k⟩ : Pre (Below bs)) 11 rfl (by kernel_rfl) (by kernel_rfl) (by kernel_rfl) (fun _ _ _ _ h => h) rfl ?_; apply Exists.intro; refine ⟨fun v1 hv1 => ?_, ?_⟩; (· (go_simp; rfl)); simp only [Act.put, sA, sB, sC]
 clear qM qT qQ qW hwe
 have hIm : Rd w4.heap.size w4 (.slice a3 mz.length c3) mz := O4.out.rd
 have hI11 : Rd bs w11 (.slice a3 mz.length c3) mz := by rw [HBS.out] at hIm; exact hIm.below b11
 have R69 := hide (show Rd bs w11 (.slice (if c3 = hh then a3 else Option.map (fun x => x.add hh) a3) (he - hh) (c3 - hh)) ((mz.take he).drop hh) from by simpa [sliced] using Rd.drop hh hhe (hI11.take he (by have := HFF.out; omega)))
 rw [← HQD.out] at R69
 have hq8 : 8 ≤ (qdt mz).length := by rw [HL8.out]; have := HFF.out; omega
 have hql : (qdt mz).length ≤ 140737488355328 := by rw [HL8.out]; have := HFF.out; omega
 have HLQ : Hid ((qdt mz).length + hh = he) := by show _ = _; rw [HL8.out]; have := HFF.out; omega
 clear HL8
 generalize (if c3 = hh then a3 else Option.map (fun x => x.add hh) a3) = a69 at *
 generalize he - hh = n69 at *
 generalize c3 - hh = c69 at *
 refine anyT_one 12 rfl (by kernel_rfl) rfl ?_
 refine wp_enter 24 #[.slice a69 n69 c69, .agg #[.int .u8 tp, .int .u32 xs, .int .u32 xd, .int .u16 xa, .int .u16 xb], .agg #[.int .u8 tp, .int .u32 s, .int .u32 d, .int .u16 a, .int .u16 b]] (by go_simp) ((rin10_any tp xs xd xa xb s d a b (.slice a69 n69 c69) (qdt mz) w11 HBQ.out (R69.out.mono hs11) hql hq8 HX1.out HX2.out HX3.out HX4.out hs hd ha hb hok).mono ?_)
 rintro e w12 ⟨r12, rfl, O12, l12⟩
 refine ⟨l12.mono hs11, ?_⟩
 simp only [Act.put, sA, sB, sC]
 have hq12 : (qsD tp ⟨tp, xs, xd, xa, xb, tp, s, d, a, b⟩ (qdt mz)).length = (qdt mz).length := qsD_length _ _ _
 have HQ12 := hide hq12
 clear hq12
 generalize qsD tp ⟨tp, xs, xd, xa, xb, tp, s, d, a, b⟩ (qdt mz) = zq at *
 obtain ⟨v13, w13, hrun13, hown13, hgr13⟩ := run_app (P := Tryz.prog) w12 24 24 5 ba i0 Tryz.underlying24 hi hz0 hz1 hz2 r10 z10 (row_later9 HOW.out l12) w12.heap.size r12 zq O12.rd (by rw [HL10.out, HQ12.out, HTH.out]; have := HLQ.out; have := HFF.out; omega) (Nat.le_trans hba l12.size)
 have b13 : Below bs w12 w13 := below_app (Below.refl _ _) (row_later9 HOW.out l12) hgr13 hs9 (Nat.le_trans hs11 l12.size)
 refine anyT_one 13 rfl (by kernel_rfl) rfl ?_
 refine wp_app (.tmp 60) (.tmp 72) 24 rfl _ _ rfl rfl _ w13 hrun13 ⟨b13, ?_⟩
 simp only [Act.put, sA, sB, sC]
 have HOWN13 := hide hown13
 clear hown13 hgr13 hrun13 HOW O12
 refine anyT_val (⟨fun A => Below.refl _ _, fun A B C h k => h.trans k⟩ : Pre (Below bs)) 14 rfl (by kernel_rfl) (by kernel_rfl) (by kernel_rfl) (fun _ _ _ _ h => h) rfl ?_; apply Exists.intro; refine ⟨fun v1 hv1 => ?_, ?_⟩; (· (go_simp; rfl)); simp only [Act.put, sA, sB, sC]
 refine anyT_done (by kernel_rfl) ?_
 have c13 : Below bs w4 w13 := b11.trans ((l12.mono hs11).trans b13)
 have hs13 : bs ≤ w13.heap.size := Nat.le_trans hs11 (Nat.le_trans l12.size b13.size)
 have hba13 : ba ≤ w13.heap.size := Nat.le_trans hba (Nat.le_trans l12.size b13.size)
 clear b13 l12 b11 hba hba0 HBA
 have hl13 : (z10 ++ zq).length = he := by rw [List.length_append, HL10.out, HQ12.out, HTH.out]; have := HLQ.out; omega
 have HL13 := hide hl13
 clear hl13
 have HRQ2 : Hid (rqt (qun mz s d a b) mz = (z10 ++ zq) ++ mz.drop he) := by show _ = _; rw [HRQ.out, HR4.out, List.append_assoc]
 generalize z10 ++ zq = z13 at *
 have M13 := hide ((c13.block gm hgmb).trans M4.out)
 have Q13 := hide ((c13.block gq (by omega)).trans Q4.out)
 have P13 := hide ((c13.block w.heap.size (by omega)).trans P4.out)
 have R13 := hide ((c13.block (w.heap.size + 1 + 1) hwb).trans R4.out)
 have hw13 : Below w.heap.size w w13 := hw4.trans (c13.mono (by omega))
 have hI13 : Rd bs w13 (.slice a3 mz.length c3) mz := by rw [HBS.out] at hIm; exact hIm.below c13
 have hem : he ≤ mz.length := by have := HFF.out; omega
 have R82 := hide (show Rd bs w13 (.slice (if c3 = he then a3 else Option.map (fun x => x.add he) a3) (mz.length - he) (c3 - he)) (mz.drop he) from by simpa [sliced] using Rd.drop he hem hI13)
 obtain ⟨a82, HA82⟩ : ∃ x, Hid ((if c3 = he then a3 else Option.map (fun x => x.add he) a3) = x) := ⟨_, rfl⟩
 rw [HA82.out] at R82
 have kM := block_cell M13.out
 have kQ := block_cell Q13.out
 have hld : (mz.drop he).length = mz.length - he := by rw [List.length_drop]
 have HLD := hide hld
 clear hld M4 Q4 P4 R4 T4 W4 O4 hI11 hI13 hIm
 have hwe : IntKind.i64.wrap (he : Int) = (he : Int) := by simp [IntKind.wrap, IntKind.bits, IntKind.signed]; omega
 go_upto_region 12 with fail
 go_wp2_with (first | (refine wpList_valD 82 rfl rfl (.slice a82 (mz.length - he) (c3 - he)) (by rw [← HA82.out]; go_simp; try (split <;> first | rfl | (intro _; omega))) ?_) | (at_builtin; refine wpList_app _ rfl (.tmp 74) (.tmp 82) 24 rfl ba 5 i0 Tryz.underlying24 hi hz0 hz1 hz2 _ z13 rfl HOWN13.out bs _ (mz.drop he) rfl R82.out (by rw [HL13.out, HLD.out]; omega) hba13 ?_; intro v14 w14 hown14 hg14; refine Hid.out ?_))
 clear kM kQ hwe
 have b14 : Below bs w13 w14 := below_app (Below.refl _ _) HOWN13.out hg14 hs9 hs13
 have M14 := hide ((b14.block gm hgmb).trans M13.out)
 have P14 := hide ((b14.block w.heap.size (by omega)).trans P13.out)
 have R14 := hide ((b14.block (w.heap.size + 1 + 1) hwb).trans R13.out)
 have hw14 : Below w.heap.size w w14 := hw13.trans (b14.mono (by omega))
 have hs14 : bs ≤ w14.heap.size := Nat.le_trans hs13 b14.size
 have O14 := Ow.of_row hown14
 rw [← HRQ2.out] at O14
 obtain ⟨x14, c14, rfl, _, _⟩ := O14.slice
 rw [HRL.out] at O14 ⊢
 clear hown14 hg14 b14 HOWN13 M13 P13 R13 Q13 hw13 R82 HA82 HRQ2 HRQ HR4 c13
 generalize h5 : rqt (qun mz s d a b) mz = rz at *
 have E5 := hide h5
 clear h5
 have kM := block_cell M14.out
 have fM := block_frozen M14.out
 have M15 := hide (heap_set1 M14.out 3 (.slice x14 mz.length c14))
 have bM : But (fun q => q = gm) w14 (w14.setCell ⟨gm, 3, none⟩ (.slice x14 mz.length c14)) := But.setCell (E := fun q => q = gm) (But.refl _ _) (p := ⟨gm, 3, none⟩) rfl _
 show wpList _ _ _ _ _ _
 go_upto_region 13 with fail
 clear kM fM
 generalize w14.setCell ⟨gm, 3, none⟩ _ = w15 at *
 have M15' : Hid (w15.heap[gm]? = some (.cells #[.int .u8 ty, .int .u8 cde, .int .u32 rs, .slice x14 mz.length c14] 42)) := by have := M15.out; simp at this; exact this
 have P15 := hide ((bM.block w.heap.size (Array.getElem?_eq_some_iff.1 P14.out).1 (by omega)).trans P14.out)
 have R15 := hide ((bM.block (w.heap.size + 1 + 1) (Array.getElem?_eq_some_iff.1 R14.out).1 (by omega)).trans R14.out)
 have O15 := hide (Ow.aside O14 M14.out (by decide) bM)
 have hw15 : Below w.heap.size w w15 := hw14.trans (bM.below hw14.size (fun k hk e => by omega))
 have hs15 : bs ≤ w15.heap.size := Nat.le_trans hs14 bM.size
 clear M14 P14 R14 O14 hw14 bM M15 hs14
 have kP := block_cell P15.out
 have la := later_alloc' w15 (.cells #[.int .u8 tos, .int .u16 id, .bool keep, .int .u8 ttl, .int .u8 pr, .int .u32 src, .int .u32 dst, .slice ao zo.length co, .slice ad zd.length cd] 26)
 have G16 := hide (heap_alloc_new w15 (.cells #[.int .u8 tos, .int .u16 id, .bool keep, .int .u8 ttl, .int .u8 pr, .int .u32 src, .int .u32 dst, .slice ao zo.length co, .slice ad zd.length cd] 26))
 have M16 := hide (later_keep la M15'.out)
 have R16 := hide (later_keep la R15.out)
 have O16 := hide (O15.out.later la)
 have hw16 := Later.below hw15 (Nat.le_refl _) la
 go_upto_region 14 with fail
 clear kP
 generalize w15.alloc _ = w16 at *
 generalize hgr : w15.heap.size = gr at *
 clear hgr la M15' P15 R15 O15 hw15
 have kG := block_cell G16.out
 have fG := block_frozen G16.out
 have G17 := hide (heap_set1 (heap_set1 G16.out 5 (.int .u32 ns)) 6 (.int .u32 nd))
 have bG : But (fun q => q = gr) w16 ((w16.setCell ⟨gr, 5, none⟩ (.int .u32 ns)).setCell ⟨gr, 6, none⟩ (.int .u32 nd)) := But.setCell (E := fun q => q = gr) (But.setCell (E := fun q => q = gr) (But.refl _ _) (p := ⟨gr, 5, none⟩) rfl _) (p := ⟨gr, 6, none⟩) rfl _
 go_upto_region 15 with fail
 clear kG fG
 generalize (w16.setCell ⟨gr, 5, none⟩ _).setCell ⟨gr, 6, none⟩ _ = w17 at *
 have G17' : Hid (w17.heap[gr]? = some (.cells #[.int .u8 tos, .int .u16 id, .bool keep, .int .u8 ttl, .int .u8 pr, .int .u32 ns, .int .u32 nd, .slice ao zo.length co, .slice ad zd.length cd] 26)) := by have := G17.out; simp at this; exact this
 have M17 := hide ((bG.block gm (Array.getElem?_eq_some_iff.1 M16.out).1 (by omega)).trans M16.out)
 have R17 := hide ((bG.block (w.heap.size + 1 + 1) (Array.getElem?_eq_some_iff.1 R16.out).1 (by omega)).trans R16.out)
 have O17 := hide (Ow.aside O16.out G16.out (by decide) bG)
 have hw17 : Below w.heap.size w w17 := hw16.trans (bG.below hw16.size (fun k hk e => by omega))
 clear G16 G17 M16 R16 O16 hw16 bG
 have kG := block_cell G17'.out
 have kM := block_cell M17.out
 obtain ⟨fl, HFF2⟩ : ∃ f, Hid (flt zo.length (8 + mz.length) = f) := ⟨_, rfl⟩
 have H8 := hide (rbuildIcmp_any tos id ttl pr ns nd ty cde rs keep (.slice ao zo.length co) (.slice x14 mz.length c14) ad zd.length cd zo rz w17 ((hIo.below hw17).mono hw17.size) HRB.out O17.out.rd hlo (by rw [HRL.out]; omega) HTY.out HCO.out HRE.out)
 rw [HRL.out, HFF2.out] at H8
 go_wp2_with fail
 refine H8.out.mono ?_
 rintro e w18 ⟨hb8', ⟨hf8, rfl⟩ | ⟨hf8, a8, c8, a9, c9, rfl, Oo, Od⟩⟩
 ·have HF : Hid (rqe pr tp zo.length zd = fl) := by show _ = _; rw [HFL.out, HFF2.out]
  have HNZ : Hid (fl ≠ 0) := hf8
  have l8 : Later w17 w18 := hb8'
  have t8 : (fl == 0) = false := by simp [hf8]
  have G18 := hide (later_keep l8 G17'.out)
  have R18 := hide (later_keep l8 R17.out)
  have hw18 : Below w.heap.size w w18 := Later.below hw17 (Nat.le_refl _) l8
  clear kG kM H8 hf8 G17' M17 R17 O17 hw17 hb8' l8
  have kG := block_cell G18.out
  have fG := block_frozen G18.out
  go_upto_region 16 with fail
  clear kG fG
  generalize hV : (((((((((w18.setCell ⟨gr, 0, none⟩ _).setCell ⟨gr, 1, none⟩ _).setCell ⟨gr, 2, none⟩ _).setCell ⟨gr, 3, none⟩ _).setCell ⟨gr, 4, none⟩ _).setCell ⟨gr, 5, none⟩ _).setCell ⟨gr, 6, none⟩ _).setCell ⟨gr, 7, none⟩ _).setCell ⟨gr, 8, none⟩ _) = V1
  have hV9 : V1 = putRow w18 gr 0 zpk := hV.symm
  have bV : But (fun q => q = gr) w18 V1 := by rw [hV9]; exact putRow_but (E := fun q => q = gr) (n := gr) rfl _ _ _ _ (But.refl _ _)
  have pV := putRow_all zpk G18.out rfl
  rw [← hV9, show zpk.toArray = #[.int .u8 0, .int .u16 0, .bool false, .int .u8 0, .int .u8 0, .int .u32 0, .int .u32 0, .slice none 0 0, .slice none 0 0] from rfl] at pV
  clear hV hV9
  have R19 := hide ((bV.block (w.heap.size + 1 + 1) (Array.getElem?_eq_some_iff.1 R18.out).1 (by omega)).trans R18.out)
  have hw19 : Below w.heap.size w V1 := hw18.trans (bV.below hw18.size (fun k hk e => by omega))
  clear G18 R18 hw18 bV
  have kG := block_cell pV
  have kR := block_cell R19.out
  have fR := block_frozen R19.out
  go_wp2_with fail
  generalize hV : (((((((((V1.setCell ⟨w.heap.size + 1 + 1, 0, none⟩ _).setCell ⟨w.heap.size + 1 + 1, 1, none⟩ _).setCell ⟨w.heap.size + 1 + 1, 2, none⟩ _).setCell ⟨w.heap.size + 1 + 1, 3, none⟩ _).setCell ⟨w.heap.size + 1 + 1, 4, none⟩ _).setCell ⟨w.heap.size + 1 + 1, 5, none⟩ _).setCell ⟨w.heap.size + 1 + 1, 6, none⟩ _).setCell ⟨w.heap.size + 1 + 1, 7, none⟩ _).setCell ⟨w.heap.size + 1 + 1, 8, none⟩ _) = V8; have hV9 : V8 = putRow V1 (w.heap.size + 1 + 1) 0 zpk := hV.symm; have hb8 : But (fun b => b = w.heap.size + 1 + 1) V1 V8 := by { rw [hV9]; exact putRow_but (E := fun b => b = w.heap.size + 1 + 1) (n := w.heap.size + 1 + 1) rfl _ _ _ _ (But.refl _ _) }; have p8 := putRow_all zpk R19.out rfl; rw [← hV9] at p8; clear hV hV9; have P8 := block_cell p8; have hw8 : Below w.heap.size w V8 := (hw19).trans (hb8.below (hw19).size (fun k h e => by omega)); exact bodyPost_ret (v := .tuple #[.agg zpk.toArray, .int .i64 fl]) (by simp [results, Tryz.results6, go_sem, P8, zpk]) rfl ⟨hw8, .inl ⟨by rw [HF.out]; exact HNZ.out, by rw [HF.out]⟩⟩
 ·subst hf8
  have HF : Hid (rqe pr tp zo.length zd = 0) := by show _ = _; rw [HFL.out, HFF2.out]
  have l8 : Later w17 w18 := hb8'
  have G18 := hide (later_keep l8 G17'.out)
  have R18 := hide (later_keep l8 R17.out)
  have hw18 : Below w.heap.size w w18 := Later.below hw17 (Nat.le_refl _) l8
  have OO := hide (Oo.mono hw17.size)
  have OD := hide (Od.mono hw17.size)
  clear kG kM H8 G17' M17 R17 O17 hb8' l8 Oo Od
  have kG := block_cell G18.out
  have fG := block_frozen G18.out
  go_upto_region 16 with fail
  clear kG fG
  generalize hV : (((((((((w18.setCell ⟨gr, 0, none⟩ _).setCell ⟨gr, 1, none⟩ _).setCell ⟨gr, 2, none⟩ _).setCell ⟨gr, 3, none⟩ _).setCell ⟨gr, 4, none⟩ _).setCell ⟨gr, 5, none⟩ _).setCell ⟨gr, 6, none⟩ _).setCell ⟨gr, 7, none⟩ _).setCell ⟨gr, 8, none⟩ _) = V1
  have hV9 : V1 = putRow w18 gr 0 [.int .u8 tos, .int .u16 id, .bool keep, .int .u8 ttl, .int .u8 1, .int .u32 ns, .int .u32 nd, .slice a8 zo.length c8, .slice a9 (8 + mz.length) c9] := hV.symm
  have bV : But (fun q => q = gr) w18 V1 := by rw [hV9]; exact putRow_but (E := fun q => q = gr) (n := gr) rfl _ _ _ _ (But.refl _ _)
  have pV := putRow_all [.int .u8 tos, .int .u16 id, .bool keep, .int .u8 ttl, .int .u8 1, .int .u32 ns, .int .u32 nd, .slice a8 zo.length c8, .slice a9 (8 + mz.length) c9] G18.out rfl
  rw [← hV9] at pV
  clear hV hV9
  have R19 := hide ((bV.block (w.heap.size + 1 + 1) (Array.getElem?_eq_some_iff.1 R18.out).1 (by omega)).trans R18.out)
  have OO19 := hide (Ow.aside OO.out G18.out (by decide) bV)
  have OD19 := hide (Ow.aside OD.out G18.out (by decide) bV)
  have hw19 : Below w.heap.size w V1 := hw18.trans (bV.below hw18.size (fun k hk e => by omega))
  clear G18 R18 hw18 bV OO OD hw17
  have hmz2 : 8 + mz.length ≤ 140737488355328 := by omega
  have HRT := hide (rright_any tos id ttl 1 ns nd keep a8 a9 zo.length c8 (8 + mz.length) c9 V1 hlo hmz2)
  rw [HFF2.out] at HRT
  simp only [show ((0 : Int) == 0) = true from rfl] at HRT
  have kG := block_cell pV
  go_wp2_with fail
  refine HRT.out.mono ?_
  rintro e w20 ⟨rfl, l20⟩
  have l20' : Later V1 w20 := l20
  have R20 := hide (later_keep l20' R19.out)
  have G20 := hide (later_keep l20' pV)
  have OO20 := hide (OO19.out.later l20')
  have OD20 := hide (OD19.out.later l20')
  have hw20 : Below w.heap.size w w20 := Later.below hw19 (Nat.le_refl _) l20'
  clear kG HRT R19 pV OO19 OD19 l20 l20' hw19
  have kG := block_cell G20.out
  have kR := block_cell R20.out
  have fR := block_frozen R20.out
  go_wp2_with fail
  generalize hV : (((((((((w20.setCell ⟨w.heap.size + 1 + 1, 0, none⟩ _).setCell ⟨w.heap.size + 1 + 1, 1, none⟩ _).setCell ⟨w.heap.size + 1 + 1, 2, none⟩ _).setCell ⟨w.heap.size + 1 + 1, 3, none⟩ _).setCell ⟨w.heap.size + 1 + 1, 4, none⟩ _).setCell ⟨w.heap.size + 1 + 1, 5, none⟩ _).setCell ⟨w.heap.size + 1 + 1, 6, none⟩ _).setCell ⟨w.heap.size + 1 + 1, 7, none⟩ _).setCell ⟨w.heap.size + 1 + 1, 8, none⟩ _) = V8
  have hV9 : V8 = putRow w20 (w.heap.size + 1 + 1) 0 [.int .u8 tos, .int .u16 id, .bool keep, .int .u8 ttl, .int .u8 1, .int .u32 ns, .int .u32 nd, .slice a8 zo.length c8, .slice a9 (8 + mz.length) c9] := hV.symm
  have hb8 : But (fun b => b = w.heap.size + 1 + 1) w20 V8 := by rw [hV9]; exact putRow_but (E := fun b => b = w.heap.size + 1 + 1) (n := w.heap.size + 1 + 1) rfl _ _ _ _ (But.refl _ _)
  have p8 := putRow_all [.int .u8 tos, .int .u16 id, .bool keep, .int .u8 ttl, .int .u8 1, .int .u32 ns, .int .u32 nd, .slice a8 zo.length c8, .slice a9 (8 + mz.length) c9] R20.out rfl
  rw [← hV9] at p8
  clear hV hV9 kG kR fR
  have P8 := block_cell p8
  rw [← E5.out, ← E1.out, ← E2.out, ← E3.out, ← E4.out] at OD20
  rw [← E4.out] at P8
  have hw8 : Below w.heap.size w V8 := hw20.trans (hb8.below hw20.size (fun k h e => by omega))
  exact bodyPost_ret (v := .tuple #[.agg #[.int .u8 tos, .int .u16 id, .bool keep, .int .u8 ttl, .int .u8 1, .int .u32 ns, .int .u32 nd, .slice a8 zo.length c8, .slice a9 (8 + (zd.drop 8).length) c9], .int .i64 0]) (by simp only [E4.out] at P8 ⊢; simp [results, Tryz.results6, go_sem, P8]) rfl ⟨hw8, .inr ⟨HF.out, a8, c8, a9, c9, rfl, Ow.aside OO20.out R20.out (by decide) hb8, Ow.aside OD20.out R20.out (by decide) hb8⟩⟩
end Go.Proofs.YtghpakfjpdifaaaGreatDoor

/- What Parse answers of what was built: messages and frames. -/
namespace Go.Proofs.YtghpakfjpdifaaaGreatDoor
open Go.RowKit Go.Shelf
set_option maxRecDepth 100000
set_option linter.unusedVariables false
set_option linter.unusedSimpArgs false

end Go.Proofs.YtghpakfjpdifaaaGreatDoor

/- The walk of MangleTells. -/
namespace Go.Proofs.YtghpakfjpdifaaaGreatDoor
open Go.RowKit Go.Shelf
set_option maxRecDepth 100000
set_option linter.unusedVariables false
set_option linter.unusedSimpArgs false

end Go.Proofs.YtghpakfjpdifaaaGreatDoor

/- The walk of MangleQuotes. -/
namespace Go.Proofs.YtghpakfjpdifaaaGreatDoor
open Go.RowKit Go.Shelf
set_option maxRecDepth 100000
set_option linter.unusedVariables false
set_option linter.unusedSimpArgs false

theorem smP_self9 (a b c d e f : Int) (k : Bool) (x y : List Int) : smP a b c d e f a b c d e f k k x y x y = true := by simp [smP]

set_option maxHeartbeats 16000000 in
theorem walk_MangleQuotes (w : World) (hT : Tb w) (tos id ttl pr src dst : Int) (keep : Bool) (so sd : Value) (zo zd : List Int) (hBo : Mt.By zo) (hBd : Mt.By zd) (hIo : Rd w.heap.size w so zo) (hId : Rd w.heap.size w sd zd) (hlo : zo.length ≤ 140737488355328) (hld : zd.length ≤ 140737488355328)
  (ht : 0 ≤ tos ∧ tos ≤ 255) (hid : 0 ≤ id ∧ id ≤ 65535) (htt : 0 ≤ ttl ∧ ttl ≤ 255) (hpr : 0 ≤ pr ∧ pr ≤ 255) (hsr : 0 ≤ src ∧ src ≤ 4294967295) (hds : 0 ≤ dst ∧ dst ≤ 4294967295)
  (ns nd : Int) (hns : 0 ≤ ns ∧ ns ≤ 4294967295) (hnd : 0 ≤ nd ∧ nd ≤ 4294967295)
  (tp s d a b : Int) (htp : 0 ≤ tp ∧ tp ≤ 255) (hs : 0 ≤ s ∧ s ≤ 4294967295) (hd : 0 ≤ d ∧ d ≤ 4294967295) (ha : 0 ≤ a ∧ a ≤ 65535) (hb : 0 ≤ b ∧ b ≤ 65535) (hsm : zd.length ≤ 1048576) :
  Calls Tryz.prog 3 #[.agg #[.int .u8 tos, .int .u16 id, .bool keep, .int .u8 ttl, .int .u8 pr, .int .u32 src, .int .u32 dst, so, sd], .agg #[.int .u32 ns, .int .u32 nd], .agg #[.int .u8 tp, .int .u32 s, .int .u32 d, .int .u16 a, .int .u16 b]] w fun e w' => e = .returned (.bool true) ∧ Below w.heap.size w w' := by
 obtain ⟨ao, co, rfl, hlo1, hmo1⟩ := hIo.slice
 obtain ⟨ad, cd, rfl, hl1, hm1⟩ := hId.slice
 have hb0 : Below w.heap.size w (((w.alloc (.cells #[.int .u8 tos, .int .u16 id, .bool keep, .int .u8 ttl, .int .u8 pr, .int .u32 src, .int .u32 dst, .slice ao zo.length co, .slice ad zd.length cd] 26)).alloc (.cells #[.int .u32 ns, .int .u32 nd] 27)).alloc (.cells #[.int .u8 tp, .int .u32 s, .int .u32 d, .int .u16 a, .int .u16 b] 29)) := (((Below.refl _ _).alloc (Nat.le_refl _) _).alloc (by simp) _).alloc (by simp <;> omega) _
 have p0 : (((w.alloc (.cells #[.int .u8 tos, .int .u16 id, .bool keep, .int .u8 ttl, .int .u8 pr, .int .u32 src, .int .u32 dst, .slice ao zo.length co, .slice ad zd.length cd] 26)).alloc (.cells #[.int .u32 ns, .int .u32 nd] 27)).alloc (.cells #[.int .u8 tp, .int .u32 s, .int .u32 d, .int .u16 a, .int .u16 b] 29)).heap[w.heap.size]? = some (.cells #[.int .u8 tos, .int .u16 id, .bool keep, .int .u8 ttl, .int .u8 pr, .int .u32 src, .int .u32 dst, .slice ao zo.length co, .slice ad zd.length cd] 26) := (Below.heap_alloc _ _ _ (by simp <;> omega)).trans ((Below.heap_alloc _ _ _ (by simp)).trans (heap_alloc_new w _))
 have q0 : (((w.alloc (.cells #[.int .u8 tos, .int .u16 id, .bool keep, .int .u8 ttl, .int .u8 pr, .int .u32 src, .int .u32 dst, .slice ao zo.length co, .slice ad zd.length cd] 26)).alloc (.cells #[.int .u32 ns, .int .u32 nd] 27)).alloc (.cells #[.int .u8 tp, .int .u32 s, .int .u32 d, .int .u16 a, .int .u16 b] 29)).heap[w.heap.size + 1]? = some (.cells #[.int .u32 ns, .int .u32 nd] 27) := by
  have := heap_alloc_new (w.alloc (.cells #[.int .u8 tos, .int .u16 id, .bool keep, .int .u8 ttl, .int .u8 pr, .int .u32 src, .int .u32 dst, .slice ao zo.length co, .slice ad zd.length cd] 26)) (.cells #[.int .u32 ns, .int .u32 nd] 27)
  rw [World.size_alloc] at this
  exact (Below.heap_alloc _ _ _ (by simp)).trans this
 have t0 : (((w.alloc (.cells #[.int .u8 tos, .int .u16 id, .bool keep, .int .u8 ttl, .int .u8 pr, .int .u32 src, .int .u32 dst, .slice ao zo.length co, .slice ad zd.length cd] 26)).alloc (.cells #[.int .u32 ns, .int .u32 nd] 27)).alloc (.cells #[.int .u8 tp, .int .u32 s, .int .u32 d, .int .u16 a, .int .u16 b] 29)).heap[w.heap.size + 1 + 1]? = some (.cells #[.int .u8 tp, .int .u32 s, .int .u32 d, .int .u16 a, .int .u16 b] 29) := by
  have := heap_alloc_new ((w.alloc (.cells #[.int .u8 tos, .int .u16 id, .bool keep, .int .u8 ttl, .int .u8 pr, .int .u32 src, .int .u32 dst, .slice ao zo.length co, .slice ad zd.length cd] 26)).alloc (.cells #[.int .u32 ns, .int .u32 nd] 27)) (.cells #[.int .u8 tp, .int .u32 s, .int .u32 d, .int .u16 a, .int .u16 b] 29)
  simpa only [World.size_alloc] using this
 have P0 := hide p0
 have L0' := hide q0
 have T0 := hide t0
 clear p0 q0 t0
 go_enter Tryz.func3, Tryz.ntmps3
 go_upto_region 1 with fail
 generalize ((w.alloc _).alloc _).alloc _ = W0 at *
 have L0 : Later w W0 := hb0
 have kP := block_cell P0.out
 have kL := block_cell L0'.out
 have kT := block_cell T0.out
 have hIo0 := (hIo.below L0).mono L0.size
 have hId0 := (hId.below L0).mono L0.size
 have HRW := hide (requote_any tos id ttl pr src dst keep _ _ zo zd ns nd tp s d a b W0 (hT.below hb0 hT.pos) hBo hBd hIo0 hId0 (by omega) (by omega) ht hid htt hns hnd hs hd ha hb)
 have HRR := hide (fun V (l : Later W0 V) => rrequote_any tos id ttl pr src dst keep (.slice ao zo.length co) (.slice ad zd.length cd) zo zd ns nd tp s d a b V hBo hBd (hIo0.later l) (hId0.later l) (by omega) (by omega) ht hid htt hns hnd hs hd ha hb)
 have HBI : Hid (Mt.By (icm (zd[0]?.getD 0) (zd[1]?.getD 0) (wat4 zd 4) (rqt (qun (zd.drop 8) s d a b) (zd.drop 8)))) := by
  refine By_icm _ _ _ _ (Mt.By.at hBd 0) (Mt.By.at hBd 1) (wat4_bd9 hBd 4) ?_
  refine ((rnm_by ((hBd.drop 8).take _) hs hd).append ((qsD_by (By_qdt (hBd.drop 8)) ?_).append ((hBd.drop 8).drop _)))
  exact ⟨hs, hd, ha, hb⟩
 generalize icm (zd[0]?.getD 0) (zd[1]?.getD 0) (wat4 zd 4) (rqt (qun (zd.drop 8) s d a b) (zd.drop 8)) = zr at *
 generalize (zd.drop 8).length = ml at *
 generalize rqe pr tp zo.length zd = er at *
 go_wp2_with fail
 refine HRW.out.mono ?_
 rintro e w1 ⟨hb1, ⟨hf, rfl⟩ | ⟨hf, ao2, co2, ad2, cd2, rfl, hOo, hOd⟩⟩
 ·have l1 : Later W0 w1 := hb1
  have HFN : Hid (er ≠ 0) := hf
  rw [show (zpk.toArray) = #[.int .u8 0, .int .u16 0, .bool false, .int .u8 0, .int .u8 0, .int .u32 0, .int .u32 0, .slice none 0 0, .slice none 0 0] from rfl]
  have l2 := later_alloc' w1 (.cells #[.int .u8 0, .int .u16 0, .bool false, .int .u8 0, .int .u8 0, .int .u32 0, .int .u32 0, .slice none 0 0, .slice none 0 0] 26)
  have KQ := hide (heap_alloc_new w1 (.cells #[.int .u8 0, .int .u16 0, .bool false, .int .u8 0, .int .u8 0, .int .u32 0, .int .u32 0, .slice none 0 0, .slice none 0 0] 26))
  have L2 := l1.trans l2
  have P2 := hide (later_keep L2 P0.out)
  have L2' := hide (later_keep L2 L0'.out)
  have T2 := hide (later_keep L2 T0.out)
  clear kP kL kT hf HRW
  go_upto_region 2 with fail
  generalize w1.alloc _ = w2 at *
  generalize w1.heap.size = ga at *
  have kP := block_cell P2.out
  have kL := block_cell L2'.out
  have kT := block_cell T2.out
  go_wp2_with fail
  refine (HRR.out w2 L2).mono ?_
  rintro e w3 ⟨hb3, ⟨_, rfl⟩ | ⟨hf, _⟩⟩
  case inr => exact absurd hf HFN.out
  have l3 : Later w2 w3 := hb3
  rw [show (zpk.toArray) = #[.int .u8 0, .int .u16 0, .bool false, .int .u8 0, .int .u8 0, .int .u32 0, .int .u32 0, .slice none 0 0, .slice none 0 0] from rfl]
  have l4 := later_alloc' w3 (.cells #[.int .u8 0, .int .u16 0, .bool false, .int .u8 0, .int .u8 0, .int .u32 0, .int .u32 0, .slice none 0 0, .slice none 0 0] 26)
  have KB := hide (heap_alloc_new w3 (.cells #[.int .u8 0, .int .u16 0, .bool false, .int .u8 0, .int .u8 0, .int .u32 0, .int .u32 0, .slice none 0 0, .slice none 0 0] 26))
  have KA := hide (later_keep (l3.trans l4) KQ.out)
  have L4 : Later w (w3.alloc (.cells #[.int .u8 0, .int .u16 0, .bool false, .int .u8 0, .int .u8 0, .int .u32 0, .int .u32 0, .slice none 0 0, .slice none 0 0] 26)) := L0.trans (L2.trans (l3.trans l4))
  clear kP kL kT KQ P2 L2' T2
  go_upto_region 3 with fail
  generalize w3.alloc _ = w4 at *
  generalize w3.heap.size = gb at *
  clear l3 l4 hb3
  go_wp2_with fail
  refine (live10_any w4 (hT.below L4 hT.pos)).mono ?_
  rintro e w5 ⟨rfl, l5⟩
  have kA := block_cell (later_keep l5 KA.out)
  have kB := block_cell (later_keep l5 KB.out)
  have HS := hide (rsame_any 0 0 0 0 0 0 0 0 0 0 0 0 false false (.slice none 0 0) (.slice none 0 0) (.slice none 0 0) (.slice none 0 0) [] [] [] [] w5 Mt.By.nil Mt.By.nil Mt.By.nil Mt.By.nil (zero_rd' w5) (zero_rd' w5) (zero_rd' w5) (zero_rd' w5))
  rw [smP_self9] at HS
  have tt : (er == er) = true := by simp
  go_wp2_with fail
  refine HS.out.mono ?_
  rintro e w6 ⟨rfl, l6⟩
  go_wp2_with fail
  go_ret
  exact ⟨by simp, L4.trans (l5.trans l6)⟩
 ·have l1 : Later W0 w1 := hb1
  subst hf
  have l2 := later_alloc' w1 (.cells #[.int .u8 tos, .int .u16 id, .bool keep, .int .u8 ttl, .int .u8 1, .int .u32 ns, .int .u32 nd, .slice ao2 zo.length co2, .slice ad2 (8 + ml) cd2] 26)
  have KQ := hide (heap_alloc_new w1 (.cells #[.int .u8 tos, .int .u16 id, .bool keep, .int .u8 ttl, .int .u8 1, .int .u32 ns, .int .u32 nd, .slice ao2 zo.length co2, .slice ad2 (8 + ml) cd2] 26))
  have L2 := l1.trans l2
  have P2 := hide (later_keep L2 P0.out)
  have L2' := hide (later_keep L2 L0'.out)
  have T2 := hide (later_keep L2 T0.out)
  have OA := hide (hOo.later l2)
  have DA := hide (hOd.later l2)
  clear kP kL kT HRW hOo hOd
  go_upto_region 2 with fail
  generalize w1.alloc _ = w2 at *
  generalize w1.heap.size = ga at *
  have kP := block_cell P2.out
  have kL := block_cell L2'.out
  have kT := block_cell T2.out
  go_wp2_with fail
  refine (HRR.out w2 L2).mono ?_
  rintro e w3 ⟨hb3, ⟨hf, _⟩ | ⟨_, ao3, co3, ad3, cd3, rfl, hOo, hOd⟩⟩
  case inl => exact absurd rfl hf
  have l3 : Later w2 w3 := hb3
  have l4 := later_alloc' w3 (.cells #[.int .u8 tos, .int .u16 id, .bool keep, .int .u8 ttl, .int .u8 1, .int .u32 ns, .int .u32 nd, .slice ao3 zo.length co3, .slice ad3 (8 + ml) cd3] 26)
  have KB := hide (heap_alloc_new w3 (.cells #[.int .u8 tos, .int .u16 id, .bool keep, .int .u8 ttl, .int .u8 1, .int .u32 ns, .int .u32 nd, .slice ao3 zo.length co3, .slice ad3 (8 + ml) cd3] 26))
  have KA := hide (later_keep (l3.trans l4) KQ.out)
  have OA4 := hide (OA.out.later (l3.trans l4))
  have DA4 := hide (DA.out.later (l3.trans l4))
  have OB4 := hide (hOo.later l4)
  have DB4 := hide (hOd.later l4)
  have L4 : Later w (w3.alloc (.cells #[.int .u8 tos, .int .u16 id, .bool keep, .int .u8 ttl, .int .u8 1, .int .u32 ns, .int .u32 nd, .slice ao3 zo.length co3, .slice ad3 (8 + ml) cd3] 26)) := L0.trans (L2.trans (l3.trans l4))
  clear kP kL kT KQ P2 L2' T2 OA DA hOo hOd
  go_upto_region 3 with fail
  generalize w3.alloc _ = w4 at *
  generalize w3.heap.size = gb at *
  clear l3 l4 hb3
  go_wp2_with fail
  refine (live10_any w4 (hT.below L4 hT.pos)).mono ?_
  rintro e w5 ⟨rfl, l5⟩
  have kA := block_cell (later_keep l5 KA.out)
  have kB := block_cell (later_keep l5 KB.out)
  have HS := hide (rsame_any tos id ttl 1 ns nd tos id ttl 1 ns nd keep keep _ _ _ _ zo zr zo zr w5 hBo HBI.out hBo HBI.out (OA4.out.later l5).rd (DA4.out.later l5).rd (OB4.out.later l5).rd (DB4.out.later l5).rd)
  rw [smP_self9] at HS
  go_wp2_with fail
  refine HS.out.mono ?_
  rintro e w6 ⟨rfl, l6⟩
  go_wp2_with fail
  go_ret
  exact ⟨by simp, L4.trans (l5.trans l6)⟩
end Go.Proofs.YtghpakfjpdifaaaGreatDoor
