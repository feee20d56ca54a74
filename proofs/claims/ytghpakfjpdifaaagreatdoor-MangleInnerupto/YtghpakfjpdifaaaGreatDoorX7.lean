/- Several texts in one. -/
import Derived.Test.YtghpakfjpdifaaaGreatDoorX9
import Derived.Test.YtghpakfjpdifaaaGreatDoorX8
import Derived.Test.YtghpakfjpdifaaaGreatDoorCC
import Derived.Test.YtghpakfjpdifaaaGreatDoorSF
import Derived.Test.YtghpakfjpdifaaaGreatDoorW9
import Derived.Deep.OwnRows
import Derived.Test.YtghpakfjpdifaaaGreatDoorV4
/- Layer 5: ofTcp, ofNumber, ofIcmp, ofGre; Of of a protocol that has no reader. -/
namespace Go.Proofs.YtghpakfjpdifaaaGreatDoor
open Go.RowKit Go.Shelf
set_option maxRecDepth 100000
set_option linter.unusedVariables false
set_option linter.unusedSimpArgs false

set_option maxHeartbeats 4000000 in
theorem ofTcp_any (tos id ttl proto src dst : Int) (keep : Bool) (so sd : Value) (zd : List Int) (w : World) (hB : Mt.By zd) (hI : Rd w.heap.size w sd zd) (hl : 12 + zd.length ≤ 140737488355328) (hsr : 0 ≤ src ∧ src ≤ 4294967295) (hds : 0 ≤ dst ∧ dst ≤ 4294967295) :
  Calls Tryz.prog 76 #[.agg #[.int .u8 tos, .int .u16 id, .bool keep, .int .u8 ttl, .int .u8 proto, .int .u32 src, .int .u32 dst, so, sd]] w fun e w' => Below w.heap.size w w' ∧ ∃ a b : Int, e = .returned (.tuple #[.agg #[.int .u16 a, .int .u16 b], .int .i64 (pte proto src dst zd)]) ∧ (pte proto src dst zd = 0 → a = wat zd 0 ∧ b = wat zd 2) := by
 obtain ⟨ad, cd, rfl, _, _⟩ := hI.slice
 have hb0 : Below w.heap.size w ((w.alloc (.cells #[.int .u8 tos, .int .u16 id, .bool keep, .int .u8 ttl, .int .u8 proto, .int .u32 src, .int .u32 dst, so, .slice ad zd.length cd] 26)).alloc (.cells #[.int .u16 0, .int .u16 0] 91)) := ((Below.refl _ _).alloc (Nat.le_refl _) _).alloc (by simp) _
 have r0 := heap_alloc_new (w.alloc (.cells #[.int .u8 tos, .int .u16 id, .bool keep, .int .u8 ttl, .int .u8 proto, .int .u32 src, .int .u32 dst, so, .slice ad zd.length cd] 26)) (.cells #[.int .u16 0, .int .u16 0] 91)
 rw [World.size_alloc] at r0
 have R0 := hide r0
 clear r0
 go_enter Tryz.func76, Tryz.ntmps76
 go_wp2_with fail
 generalize (w.alloc (.cells #[.int .u8 tos, .int .u16 id, .bool keep, .int .u8 ttl, .int .u8 proto, .int .u32 src, .int .u32 dst, so, .slice ad zd.length cd] 26)).alloc (.cells #[.int .u16 0, .int .u16 0] 91) = w0 at *
 refine (parseTcp_any tos id ttl proto src dst keep _ _ zd w0 hB ((hI.below hb0).mono hb0.size) (by omega) hsr hds).mono ?_
 rintro e w1 ⟨hb1, ⟨hf, rfl⟩ | ⟨hf, os, aO, cO, a1, c1, _, rfl, hO, _⟩⟩
 ·rw [show zsg.toArray = #[.int .u16 0, .int .u16 0, .int .u32 0, .int .u32 0, .int .u8 0, .int .u16 0, .int .u16 0, .slice none 0 0, .slice none 0 0] from rfl]
  generalize hpu : pte proto src dst zd = f at *
  have HPU := hide hpu
  have HF := hide hf
  clear hf hpu
  have lq : Later w1 (w1.alloc (.cells #[.int .u16 0, .int .u16 0, .int .u32 0, .int .u32 0, .int .u8 0, .int .u16 0, .int .u16 0, .slice none 0 0, .slice none 0 0] 60)) := (Below.refl _ _).alloc (Nat.le_refl _) _
  have l1 := Later.trans hb1 lq
  have r1 := (l1.block _ (bl9 R0.out)).trans R0.out
  have hw1 := hb0.trans (l1.mono hb0.size)
  have kX := block_cell r1
  have fX := block_frozen r1
  go_wp2_with fail
  generalize w1.alloc (.cells #[.int .u16 0, .int .u16 0, .int .u32 0, .int .u32 0, .int .u8 0, .int .u16 0, .int .u16 0, .slice none 0 0, .slice none 0 0] 60) = W at *
  generalize hV : (W.setCell ⟨w.heap.size + 1, 0, none⟩ _).setCell ⟨w.heap.size + 1, 1, none⟩ _ = V
  have hV8 : V = putRow W (w.heap.size + 1) 0 [.int .u16 (0), .int .u16 (0)] := hV.symm
  have hbV : But (fun b => b = w.heap.size + 1) W V := by rw [hV8]; exact putRow_but (E := fun b => b = w.heap.size + 1) (n := w.heap.size + 1) rfl _ _ _ _ (But.refl _ _)
  have pV := putRow_all [Value.int .u16 (0), .int .u16 (0)] r1 rfl
  rw [← hV8] at pV
  clear hV hV8 kX fX
  have PV := block_cell pV
  have hwV : Below w.heap.size w V := hw1.trans (hbV.below hw1.size (fun k hk e => by omega))
  exact bodyPost_ret (v := .tuple #[.agg #[.int .u16 (0), .int .u16 (0)], .int .i64 f]) (by simp [results, Tryz.results76, go_sem, PV]) rfl ⟨hwV, _, _, by rw [HPU.out], fun h => absurd (HPU.out.symm.trans h) HF.out⟩
 ·have HF := hide hf
  clear hf
  have lq : Later w1 (w1.alloc (.cells #[.int .u16 (wat zd 0), .int .u16 (wat zd 2), .int .u32 (wat4 zd 4), .int .u32 (wat4 zd 8), .int .u8 (zd[13]?.getD 0), .int .u16 (wat zd 14), .int .u16 (wat zd 18), .slice aO os.length cO, .slice a1 (zd.length - (thd zd).toNat) c1] 60)) := (Below.refl _ _).alloc (Nat.le_refl _) _
  have l1 := Later.trans hb1 lq
  have r1 := (l1.block _ (bl9 R0.out)).trans R0.out
  have hw1 := hb0.trans (l1.mono hb0.size)
  have kX := block_cell r1
  have fX := block_frozen r1
  go_wp2_with fail
  generalize w1.alloc (.cells #[.int .u16 (wat zd 0), .int .u16 (wat zd 2), .int .u32 (wat4 zd 4), .int .u32 (wat4 zd 8), .int .u8 (zd[13]?.getD 0), .int .u16 (wat zd 14), .int .u16 (wat zd 18), .slice aO os.length cO, .slice a1 (zd.length - (thd zd).toNat) c1] 60) = W at *
  generalize hV : (W.setCell ⟨w.heap.size + 1, 0, none⟩ _).setCell ⟨w.heap.size + 1, 1, none⟩ _ = V
  have hV8 : V = putRow W (w.heap.size + 1) 0 [.int .u16 (wat zd 0), .int .u16 (wat zd 2)] := hV.symm
  have hbV : But (fun b => b = w.heap.size + 1) W V := by rw [hV8]; exact putRow_but (E := fun b => b = w.heap.size + 1) (n := w.heap.size + 1) rfl _ _ _ _ (But.refl _ _)
  have pV := putRow_all [Value.int .u16 (wat zd 0), .int .u16 (wat zd 2)] r1 rfl
  rw [← hV8] at pV
  clear hV hV8 kX fX
  have PV := block_cell pV
  have hwV : Below w.heap.size w V := hw1.trans (hbV.below hw1.size (fun k hk e => by omega))
  exact bodyPost_ret (v := .tuple #[.agg #[.int .u16 (wat zd 0), .int .u16 (wat zd 2)], .int .i64 0]) (by simp [results, Tryz.results76, go_sem, PV]) rfl ⟨hwV, _, _, by rw [HF.out], fun _ => ⟨rfl, rfl⟩⟩

set_option maxHeartbeats 4000000 in
theorem ofGre_any (tos id ttl proto src dst : Int) (keep : Bool) (so sd : Value) (zd : List Int) (w : World) (hT : Tb w) (hB : Mt.By zd) (hI : Rd w.heap.size w sd zd) (hl : 12 + zd.length ≤ 140737488355328) (hsr : 0 ≤ src ∧ src ≤ 4294967295) (hds : 0 ≤ dst ∧ dst ≤ 4294967295) :
  Calls Tryz.prog 81 #[.agg #[.int .u8 tos, .int .u16 id, .bool keep, .int .u8 ttl, .int .u8 proto, .int .u32 src, .int .u32 dst, so, sd]] w fun e w' => Below w.heap.size w w' ∧ ∃ a b : Int, e = .returned (.tuple #[.agg #[.int .u16 a, .int .u16 b], .int .i64 (pge proto zd)]) ∧ (pge proto zd = 0 → a = 0 ∧ b = getAt2 zd 6) := by
 obtain ⟨ad, cd, rfl, _, _⟩ := hI.slice
 have hb0 : Below w.heap.size w ((w.alloc (.cells #[.int .u8 tos, .int .u16 id, .bool keep, .int .u8 ttl, .int .u8 proto, .int .u32 src, .int .u32 dst, so, .slice ad zd.length cd] 26)).alloc (.cells #[.int .u16 0, .int .u16 0] 91)) := ((Below.refl _ _).alloc (Nat.le_refl _) _).alloc (by simp) _
 have r0 := heap_alloc_new (w.alloc (.cells #[.int .u8 tos, .int .u16 id, .bool keep, .int .u8 ttl, .int .u8 proto, .int .u32 src, .int .u32 dst, so, .slice ad zd.length cd] 26)) (.cells #[.int .u16 0, .int .u16 0] 91)
 rw [World.size_alloc] at r0
 have R0 := hide r0
 clear r0
 go_enter Tryz.func81, Tryz.ntmps81
 go_wp2_with fail
 generalize (w.alloc (.cells #[.int .u8 tos, .int .u16 id, .bool keep, .int .u8 ttl, .int .u8 proto, .int .u32 src, .int .u32 dst, so, .slice ad zd.length cd] 26)).alloc (.cells #[.int .u16 0, .int .u16 0] 91) = w0 at *
 refine (parseGre_any tos id ttl proto src dst keep _ _ zd w0 (hT.below hb0 hT.pos) hB ((hI.below hb0).mono hb0.size) (by omega)).mono ?_
 rintro e w1 ⟨hb1, ⟨hf, rfl⟩ | ⟨hf, a1, c1, rfl, hO⟩⟩
 ·rw [show zf.toArray = #[.int .u16 0, .bool false, .bool false, .int .u32 0, .int .u32 0, .slice none 0 0] from rfl]
  generalize hpu : pge proto zd = f at *
  have HPU := hide hpu
  have HF := hide hf
  clear hf hpu
  have lq : Later w1 (w1.alloc (.cells #[.int .u16 0, .bool false, .bool false, .int .u32 0, .int .u32 0, .slice none 0 0] 68)) := (Below.refl _ _).alloc (Nat.le_refl _) _
  have l1 := Later.trans hb1 lq
  have r1 := (l1.block _ (bl9 R0.out)).trans R0.out
  have hw1 := hb0.trans (l1.mono hb0.size)
  have kX := block_cell r1
  have fX := block_frozen r1
  go_wp2_with fail
  generalize w1.alloc (.cells #[.int .u16 0, .bool false, .bool false, .int .u32 0, .int .u32 0, .slice none 0 0] 68) = W at *
  generalize hV : (W.setCell ⟨w.heap.size + 1, 0, none⟩ _).setCell ⟨w.heap.size + 1, 1, none⟩ _ = V
  have hV8 : V = putRow W (w.heap.size + 1) 0 [.int .u16 (0), .int .u16 (0)] := hV.symm
  have hbV : But (fun b => b = w.heap.size + 1) W V := by rw [hV8]; exact putRow_but (E := fun b => b = w.heap.size + 1) (n := w.heap.size + 1) rfl _ _ _ _ (But.refl _ _)
  have pV := putRow_all [Value.int .u16 (0), .int .u16 (0)] r1 rfl
  rw [← hV8] at pV
  clear hV hV8 kX fX
  have PV := block_cell pV
  have hwV : Below w.heap.size w V := hw1.trans (hbV.below hw1.size (fun k hk e => by omega))
  exact bodyPost_ret (v := .tuple #[.agg #[.int .u16 (0), .int .u16 (0)], .int .i64 f]) (by simp [results, Tryz.results81, go_sem, PV]) rfl ⟨hwV, _, _, by rw [HPU.out], fun h => absurd (HPU.out.symm.trans h) HF.out⟩
 ·have HF := hide hf
  clear hf
  have lq : Later w1 (w1.alloc (.cells #[.int .u16 (getAt2 zd 6), .bool (ghs (bgz zd)), .bool (gha (bgz zd)), .int .u32 (gsq (bgz zd) zd), .int .u32 (gak (bgz zd) zd), .slice a1 (zd.length - ghd (bgz zd)) c1] 68)) := (Below.refl _ _).alloc (Nat.le_refl _) _
  have l1 := Later.trans hb1 lq
  have r1 := (l1.block _ (bl9 R0.out)).trans R0.out
  have hw1 := hb0.trans (l1.mono hb0.size)
  have kX := block_cell r1
  have fX := block_frozen r1
  go_wp2_with fail
  generalize w1.alloc (.cells #[.int .u16 (getAt2 zd 6), .bool (ghs (bgz zd)), .bool (gha (bgz zd)), .int .u32 (gsq (bgz zd) zd), .int .u32 (gak (bgz zd) zd), .slice a1 (zd.length - ghd (bgz zd)) c1] 68) = W at *
  generalize hV : (W.setCell ⟨w.heap.size + 1, 0, none⟩ _).setCell ⟨w.heap.size + 1, 1, none⟩ _ = V
  have hV8 : V = putRow W (w.heap.size + 1) 0 [.int .u16 0, .int .u16 (getAt2 zd 6)] := hV.symm
  have hbV : But (fun b => b = w.heap.size + 1) W V := by rw [hV8]; exact putRow_but (E := fun b => b = w.heap.size + 1) (n := w.heap.size + 1) rfl _ _ _ _ (But.refl _ _)
  have pV := putRow_all [Value.int .u16 0, .int .u16 (getAt2 zd 6)] r1 rfl
  rw [← hV8] at pV
  clear hV hV8 kX fX
  have PV := block_cell pV
  have hwV : Below w.heap.size w V := hw1.trans (hbV.below hw1.size (fun k hk e => by omega))
  exact bodyPost_ret (v := .tuple #[.agg #[.int .u16 0, .int .u16 (getAt2 zd 6)], .int .i64 0]) (by simp [results, Tryz.results81, go_sem, PV]) rfl ⟨hwV, _, _, by rw [HF.out], fun _ => ⟨rfl, rfl⟩⟩

def ecb (ty cde : Int) : Bool := (ty == 8 || ty == 0) && cde == 0
def oie (zs : List Int) : Int := if pie 1 zs ≠ 0 then pie 1 zs else if ecb (zs[0]?.getD 0) (zs[1]?.getD 0) = true then 0 else 12

set_option maxHeartbeats 2000000 in
theorem ofNumber_any (ty cde rest num : Int) (sm : Value) (w : World) :
  Calls Tryz.prog 108 #[.agg #[.int .u8 ty, .int .u8 cde, .int .u32 rest, sm], .int .u16 num] w fun e w' => Below w.heap.size w w' ∧ ((ecb ty cde = true ∧ e = .returned (.tuple #[.agg #[.int .u16 num, .int .u16 num], .int .i64 0])) ∨ (ecb ty cde = false ∧ e = .returned (.tuple #[.agg #[.int .u16 0, .int .u16 0], .int .i64 12]))) := by
 have hb0 : Below w.heap.size w ((w.alloc (.cells #[.int .u8 ty, .int .u8 cde, .int .u32 rest, sm] 42)).alloc (.cells #[.int .u16 0, .int .u16 0] 91)) := ((Below.refl _ _).alloc (Nat.le_refl _) _).alloc (by simp) _
 have r0 := heap_alloc_new (w.alloc (.cells #[.int .u8 ty, .int .u8 cde, .int .u32 rest, sm] 42)) (.cells #[.int .u16 0, .int .u16 0] 91)
 rw [World.size_alloc] at r0
 have R0 := hide r0
 clear r0
 go_enter Tryz.func108, Tryz.ntmps108
 go_wp2_with fail
 generalize (w.alloc (.cells #[.int .u8 ty, .int .u8 cde, .int .u32 rest, sm] 42)).alloc (.cells #[.int .u16 0, .int .u16 0] 91) = w0 at *
 refine (isEcho_any ty cde rest sm w0).mono ?_
 rintro e w1 ⟨rfl, hb1⟩
 have hw1 := hb0.trans (hb1.mono hb0.size)
 have r1 := (Below.block hb1 _ (bl9 R0.out)).trans R0.out
 have kX := block_cell r1
 have fX := block_frozen r1
 have HE : Hid (ecb ty cde = ((ty == 8 || ty == 0) && cde == 0)) := rfl
 generalize ((ty == 8 || ty == 0) && cde == 0) = bq at *
 cases bq with
 | true =>
  go_wp2_with fail
  generalize hV : (w1.setCell ⟨w.heap.size + 1, 0, none⟩ _).setCell ⟨w.heap.size + 1, 1, none⟩ _ = V
  have hV8 : V = putRow w1 (w.heap.size + 1) 0 [.int .u16 num, .int .u16 num] := hV.symm
  have hbV : But (fun b => b = w.heap.size + 1) w1 V := by rw [hV8]; exact putRow_but (E := fun b => b = w.heap.size + 1) (n := w.heap.size + 1) rfl _ _ _ _ (But.refl _ _)
  have pV := putRow_all [Value.int .u16 num, .int .u16 num] r1 rfl
  rw [← hV8] at pV
  clear hV hV8 kX fX
  have PV := block_cell pV
  have hwV : Below w.heap.size w V := hw1.trans (hbV.below hw1.size (fun k hk e => by omega))
  exact bodyPost_ret (v := .tuple #[.agg #[.int .u16 num, .int .u16 num], .int .i64 0]) (by simp [results, Tryz.results108, go_sem, PV]) rfl ⟨hwV, .inl ⟨HE.out, rfl⟩⟩
 | false =>
  go_wp2_with fail
  generalize hV : (w1.setCell ⟨w.heap.size + 1, 0, none⟩ _).setCell ⟨w.heap.size + 1, 1, none⟩ _ = V
  have hV8 : V = putRow w1 (w.heap.size + 1) 0 [.int .u16 0, .int .u16 0] := hV.symm
  have hbV : But (fun b => b = w.heap.size + 1) w1 V := by rw [hV8]; exact putRow_but (E := fun b => b = w.heap.size + 1) (n := w.heap.size + 1) rfl _ _ _ _ (But.refl _ _)
  have pV := putRow_all [Value.int .u16 0, .int .u16 0] r1 rfl
  rw [← hV8] at pV
  clear hV hV8 kX fX
  have PV := block_cell pV
  have hwV : Below w.heap.size w V := hw1.trans (hbV.below hw1.size (fun k hk e => by omega))
  exact bodyPost_ret (v := .tuple #[.agg #[.int .u16 0, .int .u16 0], .int .i64 12]) (by simp [results, Tryz.results108, go_sem, PV]) rfl ⟨hwV, .inr ⟨HE.out, rfl⟩⟩

set_option maxHeartbeats 4000000 in
theorem ofIcmp_any (tos id ttl src dst : Int) (keep : Bool) (so sd : Value) (zd : List Int) (w : World) (hB : Mt.By zd) (hI : Rd w.heap.size w sd zd) (hl : zd.length ≤ 140737488355328) :
  Calls Tryz.prog 79 #[.agg #[.int .u8 tos, .int .u16 id, .bool keep, .int .u8 ttl, .int .u8 1, .int .u32 src, .int .u32 dst, so, sd]] w fun e w' => Below w.heap.size w w' ∧ ∃ a b : Int, e = .returned (.tuple #[.agg #[.int .u16 a, .int .u16 b], .int .i64 (oie zd)]) ∧ (oie zd = 0 → a = wat zd 4 ∧ b = wat zd 4) := by
 obtain ⟨ad, cd, rfl, _, _⟩ := hI.slice
 have hb0 : Below w.heap.size w ((w.alloc (.cells #[.int .u8 tos, .int .u16 id, .bool keep, .int .u8 ttl, .int .u8 1, .int .u32 src, .int .u32 dst, so, .slice ad zd.length cd] 26)).alloc (.cells #[.int .u16 0, .int .u16 0] 91)) := ((Below.refl _ _).alloc (Nat.le_refl _) _).alloc (by simp) _
 have r0 := heap_alloc_new (w.alloc (.cells #[.int .u8 tos, .int .u16 id, .bool keep, .int .u8 ttl, .int .u8 1, .int .u32 src, .int .u32 dst, so, .slice ad zd.length cd] 26)) (.cells #[.int .u16 0, .int .u16 0] 91)
 rw [World.size_alloc] at r0
 have R0 := hide r0
 clear r0
 go_enter Tryz.func79, Tryz.ntmps79
 go_wp2_with fail
 generalize (w.alloc (.cells #[.int .u8 tos, .int .u16 id, .bool keep, .int .u8 ttl, .int .u8 1, .int .u32 src, .int .u32 dst, so, .slice ad zd.length cd] 26)).alloc (.cells #[.int .u16 0, .int .u16 0] 91) = w0 at *
 refine (parseIcmp_any tos id ttl 1 src dst keep _ _ zd w0 hB ((hI.below hb0).mono hb0.size) hl).mono ?_
 rintro e w1 ⟨hb1, ⟨hf, rfl⟩ | ⟨hf, a1, c1, rfl, hO⟩⟩
 ·rw [show zm.toArray = #[.int .u8 0, .int .u8 0, .int .u32 0, .slice none 0 0] from rfl]
  have HOE : Hid (oie zd = pie 1 zd) := if_pos hf
  generalize hpu : pie 1 zd = f at *
  have HF := hide hf
  clear hpu
  have hne : (f != 0) = true := by simp [hf]
  clear hf
  have lq : Later w1 (w1.alloc (.cells #[.int .u8 0, .int .u8 0, .int .u32 0, .slice none 0 0] 42)) := (Below.refl _ _).alloc (Nat.le_refl _) _
  have l1 := Later.trans hb1 lq
  have rX := (l1.block _ (bl9 R0.out)).trans R0.out
  have hwX := hb0.trans (l1.mono hb0.size)
  have kX := block_cell rX
  have fX := block_frozen rX
  go_wp2_with fail
  generalize w1.alloc (.cells #[.int .u8 0, .int .u8 0, .int .u32 0, .slice none 0 0] 42) = W at *
  generalize hV : (W.setCell ⟨w.heap.size + 1, 0, none⟩ _).setCell ⟨w.heap.size + 1, 1, none⟩ _ = V
  have hV8 : V = putRow W (w.heap.size + 1) 0 [.int .u16 0, .int .u16 0] := hV.symm
  have hbV : But (fun b => b = w.heap.size + 1) W V := by rw [hV8]; exact putRow_but (E := fun b => b = w.heap.size + 1) (n := w.heap.size + 1) rfl _ _ _ _ (But.refl _ _)
  have pV := putRow_all ([.int .u16 0, .int .u16 0] : List Value) rX rfl
  rw [← hV8] at pV
  clear hV hV8 kX fX
  have PV := block_cell pV
  have hwV : Below w.heap.size w V := hwX.trans (hbV.below hwX.size (fun k hk e => by omega))
  exact bodyPost_ret (v := .tuple #[.agg #[.int .u16 0, .int .u16 0], .int .i64 f]) (by simp [results, Tryz.results79, go_sem, PV]) rfl ⟨hwV, _, _, by rw [HOE.out], fun h => absurd (HOE.out.symm.trans h) HF.out⟩
 ·have HF := hide hf
  clear hf
  have b4 := wat_bd hB 4
  have b6 := wat_bd hB (4 + 2)
  have HW4 : Hid (wat4 zd 4 / 65536 = wat zd 4) := by show _ = _; unfold wat4; omega
  have hW4b : 0 ≤ wat4 zd 4 ∧ wat4 zd 4 ≤ 4294967295 := by unfold wat4; omega
  have lq : Later w1 (w1.alloc (.cells #[.int .u8 (zd[0]?.getD 0), .int .u8 (zd[1]?.getD 0), .int .u32 (wat4 zd 4), .slice a1 (zd.length - 8) c1] 42)) := (Below.refl _ _).alloc (Nat.le_refl _) _
  have l1 := Later.trans hb1 lq
  have r1 := (l1.block _ (bl9 R0.out)).trans R0.out
  have hw1 := hb0.trans (l1.mono hb0.size)
  go_wp2_with fail
  rw [HW4.out]
  generalize w1.alloc (.cells #[.int .u8 (zd[0]?.getD 0), .int .u8 (zd[1]?.getD 0), .int .u32 (wat4 zd 4), .slice a1 (zd.length - 8) c1] 42) = W at *
  refine (ofNumber_any (zd[0]?.getD 0) (zd[1]?.getD 0) (wat4 zd 4) (wat zd 4) _ W).mono ?_
  rintro e w2 ⟨hb2, ⟨he, rfl⟩ | ⟨he, rfl⟩⟩
  ·have HOE : Hid (oie zd = 0) := by show _ = _; unfold oie; rw [if_neg (fun h => h HF.out), if_pos he]
   clear he
   have rX := (Below.block hb2 _ (bl9 r1)).trans r1
   have hwX := hw1.trans (hb2.mono hw1.size)
   have kX := block_cell rX
   have fX := block_frozen rX
   go_wp2_with fail
   generalize hV : (w2.setCell ⟨w.heap.size + 1, 0, none⟩ _).setCell ⟨w.heap.size + 1, 1, none⟩ _ = V
   have hV8 : V = putRow w2 (w.heap.size + 1) 0 [.int .u16 (wat zd 4), .int .u16 (wat zd 4)] := hV.symm
   have hbV : But (fun b => b = w.heap.size + 1) w2 V := by rw [hV8]; exact putRow_but (E := fun b => b = w.heap.size + 1) (n := w.heap.size + 1) rfl _ _ _ _ (But.refl _ _)
   have pV := putRow_all ([.int .u16 (wat zd 4), .int .u16 (wat zd 4)] : List Value) rX rfl
   rw [← hV8] at pV
   clear hV hV8 kX fX
   have PV := block_cell pV
   have hwV : Below w.heap.size w V := hwX.trans (hbV.below hwX.size (fun k hk e => by omega))
   exact bodyPost_ret (v := .tuple #[.agg #[.int .u16 (wat zd 4), .int .u16 (wat zd 4)], .int .i64 0]) (by simp [results, Tryz.results79, go_sem, PV]) rfl ⟨hwV, _, _, by rw [HOE.out], fun _ => ⟨rfl, rfl⟩⟩
  ·have HOE : Hid (oie zd = 12) := by show _ = _; unfold oie; rw [if_neg (fun h => h HF.out), if_neg (by rw [he]; decide)]
   clear he
   have rX := (Below.block hb2 _ (bl9 r1)).trans r1
   have hwX := hw1.trans (hb2.mono hw1.size)
   have kX := block_cell rX
   have fX := block_frozen rX
   go_wp2_with fail
   generalize hV : (w2.setCell ⟨w.heap.size + 1, 0, none⟩ _).setCell ⟨w.heap.size + 1, 1, none⟩ _ = V
   have hV8 : V = putRow w2 (w.heap.size + 1) 0 [.int .u16 0, .int .u16 0] := hV.symm
   have hbV : But (fun b => b = w.heap.size + 1) w2 V := by rw [hV8]; exact putRow_but (E := fun b => b = w.heap.size + 1) (n := w.heap.size + 1) rfl _ _ _ _ (But.refl _ _)
   have pV := putRow_all ([.int .u16 0, .int .u16 0] : List Value) rX rfl
   rw [← hV8] at pV
   clear hV hV8 kX fX
   have PV := block_cell pV
   have hwV : Below w.heap.size w V := hwX.trans (hbV.below hwX.size (fun k hk e => by omega))
   exact bodyPost_ret (v := .tuple #[.agg #[.int .u16 0, .int .u16 0], .int .i64 12]) (by simp [results, Tryz.results79, go_sem, PV]) rfl ⟨hwV, _, _, by rw [HOE.out], fun h => by rw [HOE.out] at h; exact absurd h (by decide)⟩

theorem look_none {z : Int} (hz : z ≠ 6 ∧ z ≠ 17 ∧ z ≠ 1 ∧ z ≠ 47) {w : World} {b : Nat} (hb : w.heap[b]? = some (.map rdE 4)) : (Instr.lookup 88 (.map (some b)) (.int .u8 z) true).run Tryz.prog w = .ok (.tuple #[.agg #[.nilFunc, .nilFunc], .bool false]) w :=
 run_findq Tryz.underlying88 Tryz.underlying5 hb z _ false (.inr ⟨by
  obtain ⟨h1, h2, h3, h4⟩ := hz
  have e1 : (z == 6) = false := by simp [h1]
  have e2 : (z == 17) = false := by simp [h2]
  have e3 : (z == 1) = false := by simp [h3]
  have e4 : (z == 47) = false := by simp [h4]
  simp [rdE, Instr.findNow, Instr.sameNow, e1, e2, e3, e4], by kernel_rfl, rfl⟩)
theorem run_store_nf (P : Program) (w : World) (a : Addr) (m : Mode) : (store a .nilFunc m).run P w = stored P w a .nilFunc m := run_store P w a _ m rfl

set_option maxHeartbeats 4000000 in
theorem of_other (pr : Int) (tos id ttl src dst : Int) (keep : Bool) (so : Value) (ad : Option Addr) (ld cd : Nat) (w : World)
  (hpr : pr ≠ 6 ∧ pr ≠ 17 ∧ pr ≠ 1 ∧ pr ≠ 47) :
  Calls Tryz.prog 70 #[.agg #[.int .u8 tos, .int .u16 id, .bool keep, .int .u8 ttl, .int .u8 pr, .int .u32 src, .int .u32 dst, so, .slice ad ld cd]] w fun e w' => Below w.heap.size w w' ∧ e = .returned (.tuple #[.agg #[.int .u8 0, .int .u32 0, .int .u32 0, .int .u16 0, .int .u16 0], .int .i64 12]) := by
 have hb0 : Below w.heap.size w ((w.alloc (.cells #[.int .u8 tos, .int .u16 id, .bool keep, .int .u8 ttl, .int .u8 pr, .int .u32 src, .int .u32 dst, so, .slice ad ld cd] 26)).alloc (.cells #[.int .u8 0, .int .u32 0, .int .u32 0, .int .u16 0, .int .u16 0] 29)) := ((Below.refl _ _).alloc (Nat.le_refl _) _).alloc (by simp) _
 have p0 : ((w.alloc (.cells #[.int .u8 tos, .int .u16 id, .bool keep, .int .u8 ttl, .int .u8 pr, .int .u32 src, .int .u32 dst, so, .slice ad ld cd] 26)).alloc (.cells #[.int .u8 0, .int .u32 0, .int .u32 0, .int .u16 0, .int .u16 0] 29)).heap[w.heap.size]? = some (.cells #[.int .u8 tos, .int .u16 id, .bool keep, .int .u8 ttl, .int .u8 pr, .int .u32 src, .int .u32 dst, so, .slice ad ld cd] 26) := (Below.heap_alloc _ _ _ (by simp)).trans (heap_alloc_new w _)
 have r0 := heap_alloc_new (w.alloc (.cells #[.int .u8 tos, .int .u16 id, .bool keep, .int .u8 ttl, .int .u8 pr, .int .u32 src, .int .u32 dst, so, .slice ad ld cd] 26)) (.cells #[.int .u8 0, .int .u32 0, .int .u32 0, .int .u16 0, .int .u16 0] 29)
 rw [World.size_alloc] at r0
 have hs0 : ((w.alloc (.cells #[.int .u8 tos, .int .u16 id, .bool keep, .int .u8 ttl, .int .u8 pr, .int .u32 src, .int .u32 dst, so, .slice ad ld cd] 26)).alloc (.cells #[.int .u8 0, .int .u32 0, .int .u32 0, .int .u16 0, .int .u16 0] 29)).heap.size = w.heap.size + 2 := by simp
 have HS0 := hide hs0
 have P0 := hide p0
 have R0 := hide r0
 clear r0 hs0 p0
 go_enter Tryz.func70, Tryz.ntmps70
 go_upto_region 1 with fail
 generalize (w.alloc (.cells #[.int .u8 tos, .int .u16 id, .bool keep, .int .u8 ttl, .int .u8 pr, .int .u32 src, .int .u32 dst, so, .slice ad ld cd] 26)).alloc (.cells #[.int .u8 0, .int .u32 0, .int .u32 0, .int .u16 0, .int .u16 0] 29) = w0 at *
 have hlt0 : w.heap.size + 1 < w0.heap.size := by have := HS0.out; omega
 have p0 := P0.out
 go_cut [4, 5] (fun q x wx => ∃ g, q = .pointer (some ⟨g, 0, none⟩) ∧ x = .bool false ∧ wx.heap[g]? = some (.cells #[.nilFunc, .nilFunc] 86 (0, 0)) ∧ Below w0.heap.size w0 wx)
 case first =>
  refine anyT_begin (R := But (fun b => w0.heap.size ≤ b)) 10 rfl (by kernel_rfl) ?_
  have hd : Later w0 w0.drew := Later.drew w0
  have pd := (hd.block w.heap.size (bl9 p0)).trans p0
  have bd : Below w0.heap.size w0 w0.drew := hd
  generalize w0.drew = Wd at *
  have ha : ∀ v1, But (fun b => w0.heap.size ≤ b) Wd v1 → ∀ i, v1.cell? ⟨w.heap.size, i, none⟩ = #[Value.int .u8 tos, .int .u16 id, .bool keep, .int .u8 ttl, .int .u8 pr, .int .u32 src, .int .u32 dst, so, .slice ad ld cd][i]? := fun v1 h => block_cell ((h.block w.heap.size (bl9 pd) (by omega)).trans pd)
  have hz : w0.heap.size ≤ Wd.heap.size := bd.size
  refine tV (But.pre _) 1 rfl rfl ?_; apply Exists.intro; refine ⟨fun v1 hv1 => ?_, ?_⟩; (· (go_simp; rfl)); simp only [Act.put, sA, sB, sC]
  refine tV (But.pre _) 2 rfl rfl ?_; apply Exists.intro; refine ⟨fun v1 hv1 => ?_, ?_⟩; (· (go_simp; rfl)); simp only [Act.put, sA, sB, sC]
  refine anyT_two 0 7 rfl rfl (by kernel_rfl) rfl rfl ?_ ?_
  ·skip
   refine wp_enter 46 #[] (by go_simp) ?_
   refine (readers_any Wd).mono ?_
   rintro e W3 ⟨m, rfl, hb3, hM3⟩
   have l3 : Later Wd W3 := hb3
   refine ⟨But.of l3, ?_⟩
   simp only [Act.put, sA, sB, sC]
   have hlk := look_none hpr hM3
   refine anyT_two 3 7 rfl rfl (by kernel_rfl) rfl rfl ?_ ?_
   ·unfold Oper.wp
    go_simp
    refine ⟨But.refl _ _, ?_⟩
    clear hlk
    refine tV (But.pre _) 4 rfl rfl ?_; apply Exists.intro; refine ⟨fun v1 hv1 => ?_, ?_⟩; (· (go_simp; rfl)); simp only [Act.put, sA, sB, sC]
    refine tV (But.pre _) 5 rfl rfl ?_; apply Exists.intro; refine ⟨fun v1 hv1 => ?_, ?_⟩; (· (go_simp; rfl)); simp only [Act.put, sA, sB, sC]
    refine tV (But.pre _) 6 rfl rfl ?_; apply Exists.intro; refine ⟨fun v1 hv1 => ?_, ?_⟩; (· (go_simp; rfl)); simp only [Act.put, sA, sB, sC]
    refine anyT_one 7 rfl (by kernel_rfl) rfl ?_
    unfold Oper.wp
    go_simp
    have l4 : Later W3 (W3.alloc (.cells #[.nilFunc, .nilFunc] 86)) := (Below.refl _ _).alloc (Nat.le_refl _) _
    have g4 := heap_alloc_new W3 (.cells #[.nilFunc, .nilFunc] 86)
    have b4 : Below w0.heap.size w0 (W3.alloc (.cells #[.nilFunc, .nilFunc] 86)) := (bd.trans (l3.mono hz)).trans (l4.mono (Nat.le_trans hz l3.size))
    have hge : w0.heap.size ≤ W3.heap.size := Nat.le_trans hz l3.size
    refine ⟨But.of l4, ?_⟩
    generalize W3.alloc (.cells #[.nilFunc, .nilFunc] 86) = W4 at *
    generalize W3.heap.size = g at *
    have kg := block_cell g4
    have fg := block_frozen g4
    have hsf := run_store_nf Tryz.prog
    refine anyT_one 8 rfl (by kernel_rfl) rfl ?_
    unfold Oper.wp
    go_simp
    generalize hV : (W4.setCell ⟨g, 0, none⟩ _).setCell ⟨g, 1, none⟩ _ = V
    have hV8 : V = putRow W4 (g) 0 [.nilFunc, .nilFunc] := hV.symm
    have hbV : But (fun b => w0.heap.size ≤ b) W4 V := by rw [hV8]; exact putRow_but (E := fun b => w0.heap.size ≤ b) (n := g) hge _ _ _ _ (But.refl _ _)
    have pV := putRow_all [Value.nilFunc, .nilFunc] g4 rfl
    rw [← hV8] at pV
    clear hV hV8 kg fg hsf
    refine ⟨hbV, ?_⟩
    refine anyT_one 9 rfl (by kernel_rfl) rfl ?_
    unfold Oper.wp
    go_simp
    refine ⟨But.refl _ _, ?_⟩
    refine anyT_done (by kernel_rfl) ?_
    have hbl : Below w0.heap.size w0 V := b4.trans (hbV.below b4.size (fun k hk e => by omega))
    clear ha
    go_wp2_with fail
    go_meet
    exact ⟨_, rfl, rfl, pV, hbl⟩
   ·unfold Oper.wp
    go_simp
    have l4 : Later W3 (W3.alloc (.cells #[.nilFunc, .nilFunc] 86)) := (Below.refl _ _).alloc (Nat.le_refl _) _
    have g4 := heap_alloc_new W3 (.cells #[.nilFunc, .nilFunc] 86)
    have b4 : Below w0.heap.size w0 (W3.alloc (.cells #[.nilFunc, .nilFunc] 86)) := (bd.trans (l3.mono hz)).trans (l4.mono (Nat.le_trans hz l3.size))
    have hge : w0.heap.size ≤ W3.heap.size := Nat.le_trans hz l3.size
    have hM4 := (l4.block m (bl9 hM3)).trans hM3
    refine ⟨But.of l4, ?_⟩
    clear hlk
    generalize W3.alloc (.cells #[.nilFunc, .nilFunc] 86) = W4 at *
    generalize W3.heap.size = g at *
    have hlk := look_none hpr hM4
    refine anyT_one 3 rfl (by kernel_rfl) rfl ?_
    unfold Oper.wp
    go_simp
    refine ⟨But.refl _ _, ?_⟩
    clear hlk
    refine tV (But.pre _) 4 rfl rfl ?_; apply Exists.intro; refine ⟨fun v1 hv1 => ?_, ?_⟩; (· (go_simp; rfl)); simp only [Act.put, sA, sB, sC]
    refine tV (But.pre _) 5 rfl rfl ?_; apply Exists.intro; refine ⟨fun v1 hv1 => ?_, ?_⟩; (· (go_simp; rfl)); simp only [Act.put, sA, sB, sC]
    refine tV (But.pre _) 6 rfl rfl ?_; apply Exists.intro; refine ⟨fun v1 hv1 => ?_, ?_⟩; (· (go_simp; rfl)); simp only [Act.put, sA, sB, sC]
    have kg := block_cell g4
    have fg := block_frozen g4
    have hsf := run_store_nf Tryz.prog
    refine anyT_one 8 rfl (by kernel_rfl) rfl ?_
    unfold Oper.wp
    go_simp
    generalize hV : (W4.setCell ⟨g, 0, none⟩ _).setCell ⟨g, 1, none⟩ _ = V
    have hV8 : V = putRow W4 (g) 0 [.nilFunc, .nilFunc] := hV.symm
    have hbV : But (fun b => w0.heap.size ≤ b) W4 V := by rw [hV8]; exact putRow_but (E := fun b => w0.heap.size ≤ b) (n := g) hge _ _ _ _ (But.refl _ _)
    have pV := putRow_all [Value.nilFunc, .nilFunc] g4 rfl
    rw [← hV8] at pV
    clear hV hV8 kg fg hsf
    refine ⟨hbV, ?_⟩
    refine anyT_one 9 rfl (by kernel_rfl) rfl ?_
    unfold Oper.wp
    go_simp
    refine ⟨But.refl _ _, ?_⟩
    refine anyT_done (by kernel_rfl) ?_
    have hbl : Below w0.heap.size w0 V := b4.trans (hbV.below b4.size (fun k hk e => by omega))
    clear ha
    go_wp2_with fail
    go_meet
    exact ⟨_, rfl, rfl, pV, hbl⟩
  ·unfold Oper.wp
   go_simp
   have l4 : Later Wd (Wd.alloc (.cells #[.nilFunc, .nilFunc] 86)) := (Below.refl _ _).alloc (Nat.le_refl _) _
   have g4 := heap_alloc_new Wd (.cells #[.nilFunc, .nilFunc] 86)
   have b4 : Below w0.heap.size w0 (Wd.alloc (.cells #[.nilFunc, .nilFunc] 86)) := bd.trans (l4.mono hz)
   refine ⟨But.of l4, ?_⟩
   have hge : w0.heap.size ≤ Wd.heap.size := hz
   generalize Wd.alloc (.cells #[.nilFunc, .nilFunc] 86) = W4 at *
   generalize Wd.heap.size = g at *
   refine anyT_one 0 rfl (by kernel_rfl) rfl ?_
   refine wp_enter 46 #[] (by go_simp) ?_
   refine (readers_any W4).mono ?_
   rintro e W5 ⟨m, rfl, hb5, hM5⟩
   have l5 : Later W4 W5 := hb5
   have g5 := (l5.block g (bl9 g4)).trans g4
   have b5 : Below w0.heap.size w0 W5 := b4.trans (l5.mono b4.size)
   refine ⟨But.of l5, ?_⟩
   simp only [Act.put, sA, sB, sC]
   have hlk := look_none hpr hM5
   refine anyT_one 3 rfl (by kernel_rfl) rfl ?_
   unfold Oper.wp
   go_simp
   refine ⟨But.refl _ _, ?_⟩
   clear hlk
   refine tV (But.pre _) 4 rfl rfl ?_; apply Exists.intro; refine ⟨fun v1 hv1 => ?_, ?_⟩; (· (go_simp; rfl)); simp only [Act.put, sA, sB, sC]
   refine tV (But.pre _) 5 rfl rfl ?_; apply Exists.intro; refine ⟨fun v1 hv1 => ?_, ?_⟩; (· (go_simp; rfl)); simp only [Act.put, sA, sB, sC]
   refine tV (But.pre _) 6 rfl rfl ?_; apply Exists.intro; refine ⟨fun v1 hv1 => ?_, ?_⟩; (· (go_simp; rfl)); simp only [Act.put, sA, sB, sC]
   have kg := block_cell g5
   have fg := block_frozen g5
   have hsf := run_store_nf Tryz.prog
   refine anyT_one 8 rfl (by kernel_rfl) rfl ?_
   unfold Oper.wp
   go_simp
   generalize hV : (W5.setCell ⟨g, 0, none⟩ _).setCell ⟨g, 1, none⟩ _ = V
   have hV8 : V = putRow W5 (g) 0 [.nilFunc, .nilFunc] := hV.symm
   have hbV : But (fun b => w0.heap.size ≤ b) W5 V := by rw [hV8]; exact putRow_but (E := fun b => w0.heap.size ≤ b) (n := g) hge _ _ _ _ (But.refl _ _)
   have pV := putRow_all [Value.nilFunc, .nilFunc] g5 rfl
   rw [← hV8] at pV
   clear hV hV8 kg fg hsf
   refine ⟨hbV, ?_⟩
   refine anyT_one 9 rfl (by kernel_rfl) rfl ?_
   unfold Oper.wp
   go_simp
   refine ⟨But.refl _ _, ?_⟩
   refine anyT_done (by kernel_rfl) ?_
   have hbl : Below w0.heap.size w0 V := b5.trans (hbV.below b5.size (fun k hk e => by omega))
   clear ha
   go_wp2_with fail
   go_meet
   exact ⟨_, rfl, rfl, pV, hbl⟩
 case rest =>
  obtain ⟨g, rfl, rfl, hg, hbc⟩ := hcut
  have rX := (hbc.block _ (bl9 R0.out)).trans R0.out
  have hwX := hb0.trans (hbc.mono hb0.size)
  have kX := block_cell rX
  have fX := block_frozen rX
  go_wp2_with fail
  generalize hV : ((((wc.setCell ⟨w.heap.size + 1, 0, none⟩ _).setCell ⟨w.heap.size + 1, 1, none⟩ _).setCell ⟨w.heap.size + 1, 2, none⟩ _).setCell ⟨w.heap.size + 1, 3, none⟩ _).setCell ⟨w.heap.size + 1, 4, none⟩ _ = V
  have hV8 : V = putRow wc (w.heap.size + 1) 0 [.int .u8 0, .int .u32 0, .int .u32 0, .int .u16 0, .int .u16 0] := hV.symm
  have hbV : But (fun b => b = w.heap.size + 1) wc V := by rw [hV8]; exact putRow_but (E := fun b => b = w.heap.size + 1) (n := w.heap.size + 1) rfl _ _ _ _ (But.refl _ _)
  have pV := putRow_all ([.int .u8 0, .int .u32 0, .int .u32 0, .int .u16 0, .int .u16 0] : List Value) rX rfl
  rw [← hV8] at pV
  clear hV hV8 kX fX
  have PV := block_cell pV
  have hwV : Below w.heap.size w V := hwX.trans (hbV.below hwX.size (fun k hk e => by omega))
  exact bodyPost_ret (v := .tuple #[.agg #[.int .u8 0, .int .u32 0, .int .u32 0, .int .u16 0, .int .u16 0], .int .i64 12]) (by simp [results, Tryz.results70, go_sem, PV]) rfl ⟨hwV, rfl⟩
end Go.Proofs.YtghpakfjpdifaaaGreatDoor

/- Package segs: the document's answer for a packet's datagram. -/
namespace Go.Proofs.YtghpakfjpdifaaaGreatDoor
open Go.RowKit Go.Shelf
set_option maxRecDepth 100000
set_option linter.unusedVariables false
set_option linter.unusedSimpArgs false

set_option maxHeartbeats 1000000 in
theorem rpseudo_row (s d p n : Int) (hs : 0 ≤ s ∧ s ≤ 4294967295) (hd : 0 ≤ d ∧ d ≤ 4294967295) (w : World) :
  Calls Tryz.prog 95 #[.int .u32 s, .int .u32 d, .int .u8 p, .int .i64 n] w fun e w' => ∃ v, e = .returned v ∧ w'.ownsRow w.heap.size 5 1 v (psd s d p n).length ((psd s d p n).map (Value.int .u8)) ∧ Below w.heap.size w w' := by
 obtain ⟨i0, hi, hz0, hz1, hz2⟩ := info_parts info_u8
 have hn0 : 0 ≤ n % 65536 ∧ n % 65536 ≤ 65535 := by omega
 go_enter Tryz.func95, Tryz.ntmps95
 go_wp2_with fail
 refine (four_any s hs _).mono ?_
 rintro e w1 ⟨rfl, rfl⟩
 have hR1 := Rd.new4 (s / 16777216) (s / 65536 % 256) (s / 256 % 256) (s % 256) 5 w
 have hb1 : Below w.heap.size w (w.alloc (.cells #[.int .u8 (s / 16777216), .int .u8 (s / 65536 % 256), .int .u8 (s / 256 % 256), .int .u8 (s % 256)] 5)) := (Below.refl _ w).alloc (Nat.le_refl _) _
 go_wp2_with (at_builtin; refine wpList_app _ rfl (.tmp 10) (.tmp 12) 24 rfl w.heap.size 5 i0 Tryz.underlying24 hi hz0 hz1 hz2 _ [] rfl (World.ownsRow_nil _ _ _ _) (w.heap.size + 1) _ [s / 16777216, s / 65536 % 256, s / 256 % 256, s % 256] rfl hR1 (by simp) (by simp) ?_; intro v2 w2 hown2 hg2; have hb2 := hb1.grown hg2 (by simp) (fun k e => by cases e); clear hg2 hb1 hR1)
 simp only [List.nil_append] at hown2
 generalize hl2 : [s / 16777216, s / 65536 % 256, s / 256 % 256, s % 256] = l2 at *
 have hn2 : l2.length = 4 := by rw [← hl2]; rfl
 have HL2 := hide hl2
 clear hl2
 refine (four_any d hd _).mono ?_
 rintro e w3 ⟨rfl, rfl⟩
 have hR3 := Rd.new4 (d / 16777216) (d / 65536 % 256) (d / 256 % 256) (d % 256) 5 w2
 have hb3 := hb2.alloc hb2.size (.cells #[.int .u8 (d / 16777216), .int .u8 (d / 65536 % 256), .int .u8 (d / 256 % 256), .int .u8 (d % 256)] 5)
 go_wp2_with (first
  | (at_builtin; refine wpList_app _ rfl (.tmp 14) (.tmp 16) 24 rfl w.heap.size 5 i0 Tryz.underlying24 hi hz0 hz1 hz2 _ l2 rfl (hown2.alloc _) (w2.heap.size + 1) _ [d / 16777216, d / 65536 % 256, d / 256 % 256, d % 256] rfl hR3 (by simp; omega) hb3.size ?_; intro v4 w4 hown4 hg4; have hb4 := below_app hb3 (hown2.alloc _) hg4 (Nat.le_refl _) hb3.size; clear hg4 hb3 hR3; have hR5 := Rd.new2 0 p 5 w4; have hb5 := hb4.alloc hb4.size (.cells #[.int .u8 0, .int .u8 p] 5))
  | (at_builtin; refine wpList_app _ rfl (.tmp 18) (.tmp 20) 24 rfl w.heap.size 5 i0 Tryz.underlying24 hi hz0 hz1 hz2 _ (l2 ++ [d / 16777216, d / 65536 % 256, d / 256 % 256, d % 256]) rfl (hown4.alloc _) (w4.heap.size + 1) _ [0, p] rfl hR5 (by simp; omega) hb5.size ?_; intro v6 w6 hown6 hg6; have hb6 := below_app hb5 (hown4.alloc _) hg6 (Nat.le_refl _) hb5.size; clear hg6 hb5 hR5))
 rw [IntKind.wrap_u16]
 have HM : Hid (n % 65536 / 256 = n / 256 % 256 ∧ n % 65536 % 256 = n % 256) := by show _ ∧ _; omega
 generalize n % 65536 = m at *
 refine (two_any m hn0 _).mono ?_
 rintro e w7 ⟨rfl, rfl⟩
 have hR7 := Rd.new2 (m / 256) (m % 256) 5 w6
 have hb7 := hb6.alloc hb6.size (.cells #[.int .u8 (m / 256), .int .u8 (m % 256)] 5)
 go_wp2_with (at_builtin; refine wpList_app _ rfl (.tmp 22) (.tmp 25) 24 rfl w.heap.size 5 i0 Tryz.underlying24 hi hz0 hz1 hz2 _ (l2 ++ [d / 16777216, d / 65536 % 256, d / 256 % 256, d % 256] ++ [0, p]) rfl (hown6.alloc _) (w6.heap.size + 1) _ [m / 256, m % 256] rfl hR7 (by simp; omega) hb7.size ?_; intro v8 w8 hown8 hg8; have hb8 := below_app hb7 (hown6.alloc _) hg8 (Nat.le_refl _) hb7.size; clear hg8 hb7 hR7)
 go_ret
 refine ⟨_, rfl, ?_, hb8⟩
 rw [← HL2.out, HM.out.1, HM.out.2] at hown8
 exact hown8


set_option maxHeartbeats 2000000 in
theorem rsum3_any (tos id ttl proto src dst pr : Int) (keep : Bool) (so sd sb : Value) (zs : List Int) (w : World) (hB : Mt.By zs) (hI : Rd w.heap.size w sb zs) (hl : 12 + zs.length ≤ 1099511627776) (hpr : 0 ≤ pr ∧ pr ≤ 255) (hsr : 0 ≤ src ∧ src ≤ 4294967295) (hds : 0 ≤ dst ∧ dst ≤ 4294967295) :
  Calls Tryz.prog 69 #[.agg #[.int .u8 tos, .int .u16 id, .bool keep, .int .u8 ttl, .int .u8 proto, .int .u32 src, .int .u32 dst, so, sd], .int .u8 pr, sb] w fun e w' => e = .returned (.int .u16 (Mt.cks (psd src dst pr zs.length ++ zs))) ∧ Below w.heap.size w w' := by
 obtain ⟨i0, hi, hz0, hz1, hz2⟩ := info_parts info_u8
 obtain ⟨ab, cb, rfl, hl1, hm1⟩ := hI.slice
 have hb0 : Below w.heap.size w (w.alloc (.cells #[.int .u8 tos, .int .u16 id, .bool keep, .int .u8 ttl, .int .u8 proto, .int .u32 src, .int .u32 dst, so, sd] 26)) := (Below.refl _ _).alloc (Nat.le_refl _) _
 have hBs := (By_psd src dst pr zs.length hsr hds hpr).append hB
 have hln : (psd src dst pr zs.length ++ zs).length = 12 + zs.length := by rw [List.length_append, psd_length]
 have HBS := hide hBs
 have HLN := hide hln
 clear hBs hln
 go_enter Tryz.func69, Tryz.ntmps69
 go_wp2_with fail
 generalize w.alloc (.cells #[.int .u8 tos, .int .u16 id, .bool keep, .int .u8 ttl, .int .u8 proto, .int .u32 src, .int .u32 dst, so, sd] 26) = W0 at *
 refine (rpseudo_row src dst pr zs.length hsr hds W0).mono ?_
 rintro e w2 ⟨v2, rfl, hO2, hb2⟩
 have hw2 := hb0.trans (hb2.mono hb0.size)
 obtain ⟨a2, c2, rfl, _, _⟩ := (Ow.of_row hO2).slice
 have hI2 := hI.below hw2
 go_wp2_with (at_builtin; refine wpList_app _ rfl (.tmp 14) (.tmp 15) 24 rfl W0.heap.size 5 i0 Tryz.underlying24 hi hz0 hz1 hz2 _ (psd src dst pr zs.length) rfl hO2 w.heap.size _ zs rfl hI2 (by rw [psd_length]; omega) hb2.size ?_; intro v3 w3 hO3 hg3; have hw3 := below_app hw2 hO2 hg3 hb0.size hw2.size; clear hg3)
 have hO3' := Ow.of_row hO3
 clear hO2 hO3
 refine (rsum_any _ _ HBS.out (by rw [HLN.out]; exact hl) w3 hO3'.rd).mono ?_
 rintro e w4 ⟨rfl, hb4⟩
 have hw4 := hw3.trans (hb4.mono hw3.size)
 go_wp2_with fail
 go_ret
 exact ⟨rfl, hw4⟩

set_option maxHeartbeats 4000000 in
theorem rparseUdp_any (tos id ttl proto src dst : Int) (keep : Bool) (so sd : Value) (zs : List Int) (w : World) (hB : Mt.By zs) (hI : Rd w.heap.size w sd zs) (hl : 12 + zs.length ≤ 140737488355328) (hsr : 0 ≤ src ∧ src ≤ 4294967295) (hds : 0 ≤ dst ∧ dst ≤ 4294967295) :
  Calls Tryz.prog 29 #[.agg #[.int .u8 tos, .int .u16 id, .bool keep, .int .u8 ttl, .int .u8 proto, .int .u32 src, .int .u32 dst, so, sd]] w fun e w' => Below w.heap.size w w' ∧ ((pue proto src dst zs ≠ 0 ∧ e = .returned (.tuple #[.agg zud.toArray, .int .i64 (pue proto src dst zs)])) ∨
   (pue proto src dst zs = 0 ∧ ∃ ad cd, e = .returned (.tuple #[.agg #[.int .u16 (wat zs 0), .int .u16 (wat zs 2), .bool (wat zs 6 == 0), .slice ad (zs.length - 8) cd], .int .i64 0]) ∧ Ow w.heap.size w' (.slice ad (zs.length - 8) cd) (zs.drop 8))) := by
 obtain ⟨ad, cd, rfl, hl1, hm1⟩ := hI.slice
 have hb0 : Below w.heap.size w ((w.alloc (.cells #[.int .u8 tos, .int .u16 id, .bool keep, .int .u8 ttl, .int .u8 proto, .int .u32 src, .int .u32 dst, so, .slice ad zs.length cd] 26)).alloc (.cells zud.toArray 57)) := ((Below.refl _ _).alloc (Nat.le_refl _) _).alloc (by simp) _
 have p0 : ((w.alloc (.cells #[.int .u8 tos, .int .u16 id, .bool keep, .int .u8 ttl, .int .u8 proto, .int .u32 src, .int .u32 dst, so, .slice ad zs.length cd] 26)).alloc (.cells zud.toArray 57)).heap[w.heap.size]? = some (.cells #[.int .u8 tos, .int .u16 id, .bool keep, .int .u8 ttl, .int .u8 proto, .int .u32 src, .int .u32 dst, so, .slice ad zs.length cd] 26) := (Below.heap_alloc _ _ _ (by simp)).trans (heap_alloc_new w _)
 have r0 : ((w.alloc (.cells #[.int .u8 tos, .int .u16 id, .bool keep, .int .u8 ttl, .int .u8 proto, .int .u32 src, .int .u32 dst, so, .slice ad zs.length cd] 26)).alloc (.cells zud.toArray 57)).heap[w.heap.size + 1]? = some (.cells zud.toArray 57 (0, 0)) := by have := heap_alloc_new (w.alloc (.cells #[.int .u8 tos, .int .u16 id, .bool keep, .int .u8 ttl, .int .u8 proto, .int .u32 src, .int .u32 dst, so, .slice ad zs.length cd] 26)) (.cells zud.toArray 57); simpa using this
 have hs0 : ((w.alloc (.cells #[.int .u8 tos, .int .u16 id, .bool keep, .int .u8 ttl, .int .u8 proto, .int .u32 src, .int .u32 dst, so, .slice ad zs.length cd] 26)).alloc (.cells zud.toArray 57)).heap.size = w.heap.size + 1 + 1 := by simp
 have P0 := hide p0
 have R0 := hide r0
 have HS := hide hs0
 clear p0 r0 hs0
 go_enter Tryz.func29, Tryz.ntmps29
 go_upto_region 1 with fail
 generalize (w.alloc (.cells #[.int .u8 tos, .int .u16 id, .bool keep, .int .u8 ttl, .int .u8 proto, .int .u32 src, .int .u32 dst, so, .slice ad zs.length cd] 26)).alloc (.cells zud.toArray 57) = w1 at *
 have p1 := P0.out
 have r1 := R0.out
 have hw1 := hb0
 have hs1 : w.heap.size + 1 + 1 ≤ w1.heap.size := by have := HS.out; omega
 clear hb0 P0 R0 HS
 have K1 := block_cell p1
 by_cases c1 : proto = 17
 ·have t1 : (proto != 17) = false := by simp [c1]
  have C1 := hide c1
  by_cases c2 : zs.length < 8
  ·have t2 : (zs.length : Int) < 8 := by omega
   have HF : Hid (pue proto src dst zs = 3) := by show _ = _; unfold pue; rw [if_neg (by simp [C1.out]), if_pos c2]
   clear c1
   have R1 := block_cell r1
   have F1 := block_frozen r1
   go_wp2_with fail
   generalize hV : (((w1.setCell ⟨w.heap.size + 1, 0, none⟩ _).setCell ⟨w.heap.size + 1, 1, none⟩ _).setCell ⟨w.heap.size + 1, 2, none⟩ _).setCell ⟨w.heap.size + 1, 3, none⟩ _ = V8
   have hV9 : V8 = putRow w1 (w.heap.size + 1) 0 zud := hV.symm
   have hb8 : But (fun b => b = w.heap.size + 1) w1 V8 := by rw [hV9]; exact putRow_but (E := fun b => b = w.heap.size + 1) (n := w.heap.size + 1) rfl _ _ _ _ (But.refl _ _)
   have p8 := putRow_all zud r1 rfl
   rw [← hV9] at p8
   clear hV hV9
   have P8 := block_cell p8
   have hw8 : Below w.heap.size w V8 := (hw1).trans (hb8.below (hw1).size (fun k h e => by omega))
   exact bodyPost_ret (v := .tuple #[.agg zud.toArray, .int .i64 3]) (by simp [results, Tryz.results29, go_sem, P8]) rfl (⟨hw8, .inl ⟨by rw [HF.out]; decide, by rw [HF.out]⟩⟩)
  ·have t2 : ¬ (zs.length : Int) < 8 := by omega
   clear c1
   go_wp2_with fail
   refine (rget16_at _ zs hB 4 (by omega) (by omega) w1 (hI.below hw1)).mono ?_
   rw [getAt2_lit zs 4 4 rfl (by omega)]
   rintro e w2 ⟨rfl, n2, hn2⟩
   have hb2 : Later w1 w2 := by rw [hn2]; exact below_draw (Later.refl w1) n2
   clear hn2
   have p2 := later_keep hb2 p1
   have r2 := later_keep hb2 r1
   have hw2 : Below w.heap.size w w2 := hw1.trans (hb2.mono hw1.size)
   have hs2' : w.heap.size + 1 + 1 ≤ w2.heap.size := by have := hb2.size; omega
   clear hb2 p1 r1 hw1 hs1 K1
   have K2 := block_cell p2
   have b4 := wat_bd hB 4
   by_cases c3 : wat zs 4 = zs.length
   ·have t3 : (wat zs 4 != (zs.length : Int)) = false := by simp [c3]
    have hsm : zs.length ≤ 65535 := by omega
    have C3 := hide c3
    clear c3
    go_wp2_with fail
    refine (rget16_at _ zs hB 6 (by omega) (by omega) w2 (hI.below hw2)).mono ?_
    rw [getAt2_lit zs 6 6 rfl (by omega)]
    rintro e w5 ⟨rfl, n5, hn5⟩
    have hb5 : Later w2 w5 := by rw [hn5]; exact below_draw (Later.refl w2) n5
    clear hn5
    have p5 := later_keep hb5 p2
    have r5 := later_keep hb5 r2
    have hw5 : Below w.heap.size w w5 := hw2.trans (hb5.mono hw2.size)
    have hs5 : w.heap.size + 1 + 1 ≤ w5.heap.size := by have := hb5.size; omega
    clear hb5 p2 r2 hw2 hs2' K2
    have K5 := block_cell p5
    generalize g6 : wat zs 6 = x6
    have G6 := hide g6
    clear g6
    by_cases c4 : x6 = 0
    ·have t4 : (x6 == 0) = true := by simp [c4]
     have HF : Hid (pue proto src dst zs = 0) := by show _ = _; unfold pue; rw [if_neg (by simp [C1.out]), if_neg c2, if_neg (by simp [C3.out]), if_neg (by rw [G6.out]; simp [c4])]
     clear c4
     obtain ⟨b, off, cap, e0, hlc, hmc, hbb, hcs⟩ := hI.cells (by omega)
     have hcl := e0
     simp at hcl
     obtain ⟨rfl, rfl⟩ := hcl
     clear e0 hcs
     go_wp2_with fail
     refine (rget16_at _ zs hB 0 (by omega) (by omega) w5 (hI.below hw5)).mono ?_
     rw [getAt2_lit zs 0 0 rfl (by omega)]
     rintro e wa ⟨rfl, na, hna⟩
     have hba : Later w5 wa := by rw [hna]; exact below_draw (Later.refl w5) na
     clear hna
     have hwa := hw5.trans (hba.mono hw5.size)
     go_wp2_with fail
     refine (rget16_at _ zs hB 2 (by omega) (by omega) wa (hI.below hwa)).mono ?_
     rw [getAt2_lit zs 2 2 rfl (by omega)]
     rintro e wb ⟨rfl, nb, hnb⟩
     have hbb2 : Later wa wb := by rw [hnb]; exact below_draw (Later.refl wa) nb
     clear hnb
     have hwb := hwa.trans (hbb2.mono hwa.size)
     have rb := later_keep hbb2 (later_keep hba r5)
     have hsb : w.heap.size + 1 + 1 ≤ wb.heap.size := by have := hba.size; have := hbb2.size; omega
     clear hba hbb2
     go_upto_region 12 with fail
     generalize hV : wb.alloc _ = Wc
     have lc : Later wb Wc := by rw [← hV]; exact (Below.refl _ wb).alloc (Nat.le_refl _) _
     have mc : Wc.heap[wb.heap.size]? = some (.cells #[.int .u16 (wat zs 0), .int .u16 (wat zs 2), .bool true, .slice none 0 0] 57 (0, 0)) := by rw [← hV]; exact heap_alloc_new wb _
     clear hV
     have hwc := hwb.trans (lc.mono hwb.size)
     have rc := later_keep lc rb
     refine anyT_begin (R := But (fun b => b = wb.heap.size)) 7 rfl (by kernel_rfl) ?_
     have hd : Later Wc Wc.drew := Later.drew Wc
     have md := later_keep hd mc
     have rd := later_keep hd rc
     have hwd : Below w.heap.size w Wc.drew := hwc.trans (hd.mono hwc.size)
     generalize Wc.drew = Wd at *
     have hr : Rd w.heap.size Wd (.slice (some ⟨b, off, none⟩) zs.length cd) zs := hI.below hwd
     have hs8 : Rd w.heap.size Wd (.slice (if cd = 8 then some (⟨b, off, none⟩ : Addr) else some ⟨b, off + 8, none⟩) (zs.length - 8) (cd - 8)) (zs.drop 8) := hr.cutAt 8 (by omega)
     generalize hE8 : (if cd = 8 then some (⟨b, off, none⟩ : Addr) else some ⟨b, off + 8, none⟩) = ad8 at *
     have i8 : (8 : Int) ≤ zs.length := by omega
     have i8c : (zs.length : Int) ≤ cd := by omega
     have i8n : ¬ zs.length < 8 := by omega
     refine tV (But.pre _) 0 rfl rfl ?_; apply Exists.intro; refine ⟨fun v1 hv1 => ?_, ?_⟩; (· (go_simp; rfl)); simp only [Act.put, sA, sB, sC]
     refine tV (But.pre _) 2 rfl rfl ?_; apply Exists.intro; refine ⟨fun v1 hv1 => ?_, ?_⟩; (· (go_simp; rfl)); simp only [Act.put, sA, sB, sC]
     refine tV (But.pre _) 3 rfl rfl ⟨.slice ad8 (zs.length - 8) (cd - 8), fun v1 hv1 => by go_simp, ?_⟩
     simp only [Act.put, sA, sB, sC]
     refine anyT_one 1 rfl (by kernel_rfl) rfl ?_
     have kd := block_cell md
     unfold Oper.wp
     go_simp
     refine ⟨But.refl _ _, ?_⟩
     refine anyT_one 4 rfl (by kernel_rfl) rfl ?_
     obtain ⟨i0, hi, hz0, hz1, hz2⟩ := info_parts info_u8
     have hsd : wb.heap.size + 1 ≤ Wd.heap.size := (bl9 md)
     obtain ⟨v3, W3, hrun3, hown3, hgr3⟩ := run_app (P := Tryz.prog) Wd 24 24 5 (wb.heap.size + 1) i0 Tryz.underlying24 hi hz0 hz1 hz2 (.slice none 0 0) [] (World.ownsRow_nil _ _ _ _) w.heap.size _ (zs.drop 8) hs8 (by simp; omega) hsd
     have hl3 : Later Wd W3 := (Below.refl _ Wd).grown hgr3 (Nat.le_refl _) (fun _ e => by cases e)
     have hO3 := Ow.of_row hown3
     rw [List.nil_append] at hO3
     clear hown3
     obtain ⟨a3, c3, rfl, hq3, hm3⟩ := hO3.slice
     rw [List.length_drop] at hO3 hrun3
     refine wp_app (.tmp 43) (.tmp 45) 24 rfl _ _ rfl rfl _ W3 hrun3 ⟨But.of hl3, ?_⟩
     simp only [Act.put, sA, sB, sC]
     refine tV (But.pre _) 5 rfl rfl ?_; apply Exists.intro; refine ⟨fun v1 hv1 => ?_, ?_⟩; (· (go_simp; rfl)); simp only [Act.put, sA, sB, sC]
     have m3 := later_keep hl3 md
     have r3 := later_keep hl3 rd
     have k3 := block_cell m3
     have f3 : ∀ j, W3.frozen? ⟨wb.heap.size, j, none⟩ = false := block_frozen m3
     clear kd
     refine anyT_one 6 rfl (by kernel_rfl) rfl ?_
     unfold Oper.wp
     go_simp
     refine ⟨(But.refl (fun b => b = wb.heap.size) _).setCell (p := ⟨wb.heap.size, 3, none⟩) rfl _, ?_⟩
     refine anyT_done (by kernel_rfl) ?_
     have m4 : (W3.setCell ⟨wb.heap.size, 3, none⟩ (.slice a3 (zs.length - 8) c3)).heap[wb.heap.size]? = some (.cells #[.int .u16 (wat zs 0), .int .u16 (wat zs 2), .bool true, .slice a3 (zs.length - 8) c3] 57 (0, 0)) := heap_set1 m3 3 _
     have E4 : But (fun b => b = wb.heap.size) W3 (W3.setCell ⟨wb.heap.size, 3, none⟩ (.slice a3 (zs.length - 8) c3)) := (But.refl (fun b => b = wb.heap.size) W3).setCell (p := ⟨wb.heap.size, 3, none⟩) rfl _
     have hw3 := hwd.trans (hl3.mono hwd.size)
     have hs3 := hl3.size
     generalize W3.setCell ⟨wb.heap.size, 3, none⟩ (.slice a3 (zs.length - 8) c3) = W4 at *
     have hw4 : Below w.heap.size w W4 := hw3.trans (E4.below hw3.size (fun k h e => by omega))
     have r4 := (E4.block (w.heap.size + 1) (by omega) (by omega)).trans r3
     have hO4 := hO3.but E4 (fun b h e => by omega)
     have M4 := block_cell m4
     have R4 := block_cell r4
     have F4 := block_frozen r4
     clear k3 f3
     go_wp2_with fail
     generalize hV : (((W4.setCell ⟨w.heap.size + 1, 0, none⟩ _).setCell ⟨w.heap.size + 1, 1, none⟩ _).setCell ⟨w.heap.size + 1, 2, none⟩ _).setCell ⟨w.heap.size + 1, 3, none⟩ _ = V8
     have hV9 : V8 = putRow W4 (w.heap.size + 1) 0 [.int .u16 (wat zs 0), .int .u16 (wat zs 2), .bool true, .slice a3 (zs.length - 8) c3] := hV.symm
     have hb8 : But (fun b => b = w.heap.size + 1) W4 V8 := by rw [hV9]; exact putRow_but (E := fun b => b = w.heap.size + 1) (n := w.heap.size + 1) rfl _ _ _ _ (But.refl _ _)
     have p8 := putRow_all [.int .u16 (wat zs 0), .int .u16 (wat zs 2), .bool true, .slice a3 (zs.length - 8) c3] r4 rfl
     rw [← hV9] at p8
     clear hV hV9
     have P8 := block_cell p8
     have hw8 : Below w.heap.size w V8 := (hw4).trans (hb8.below (hw4).size (fun k h e => by omega))
     exact bodyPost_ret (v := .tuple #[.agg #[.int .u16 (wat zs 0), .int .u16 (wat zs 2), .bool true, .slice a3 (zs.length - 8) c3], .int .i64 0]) (by simp [results, Tryz.results29, go_sem, P8]) rfl (⟨hw8, .inr ⟨HF.out, a3, c3, by rw [G6.out, t4], (hO4.but hb8 (fun b h e => by omega)).mono (by omega)⟩⟩)
    ·have t4 : (x6 == 0) = false := by simp [c4]
     have C4 := hide c4
     clear c4
     go_wp2_with fail
     rw [C1.out]
     refine (rsum3_any tos id ttl 17 src dst 17 keep so _ _ zs w5 hB ((hI.below hw5).mono hw5.size) (by omega) (by omega) hsr hds).mono ?_
     rintro e w6 ⟨rfl, hb6⟩
     have r6 := later_keep hb6 r5
     have hw6 : Below w.heap.size w w6 := hw5.trans (hb6.mono hw5.size)
     have hs6 : w.heap.size + 1 + 1 ≤ w6.heap.size := by have := hb6.size; omega
     clear hb6 r5 p5 K5
     by_cases c5 : Mt.cks (psd src dst 17 zs.length ++ zs) = 0
     ·have t5 : (Mt.cks (psd src dst 17 zs.length ++ zs) != 0) = false := by simp [c5]
      have HF : Hid (pue proto src dst zs = 0) := by show _ = _; unfold pue; rw [if_neg (by simp [C1.out]), if_neg c2, if_neg (by simp [C3.out]), if_neg (by simp [c5])]
      clear c5
      obtain ⟨b, off, cap, e0, hlc, hmc, hbb, hcs⟩ := hI.cells (by omega)
      have hcl := e0
      simp at hcl
      obtain ⟨rfl, rfl⟩ := hcl
      clear e0 hcs
      go_wp2_with fail
      refine (rget16_at _ zs hB 0 (by omega) (by omega) w6 (hI.below hw6)).mono ?_
      rw [getAt2_lit zs 0 0 rfl (by omega)]
      rintro e wa ⟨rfl, na, hna⟩
      have hba : Later w6 wa := by rw [hna]; exact below_draw (Later.refl w6) na
      clear hna
      have hwa := hw6.trans (hba.mono hw6.size)
      go_wp2_with fail
      refine (rget16_at _ zs hB 2 (by omega) (by omega) wa (hI.below hwa)).mono ?_
      rw [getAt2_lit zs 2 2 rfl (by omega)]
      rintro e wb ⟨rfl, nb, hnb⟩
      have hbb2 : Later wa wb := by rw [hnb]; exact below_draw (Later.refl wa) nb
      clear hnb
      have hwb := hwa.trans (hbb2.mono hwa.size)
      have rb := later_keep hbb2 (later_keep hba r6)
      have hsb : w.heap.size + 1 + 1 ≤ wb.heap.size := by have := hba.size; have := hbb2.size; omega
      clear hba hbb2
      go_upto_region 12 with fail
      generalize hV : wb.alloc _ = Wc
      have lc : Later wb Wc := by rw [← hV]; exact (Below.refl _ wb).alloc (Nat.le_refl _) _
      have mc : Wc.heap[wb.heap.size]? = some (.cells #[.int .u16 (wat zs 0), .int .u16 (wat zs 2), .bool false, .slice none 0 0] 57 (0, 0)) := by rw [← hV]; exact heap_alloc_new wb _
      clear hV
      have hwc := hwb.trans (lc.mono hwb.size)
      have rc := later_keep lc rb
      refine anyT_begin (R := But (fun b => b = wb.heap.size)) 7 rfl (by kernel_rfl) ?_
      have hd : Later Wc Wc.drew := Later.drew Wc
      have md := later_keep hd mc
      have rd := later_keep hd rc
      have hwd : Below w.heap.size w Wc.drew := hwc.trans (hd.mono hwc.size)
      generalize Wc.drew = Wd at *
      have hr : Rd w.heap.size Wd (.slice (some ⟨b, off, none⟩) zs.length cd) zs := hI.below hwd
      have hs8 : Rd w.heap.size Wd (.slice (if cd = 8 then some (⟨b, off, none⟩ : Addr) else some ⟨b, off + 8, none⟩) (zs.length - 8) (cd - 8)) (zs.drop 8) := hr.cutAt 8 (by omega)
      generalize hE8 : (if cd = 8 then some (⟨b, off, none⟩ : Addr) else some ⟨b, off + 8, none⟩) = ad8 at *
      have i8 : (8 : Int) ≤ zs.length := by omega
      have i8c : (zs.length : Int) ≤ cd := by omega
      have i8n : ¬ zs.length < 8 := by omega
      refine tV (But.pre _) 0 rfl rfl ?_; apply Exists.intro; refine ⟨fun v1 hv1 => ?_, ?_⟩; (· (go_simp; rfl)); simp only [Act.put, sA, sB, sC]
      refine tV (But.pre _) 2 rfl rfl ?_; apply Exists.intro; refine ⟨fun v1 hv1 => ?_, ?_⟩; (· (go_simp; rfl)); simp only [Act.put, sA, sB, sC]
      refine tV (But.pre _) 3 rfl rfl ⟨.slice ad8 (zs.length - 8) (cd - 8), fun v1 hv1 => by go_simp, ?_⟩
      simp only [Act.put, sA, sB, sC]
      refine anyT_one 1 rfl (by kernel_rfl) rfl ?_
      have kd := block_cell md
      unfold Oper.wp
      go_simp
      refine ⟨But.refl _ _, ?_⟩
      refine anyT_one 4 rfl (by kernel_rfl) rfl ?_
      obtain ⟨i0, hi, hz0, hz1, hz2⟩ := info_parts info_u8
      have hsd : wb.heap.size + 1 ≤ Wd.heap.size := (bl9 md)
      obtain ⟨v3, W3, hrun3, hown3, hgr3⟩ := run_app (P := Tryz.prog) Wd 24 24 5 (wb.heap.size + 1) i0 Tryz.underlying24 hi hz0 hz1 hz2 (.slice none 0 0) [] (World.ownsRow_nil _ _ _ _) w.heap.size _ (zs.drop 8) hs8 (by simp; omega) hsd
      have hl3 : Later Wd W3 := (Below.refl _ Wd).grown hgr3 (Nat.le_refl _) (fun _ e => by cases e)
      have hO3 := Ow.of_row hown3
      rw [List.nil_append] at hO3
      clear hown3
      obtain ⟨a3, c3, rfl, hq3, hm3⟩ := hO3.slice
      rw [List.length_drop] at hO3 hrun3
      refine wp_app (.tmp 43) (.tmp 45) 24 rfl _ _ rfl rfl _ W3 hrun3 ⟨But.of hl3, ?_⟩
      simp only [Act.put, sA, sB, sC]
      refine tV (But.pre _) 5 rfl rfl ?_; apply Exists.intro; refine ⟨fun v1 hv1 => ?_, ?_⟩; (· (go_simp; rfl)); simp only [Act.put, sA, sB, sC]
      have m3 := later_keep hl3 md
      have r3 := later_keep hl3 rd
      have k3 := block_cell m3
      have f3 : ∀ j, W3.frozen? ⟨wb.heap.size, j, none⟩ = false := block_frozen m3
      clear kd
      refine anyT_one 6 rfl (by kernel_rfl) rfl ?_
      unfold Oper.wp
      go_simp
      refine ⟨(But.refl (fun b => b = wb.heap.size) _).setCell (p := ⟨wb.heap.size, 3, none⟩) rfl _, ?_⟩
      refine anyT_done (by kernel_rfl) ?_
      have m4 : (W3.setCell ⟨wb.heap.size, 3, none⟩ (.slice a3 (zs.length - 8) c3)).heap[wb.heap.size]? = some (.cells #[.int .u16 (wat zs 0), .int .u16 (wat zs 2), .bool false, .slice a3 (zs.length - 8) c3] 57 (0, 0)) := heap_set1 m3 3 _
      have E4 : But (fun b => b = wb.heap.size) W3 (W3.setCell ⟨wb.heap.size, 3, none⟩ (.slice a3 (zs.length - 8) c3)) := (But.refl (fun b => b = wb.heap.size) W3).setCell (p := ⟨wb.heap.size, 3, none⟩) rfl _
      have hw3 := hwd.trans (hl3.mono hwd.size)
      have hs3 := hl3.size
      generalize W3.setCell ⟨wb.heap.size, 3, none⟩ (.slice a3 (zs.length - 8) c3) = W4 at *
      have hw4 : Below w.heap.size w W4 := hw3.trans (E4.below hw3.size (fun k h e => by omega))
      have r4 := (E4.block (w.heap.size + 1) (by omega) (by omega)).trans r3
      have hO4 := hO3.but E4 (fun b h e => by omega)
      have M4 := block_cell m4
      have R4 := block_cell r4
      have F4 := block_frozen r4
      clear k3 f3
      go_wp2_with fail
      generalize hV : (((W4.setCell ⟨w.heap.size + 1, 0, none⟩ _).setCell ⟨w.heap.size + 1, 1, none⟩ _).setCell ⟨w.heap.size + 1, 2, none⟩ _).setCell ⟨w.heap.size + 1, 3, none⟩ _ = V8
      have hV9 : V8 = putRow W4 (w.heap.size + 1) 0 [.int .u16 (wat zs 0), .int .u16 (wat zs 2), .bool false, .slice a3 (zs.length - 8) c3] := hV.symm
      have hb8 : But (fun b => b = w.heap.size + 1) W4 V8 := by rw [hV9]; exact putRow_but (E := fun b => b = w.heap.size + 1) (n := w.heap.size + 1) rfl _ _ _ _ (But.refl _ _)
      have p8 := putRow_all [.int .u16 (wat zs 0), .int .u16 (wat zs 2), .bool false, .slice a3 (zs.length - 8) c3] r4 rfl
      rw [← hV9] at p8
      clear hV hV9
      have P8 := block_cell p8
      have hw8 : Below w.heap.size w V8 := (hw4).trans (hb8.below (hw4).size (fun k h e => by omega))
      exact bodyPost_ret (v := .tuple #[.agg #[.int .u16 (wat zs 0), .int .u16 (wat zs 2), .bool false, .slice a3 (zs.length - 8) c3], .int .i64 0]) (by simp [results, Tryz.results29, go_sem, P8]) rfl (⟨hw8, .inr ⟨HF.out, a3, c3, by rw [G6.out, t4], (hO4.but hb8 (fun b h e => by omega)).mono (by omega)⟩⟩)
     ·have t5 : (Mt.cks (psd src dst 17 zs.length ++ zs) != 0) = true := by simp [c5]
      have HF : Hid (pue proto src dst zs = 5) := by show _ = _; unfold pue; rw [if_neg (by simp [C1.out]), if_neg c2, if_neg (by simp [C3.out]), if_pos ⟨by rw [G6.out]; exact C4.out, c5⟩]
      clear c5
      have R1 := block_cell r6
      have F1 := block_frozen r6
      go_wp2_with fail
      generalize hV : (((w6.setCell ⟨w.heap.size + 1, 0, none⟩ _).setCell ⟨w.heap.size + 1, 1, none⟩ _).setCell ⟨w.heap.size + 1, 2, none⟩ _).setCell ⟨w.heap.size + 1, 3, none⟩ _ = V8
      have hV9 : V8 = putRow w6 (w.heap.size + 1) 0 zud := hV.symm
      have hb8 : But (fun b => b = w.heap.size + 1) w6 V8 := by rw [hV9]; exact putRow_but (E := fun b => b = w.heap.size + 1) (n := w.heap.size + 1) rfl _ _ _ _ (But.refl _ _)
      have p8 := putRow_all zud r6 rfl
      rw [← hV9] at p8
      clear hV hV9
      have P8 := block_cell p8
      have hw8 : Below w.heap.size w V8 := (hw6).trans (hb8.below (hw6).size (fun k h e => by omega))
      exact bodyPost_ret (v := .tuple #[.agg zud.toArray, .int .i64 5]) (by simp [results, Tryz.results29, go_sem, P8]) rfl (⟨hw8, .inl ⟨by rw [HF.out]; decide, by rw [HF.out]⟩⟩)
   ·have t3 : (wat zs 4 != (zs.length : Int)) = true := by simp [c3]
    have HF : Hid (pue proto src dst zs = 4) := by show _ = _; unfold pue; rw [if_neg (by simp [C1.out]), if_neg c2, if_pos c3]
    clear c3
    have R1 := block_cell r2
    have F1 := block_frozen r2
    go_wp2_with fail
    generalize hV : (((w2.setCell ⟨w.heap.size + 1, 0, none⟩ _).setCell ⟨w.heap.size + 1, 1, none⟩ _).setCell ⟨w.heap.size + 1, 2, none⟩ _).setCell ⟨w.heap.size + 1, 3, none⟩ _ = V8
    have hV9 : V8 = putRow w2 (w.heap.size + 1) 0 zud := hV.symm
    have hb8 : But (fun b => b = w.heap.size + 1) w2 V8 := by rw [hV9]; exact putRow_but (E := fun b => b = w.heap.size + 1) (n := w.heap.size + 1) rfl _ _ _ _ (But.refl _ _)
    have p8 := putRow_all zud r2 rfl
    rw [← hV9] at p8
    clear hV hV9
    have P8 := block_cell p8
    have hw8 : Below w.heap.size w V8 := (hw2).trans (hb8.below (hw2).size (fun k h e => by omega))
    exact bodyPost_ret (v := .tuple #[.agg zud.toArray, .int .i64 4]) (by simp [results, Tryz.results29, go_sem, P8]) rfl (⟨hw8, .inl ⟨by rw [HF.out]; decide, by rw [HF.out]⟩⟩)
 ·have t1 : (proto != 17) = true := by simp [c1]
  have HF : Hid (pue proto src dst zs = 12) := by show _ = _; unfold pue; rw [if_pos c1]
  clear c1
  have R1 := block_cell r1
  have F1 := block_frozen r1
  go_wp2_with fail
  generalize hV : (((w1.setCell ⟨w.heap.size + 1, 0, none⟩ _).setCell ⟨w.heap.size + 1, 1, none⟩ _).setCell ⟨w.heap.size + 1, 2, none⟩ _).setCell ⟨w.heap.size + 1, 3, none⟩ _ = V8
  have hV9 : V8 = putRow w1 (w.heap.size + 1) 0 zud := hV.symm
  have hb8 : But (fun b => b = w.heap.size + 1) w1 V8 := by rw [hV9]; exact putRow_but (E := fun b => b = w.heap.size + 1) (n := w.heap.size + 1) rfl _ _ _ _ (But.refl _ _)
  have p8 := putRow_all zud r1 rfl
  rw [← hV9] at p8
  clear hV hV9
  have P8 := block_cell p8
  have hw8 : Below w.heap.size w V8 := (hw1).trans (hb8.below (hw1).size (fun k h e => by omega))
  exact bodyPost_ret (v := .tuple #[.agg zud.toArray, .int .i64 12]) (by simp [results, Tryz.results29, go_sem, P8]) rfl (⟨hw8, .inl ⟨by rw [HF.out]; decide, by rw [HF.out]⟩⟩)
end Go.Proofs.YtghpakfjpdifaaaGreatDoor

/- The document's options of a header's bytes. -/
namespace Go.Proofs.YtghpakfjpdifaaaGreatDoor
open Go.RowKit Go.Shelf
set_option maxRecDepth 100000
set_option linter.unusedVariables false
set_option linter.unusedSimpArgs false

/-- One more option, behind those of one's own. -/
theorem OwO_snoc {base : Nat} {A B : World} {vr v2 s : Value} {os : List Opt} {ss : List Value} {k : Int} {dt : List Int} (hsl : ss.length = os.length) (hdat : ∀ j, j < os.length → Ow base A (ss[j]?.getD undef) (os[j]?.getD (0, [])).2)
  (hrowA : A.ownsRow base 115 2 vr os.length (rowO os ss)) (hs : Ow base A s dt) (hrow2 : B.ownsRow base 115 2 v2 (os.length + 1) (rowO os ss ++ [.int .u8 k, s])) (hg : A.grownBy B vr.ownBlock) : OwO base B v2 (os ++ [(k, dt)]) := by
 have hdk : ∀ v zs', Ow base A v zs' → Ow base B v zs' := fun v zs' h => by
  rcases h with h | ⟨g, cp, cur, e1, e2, e3, e4, e5, e6, e7⟩
  ·exact .inl h
  ·refine .inr ⟨g, cp, cur, e1, e2, e3, e4, e5, (hg.block g (bl9 e6) (fun e => ?_)).trans e6, e7⟩
   rcases hrowA.2 with ⟨rfl, _⟩ | ⟨g', cp', cur', rfl, hg', hh', _⟩
   ·cases e
   ·cases e
    rw [e6] at hh'
    simp at hh'
 refine ⟨ss ++ [s], by simp [hsl], ?_, ?_⟩
 ·rw [List.length_append, List.length_singleton, rowO_snoc os ss hsl]
  exact hrow2
 ·intro j hj
  simp at hj
  by_cases h : j < os.length
  ·rw [List.getElem?_append_left h, List.getElem?_append_left (by omega)]
   exact hdk _ _ (hdat j h)
  ·obtain rfl : j = os.length := by omega
   rw [List.getElem?_append_right (Nat.le_refl _), List.getElem?_append_right (by omega), hsl]
   simpa using hdk _ _ hs
theorem new_cells (W : World) (xs : List Value) (t : TypeId) : ∀ j u, xs[j]? = some u → (W.alloc (.cells xs.toArray t)).cell? ((⟨W.heap.size, 0, none⟩ : Addr).add j) = some u := fun j u hj => by
 rw [show (⟨W.heap.size, 0, none⟩ : Addr).add j = ⟨W.heap.size, j, none⟩ from by unfold Addr.add; split <;> simp_all, block_cell (heap_alloc_new W _) j]
 simpa using hj

set_option maxRecDepth 100000 in
set_option maxHeartbeats 4000000 in
theorem roptions_any (sv : Value) (zs : List Int) (hB : Mt.By zs) (hl : zs.length ≤ 40) (w : World) (hI : Rd w.heap.size w sv zs) :
  Calls Tryz.prog 73 #[sv] w fun e w' => Below w.heap.size w w' ∧ ((opts zs = none ∧ e = .returned (.tuple #[.slice none 0 0, .bool false])) ∨ ∃ os v, opts zs = some os ∧ e = .returned (.tuple #[v, .bool true]) ∧ OwO w.heap.size w' v os) := by
 obtain ⟨a, cap, rfl, hc1, hc2⟩ := hI.slice
 obtain ⟨i0, hi, hz0, hz1, hz2⟩ := info_parts info_opt
 obtain ⟨j0, hj, hy0, hy1, hy2⟩ := info_parts info_u8
 go_enter Tryz.func73, Tryz.ntmps73
 go_wp2_with fail
 go_loopw [4, 5] (fun v i wr => ∃ (p : Nat) (os : List Opt), p ≤ zs.length ∧ os.length ≤ p ∧ i = .int .i64 (p : Int) ∧ opts zs = (opts (zs.drop p)).map (os ++ ·) ∧ OwO w.heap.size wr v os ∧ Below w.heap.size w wr) (fun _ i _ => zs.length - (intOf i).toNat)
 case atStart => exact ⟨0, [], by omega, by simp, rfl, by rw [List.drop_zero]; cases opts zs <;> rfl, OwO.nil _ _, Below.refl _ _⟩
 case round =>
  obtain ⟨p, os, hp, hop, rfl, hinv, hOw, hnx⟩ := hrel
  have HINV := hide hinv
  clear hinv
  by_cases hlt : p < zs.length
  ·obtain ⟨b, off, cap', e, _, _, hbb, hcs⟩ := hI.cells (by omega)
   simp at e
   obtain ⟨rfl, rfl⟩ := e
   have hcx : ∀ j, j < zs.length → wr.cell? ⟨b, off + j, none⟩ = some (.int .u8 (zs[j]?.getD 0)) := fun j h => (hnx.cell (p := ⟨b, off + j, none⟩) hbb).trans (hcs j h)
   clear hcs
   have c0 := hcx p hlt
   have b0 := hB.at p
   have HD := hide (drop_eq zs p hlt)
   have hlt' : (p : Int) < zs.length := by omega
   have HCX := hide hcx
   clear hcx
   generalize hx : zs[p]?.getD 0 = x at c0 b0 HD
   have HX := hide hx
   clear hx
   by_cases x0 : x = 0
   ·have t0 : (x == 0) = true := by simp [x0]
    have X0 := hide x0
    clear x0
    go_wp2_with fail
    rename World => V
    go_loopw [5] (fun i wr => ∃ q : Nat, p ≤ q ∧ q ≤ zs.length ∧ i = .int .i64 (q : Int) ∧ (∀ j, p ≤ j → j < q → zs[j]?.getD 0 = 0) ∧ wr = V) (fun i _ => zs.length - (intOf i).toNat)
    case atStart => exact ⟨p, Nat.le_refl _, hp, rfl, fun j h1 h2 => by omega, rfl⟩
    case round =>
     obtain ⟨q, hq1, hq2, rfl, hz, hVV⟩ := hrel
     subst hVV
     have HZ := hide hz
     clear hz c0 t0
     by_cases hq : q < zs.length
     ·have cq := HCX.out q hq
      have hq' : (q : Int) < zs.length := by omega
      have bq := hB.at q
      generalize hy : zs[q]?.getD 0 = y at cq bq
      have HY := hide hy
      clear hy
      by_cases y0 : y = 0
      ·have t1 : (y != 0) = false := by simp [y0]
       have Y0 := hide y0
       clear y0
       have hz1 : ∀ j, p ≤ j → j < q + 1 → zs[j]?.getD 0 = 0 := fun j h1 h2 => by
        rcases Nat.lt_or_ge j q with h | h
        ·exact HZ.out j h1 h
        ·obtain rfl : j = q := by omega
         rw [HY.out]
         exact Y0.out
       have HZ1 := hide hz1
       clear hz1
       go_wp2_with fail
       go_roundw
       case rel => exact ⟨q + 1, by omega, by omega, by go_num, HZ1.out, trivial⟩
       case measure => simp [intOf]; omega
      ·have t1 : (y != 0) = true := by simp [y0]
       have Y0 := hide y0
       clear y0
       have hno : opts (zs.drop p) = none := by
        rw [HD.out, X0.out, opts_zero, if_neg]
        intro h
        have hqp : p ≠ q := fun e => Y0.out (by rw [← HY.out, ← e, HX.out]; exact X0.out)
        refine Y0.out (h y ?_)
        rw [← HY.out]
        refine List.mem_iff_getElem?.2 ⟨q - (p + 1), ?_⟩
        rw [List.getElem?_drop, show p + 1 + (q - (p + 1)) = q from by omega]
        simp [hq]
       have HNO : Hid (opts zs = none) := by show _ = _; rw [HINV.out, hno]; rfl
       clear hno
       go_wp2_with fail
       exact bodyPost_ret (v := .tuple #[.slice none 0 0, .bool false]) (by simp [results, Tryz.results73, go_sem]) rfl (⟨hnx, .inl ⟨HNO.out, rfl⟩⟩)
     ·have hq' : ¬ (q : Int) < zs.length := by omega
      have hyes : opts (zs.drop p) = some [] := by
       rw [HD.out, X0.out, opts_zero, if_pos]
       intro y hy
       obtain ⟨j, hj⟩ := List.mem_iff_getElem?.1 hy
       have hjl := (List.getElem?_eq_some_iff.1 hj).1
       rw [List.getElem?_drop] at hj
       simp at hjl
       have := HZ.out (p + 1 + j) (by omega) (by omega)
       rw [hj] at this
       exact this
      have HYES : Hid (opts zs = some os) := by show _ = _; rw [HINV.out, hyes]; simp
      clear hyes
      go_wp2_with fail
      exact bodyPost_ret (v := .tuple #[u4, .bool true]) (by simp [results, Tryz.results73, go_sem]) rfl (⟨hnx, .inr ⟨os, HYES.out, u4, rfl, hOw⟩⟩)
   ·have t0 : (x == 0) = false := by simp [x0]
    have X0 := hide x0
    clear x0
    obtain ⟨ss, hsl, hrow, hdat⟩ := hOw
    by_cases x1 : x = 1
    ·have t1 : (x == 1) = true := by simp [x1]
     subst x1
     have hla : Later wr (wr.alloc (.cells #[.int .u8 1, .slice none 0 0] 115)) := (Below.refl _ wr).alloc (Nat.le_refl _) _
     have HRA := hide (ownsRow_ck hrow (CK.of hla))
     have hdA : ∀ j, j < os.length → Ow w.heap.size (wr.alloc (.cells #[.int .u8 1, .slice none 0 0] 115)) (ss[j]?.getD undef) (os[j]?.getD (0, [])).2 := fun j h => (hdat j h).ck (CK.of hla)
     have HNW := hide (new_cells wr [.int .u8 1, .slice none 0 0] 115)
     have HSZ := hide hnx.size
     clear hrow hdat
     go_wp2_with (at_builtin; refine wpList_append_own _ rfl _ _ 58 rfl w.heap.size 115 i0 (.agg #[.int .u8 0, .slice none 0 0]) 2 32 Tryz.underlying58 hi hz0 hz1 hz2 rfl (by decide) _ os.length (rowO os ss) rfl HRA.out ⟨wr.heap.size, 0, none⟩ 1 1 [.int .u8 1, .slice none 0 0] rfl rfl HNW.out (by intro u hu; simp at hu; rcases hu with rfl | rfl <;> rfl) (by simp only [maxLen]; omega) (by omega) (by have := HSZ.out; simp; omega) ?_)
     intro v2 W2 hrow2 hg2 hnn
     have hw2 : Below w.heap.size w W2 := below_app (hnx.trans (hla.mono hnx.size)) HRA.out hg2 (Nat.le_refl _) (by have := hnx.size; simp; omega)
     have hO2 : OwO w.heap.size W2 v2 (os ++ [(1, [])]) := OwO_snoc hsl hdA HRA.out (.inl ⟨rfl, rfl⟩) hrow2 hg2
     clear hrow2 hg2 hnn HNW HRA hdA hla
     go_wp2_with fail
     go_roundw
     case rel => exact ⟨p + 1, _, by omega, by simp; omega, by go_num, by rw [HINV.out, HD.out, opts_one]; cases opts (zs.drop (p + 1)) <;> simp, hO2, hw2⟩
     case measure => simp [intOf]; omega
    ·have t1 : (x == 1) = false := by simp [x1]
     have X1 := hide x1
     clear x1
     by_cases hs2 : zs.length ≤ p + 1
     ·have HNO : Hid (opts zs = none) := by
       show _ = _
       rw [HINV.out, HD.out, List.drop_of_length_le (by omega), opts_bare x X0.out X1.out]
       rfl
      have t2 : (zs.length : Int) ≤ (p : Int) + 1 := by omega
      go_wp2_with fail
      exact bodyPost_ret (v := .tuple #[.slice none 0 0, .bool false]) (by simp [results, Tryz.results73, go_sem]) rfl (⟨hnx, .inl ⟨HNO.out, rfl⟩⟩)
     ·have hp1 : p + 1 < zs.length := by omega
      have t2 : ¬ (zs.length : Int) ≤ (p : Int) + 1 := by omega
      have t2' : (p : Int) + 1 < zs.length := by omega
      have c1 := HCX.out (p + 1) hp1
      have b1 := hB.at (p + 1)
      have HD2 := hide (drop_eq zs (p + 1) hp1)
      generalize hz : zs[p + 1]?.getD 0 = z at c1 b1 HD2
      have HZ := hide hz
      clear hz
      by_cases hzs : z < 2
      ·have HNO : Hid (opts zs = none) := by
        show _ = _
        rw [HINV.out, HD.out, HD2.out, opts_wrong x z _ X0.out X1.out (.inl hzs)]
        rfl
       go_wp2_with fail
       exact bodyPost_ret (v := .tuple #[.slice none 0 0, .bool false]) (by simp [results, Tryz.results73, go_sem]) rfl (⟨hnx, .inl ⟨HNO.out, rfl⟩⟩)
      ·by_cases hzl : (zs.length : Int) < (p : Int) + z
       ·have HNO : Hid (opts zs = none) := by
         show _ = _
         rw [HINV.out, HD.out, HD2.out, opts_wrong x z _ X0.out X1.out (.inr (by simp; omega))]
         rfl
        go_wp2_with fail
        exact bodyPost_ret (v := .tuple #[.slice none 0 0, .bool false]) (by simp [results, Tryz.results73, go_sem]) rfl (⟨hnx, .inl ⟨HNO.out, rfl⟩⟩)
       ·obtain ⟨m, rfl⟩ := Int.eq_ofNat_of_zero_le b1.1
        have hm2 : 2 ≤ m := by omega
        have hml : p + m ≤ zs.length := by omega
        have HNI : Hid (opts (zs.drop p) = (opts (zs.drop (p + m))).map ((x, (zs.drop (p + 2)).take (p + m - (p + 2))) :: ·)) := by
         show _ = _
         have e1 : zs.drop p = x :: (m : Int) :: zs.drop (p + 2) := by rw [HD.out, HD2.out]
         have h9 := opts_more x (m : Int) (zs.drop (p + 2)) X0.out X1.out (by omega) (by simp; omega)
         rw [← e1] at h9
         rw [h9, List.drop_drop, show p + m - (p + 2) = m - 2 from by omega, show (m : Int).toNat - 2 = m - 2 from by omega, show p + 2 + (m - 2) = p + m from by omega]
        go_upto_region 17 with fail
        have i1 : (0 : Int) ≤ (p : Int) + 2 := by omega
        have i2 : (p : Int) + 2 ≤ (p : Int) + m := by omega
        have i3 : (p : Int) + m ≤ cap := by omega
        clear c0 c1 t0 t1 t2 t2' HCX
        have hla : Later wr (wr.alloc (.cells #[] 5)) := (Below.refl _ wr).alloc (Nat.le_refl _) _
        have hwa := hnx.trans (hla.mono hnx.size)
        have HE := hide (show (wr.alloc (.cells #[] 5)).ownsRow wr.heap.size 5 1 (.slice (some ⟨wr.heap.size, 0, none⟩) 0 0) ([] : List Int).length (([] : List Int).map (Value.int .u8)) from ⟨rfl, .inr ⟨wr.heap.size, 0, #[], rfl, Nat.le_refl _, heap_alloc_new _ _, by simp, by simp [maxLen], by simp, by simp⟩⟩)
        have HSZ := hide hnx.size
        have hs8 := ((hI.below hwa).cutAt (p + 2) (by omega)).take (p + m - (p + 2)) (by omega)
        generalize hE2 : (if cap = p + 2 then some (⟨b, off, none⟩ : Addr) else some ⟨b, off + (p + 2), none⟩) = ad2 at hs8
        have HE2 := hide hE2
        have HL : Hid (((zs.drop (p + 2)).take (p + m - (p + 2))).length = p + m - (p + 2)) := by show _ = _; simp; omega
        generalize (zs.drop (p + 2)).take (p + m - (p + 2)) = dt at hs8 HNI HL
        have HS8 := hide hs8
        clear hE2 hs8
        have HLA := hide hla
        clear hla hwa
        go_wp2_with (first | refine wpList_valD 79 rfl rfl (.slice ad2 (p + m - (p + 2)) (cap - (p + 2))) (by rw [← HE2.out]; go_simp; split <;> first | (rw [if_neg (by omega)]; simp <;> omega) | (rw [if_pos (by omega)]; simp <;> omega)) ?_ | (at_builtin; refine wpList_app _ rfl _ _ 24 rfl wr.heap.size 5 j0 Tryz.underlying24 hj hy0 hy1 hy2 _ [] rfl HE.out w.heap.size _ dt rfl HS8.out (by have := HL.out; simp; omega) (by simp) ?_; intro v3 W3 hrow3 hg3; refine Hid.out ?_))
        rw [List.nil_append] at hrow3
        have hO3 := Ow.of_row hrow3
        obtain ⟨a3, c3, rfl, hq3, hm3⟩ := hO3.slice
        have hl3 : Later wr W3 := Below.trans (show Below wr.heap.size wr _ from HLA.out) ((Below.refl wr.heap.size _).grown hg3 (by simp) (fun k e => by cases e; exact Nat.le_refl _))
        have hw3 := hnx.trans (hl3.mono hnx.size)
        have hla4 : Later W3 (W3.alloc (.cells #[.int .u8 x, .slice a3 dt.length c3] 115)) := (Below.refl _ W3).alloc (Nat.le_refl _) _
        have hck := (CK.of hl3).trans (CK.of hla4)
        have HRA := hide (ownsRow_ck hrow hck)
        have hdA := hide (show ∀ j, j < os.length → Ow w.heap.size (W3.alloc (.cells #[.int .u8 x, .slice a3 dt.length c3] 115)) (ss[j]?.getD undef) (os[j]?.getD (0, [])).2 from fun j h => (hdat j h).ck hck)
        have hO4 := hide ((hO3.ck (CK.of hla4)).mono hnx.size)
        have HNW := hide (new_cells W3 [.int .u8 x, .slice a3 dt.length c3] 115)
        have HSZ2 := hide hw3.size
        clear hrow hdat hrow3 hg3 hck HE HSZ HE2 HS8 hO3 hl3
        show wpList _ _ _ _ _ _
        go_wp2_with (at_builtin; refine wpList_append_own _ rfl _ _ 58 rfl w.heap.size 115 i0 (.agg #[.int .u8 0, .slice none 0 0]) 2 32 Tryz.underlying58 hi hz0 hz1 hz2 rfl (by decide) _ os.length (rowO os ss) rfl HRA.out ⟨W3.heap.size, 0, none⟩ 1 1 [.int .u8 x, .slice a3 dt.length c3] rfl rfl HNW.out (by intro u hu; simp at hu; rcases hu with rfl | rfl <;> rfl) (by simp only [maxLen]; omega) (by omega) (by have := HSZ2.out; simp; omega) ?_)
        intro v2 W2 hrow2 hg2 hnn
        have hw2 : Below w.heap.size w W2 := below_app (hw3.trans (hla4.mono hw3.size)) HRA.out hg2 (Nat.le_refl _) (by have := hw3.size; simp; omega)
        have hO2 : OwO w.heap.size W2 v2 (os ++ [(x, dt)]) := OwO_snoc hsl hdA.out HRA.out hO4.out hrow2 hg2
        clear hrow2 hg2 hnn HNW HRA hdA hla4 hw3 hO4
        go_wp2_with fail
        go_roundw
        case rel => exact ⟨p + m, _, by omega, by simp; omega, by go_num, by rw [HINV.out, HNI.out]; cases opts (zs.drop (p + m)) <;> simp, hO2, hw2⟩
        case measure => simp [intOf]; omega
  ·obtain rfl : p = zs.length := by omega
   have HYES : Hid (opts zs = some os) := by show _ = _; rw [HINV.out, List.drop_of_length_le (Nat.le_refl _)]; simp [opts_nil]
   have hp' : ¬ (zs.length : Int) < zs.length := by omega
   go_wp2_with fail
   exact bodyPost_ret (v := .tuple #[u4, .bool true]) (by simp [results, Tryz.results73, go_sem]) rfl (⟨hnx, .inr ⟨os, HYES.out, u4, rfl, hOw⟩⟩)
end Go.Proofs.YtghpakfjpdifaaaGreatDoor

/- The document's answers for four bytes got, and for words put. -/
namespace Go.Proofs.YtghpakfjpdifaaaGreatDoor
open Go.RowKit Go.Shelf
set_option maxRecDepth 100000

set_option maxHeartbeats 1000000 in
theorem rget32_at {n₀ : Nat} (sv : Value) (zs : List Int) (hB : Mt.By zs) (p : Int) (hp : -9223372036854775808 ≤ p ∧ p ≤ 9223372036854775807) (hl : zs.length ≤ 140737488355328) (w : World) (hI : Rd n₀ w sv zs) :
  Calls Tryz.prog 36 #[sv, .int .i64 p] w fun e w' => e = .returned (.int .u32 (getAt4 zs p)) ∧ ∃ n, w' = w.drewN n := by
 obtain ⟨a, cap, rfl, h1, h2⟩ := hI.slice
 by_cases h : 0 ≤ p ∧ p + 4 ≤ zs.length
 ·obtain ⟨n, rfl⟩ := Int.eq_ofNat_of_zero_le h.1
  have HG : Hid (getAt4 zs (n : Int) = wat zs n * 65536 + wat zs (n + 2)) := by show _ = _; unfold getAt4; rw [if_pos h, Int.toNat_natCast]; rfl
  have HG1 : Hid (getAt2 zs (n : Int) = wat zs n) := by show _ = _; unfold getAt2; rw [if_pos (by omega), Int.toNat_natCast]
  have HG2 : Hid (getAt2 zs ((n : Int) + 2) = wat zs (n + 2)) := by show _ = _; unfold getAt2; rw [if_pos (by omega), show ((n : Int) + 2).toNat = n + 2 from by omega]
  have b0 := wat_bd hB n
  have b1 := wat_bd hB (n + 2)
  have t0 : ¬ (n : Int) < 0 := by omega
  have t1 : ¬ (zs.length : Int) < 4 := by omega
  have t2 : ¬ (zs.length : Int) - 4 < n := by omega
  have hn : (n : Int) + 2 ≤ 9223372036854775807 := by omega
  clear h hp
  go_enter Tryz.func36, Tryz.ntmps36
  go_wp2_with fail
  refine (rget16_at _ zs hB n (by omega) hl _ hI).mono ?_
  rintro e w2 ⟨rfl, q, rfl⟩
  rw [HG1.out]
  go_wp2_with fail
  refine (rget16_at _ zs hB ((n : Int) + 2) (by omega) hl _ (hI.drew q)).mono ?_
  rintro e w2 ⟨rfl, q2, rfl⟩
  rw [HG2.out]
  generalize wat zs n = x at *
  generalize wat zs (n + 2) = y at *
  go_wp2
  rw [or_join32 x y b0 b1]
  go_ret
  exact ⟨by rw [HG.out]; rfl, _, rfl⟩
 ·have HG : Hid (getAt4 zs p = 0) := by show _ = _; unfold getAt4; rw [if_neg h]
  have ht : p < 0 ∨ (0 ≤ p ∧ (zs.length : Int) < 4) ∨ (0 ≤ p ∧ 4 ≤ (zs.length : Int) ∧ (zs.length : Int) - 4 < p) := by omega
  clear h
  rcases ht with t0 | ⟨t0, t1⟩ | ⟨t0, t1, t2⟩
  all_goals
   go_enter Tryz.func36, Tryz.ntmps36
   go_wp2
   go_ret
   exact ⟨by rw [HG.out]; rfl, 0, rfl⟩

set_option maxHeartbeats 1000000 in
theorem rput16_any (sv : Value) (zs : List Int) (p v : Int) (hp : -9223372036854775808 ≤ p ∧ p ≤ 9223372036854775807) (hl : zs.length ≤ 140737488355328) (w : World) (hI : Rd w.heap.size w sv zs) (hv : 0 ≤ v ∧ v ≤ 65535) :
  Calls Tryz.prog 22 #[sv, .int .i64 p, .int .u16 v] w fun e w' => ∃ r, e = .returned r ∧ Ow w.heap.size w' r (putAt2 zs p v) ∧ Below w.heap.size w w' := by
 obtain ⟨i0, hi, hz0, hz1, hz2⟩ := info_parts info_u8
 obtain ⟨a, cap, rfl, h1, h2⟩ := hI.slice
 by_cases h : 0 ≤ p ∧ p + 2 ≤ zs.length
 ·obtain ⟨n, rfl⟩ := Int.eq_ofNat_of_zero_le h.1
  have HP : Hid (putAt2 zs (n : Int) v = Mt.put2 zs n v) := by show _ = _; unfold putAt2; rw [if_pos h, Int.toNat_natCast]
  have t0 : (0 : Int) ≤ n := by omega
  have t1 : 2 ≤ (zs.length : Int) := by omega
  have t2 : (n : Int) ≤ (zs.length : Int) - 2 := by omega
  have k1 : n + 1 < zs.length := by omega
  have i1 : (n : Int) < zs.length := by omega
  have i2 : (n : Int) + 1 < zs.length := by omega
  clear h hp
  go_enter Tryz.func22, Tryz.ntmps22
  go_wp2_with (at_builtin; refine wpList_app _ rfl (.tmp 8) (.tmp 9) 24 rfl w.heap.size 5 i0 Tryz.underlying24 hi hz0 hz1 hz2 _ [] rfl (World.ownsRow_nil _ _ _ _) w.heap.size _ zs rfl hI (by simp; omega) (by simp) ?_; intro v2 w2 hown2 hg2; have hb2 := (Below.refl w.heap.size w).grown hg2 (by simp) (fun k e => by cases e); clear hg2; have hO2 := Ow.of_row hown2; clear hown2; simp only [List.nil_append] at hO2; obtain ⟨a2, cap2, rfl, hl2, hm2⟩ := hO2.slice; obtain ⟨g, rfl, _, hg, hcf, hset⟩ := hO2.at (by omega); obtain ⟨c0, f0⟩ := hcf n (by omega); obtain ⟨c1, f1⟩ := hcf (n + 1) k1; clear hcf)
  go_ret
  have hs1 := hset n (v / 256) (by omega)
  obtain ⟨g', hg1, _, _, _, hset2⟩ := hs1.at (by simp; omega)
  cases hg1
  refine ⟨_, rfl, ?_, (hb2.setCell (p := ⟨g, n, none⟩) hg _).setCell (p := ⟨g, n + 1, none⟩) hg _⟩
  rw [HP.out]
  have := hset2 (n + 1) (v % 256) (by simpa using k1)
  simpa [Mt.put2] using this
 ·have HP : Hid (putAt2 zs p v = zs) := by show _ = _; unfold putAt2; rw [if_neg h]
  have ht : p < 0 ∨ (0 ≤ p ∧ (zs.length : Int) < 2) ∨ (0 ≤ p ∧ 2 ≤ (zs.length : Int) ∧ (zs.length : Int) - 2 < p) := by omega
  clear h
  rcases ht with t0 | ⟨t0, t1⟩ | ⟨t0, t1, t2⟩
  all_goals
   go_enter Tryz.func22, Tryz.ntmps22
   go_wp2_with (at_builtin; refine wpList_app _ rfl (.tmp 8) (.tmp 9) 24 rfl w.heap.size 5 i0 Tryz.underlying24 hi hz0 hz1 hz2 _ [] rfl (World.ownsRow_nil _ _ _ _) w.heap.size _ zs rfl hI (by simp; omega) (by simp) ?_; intro v2 w2 hown2 hg2; have hb2 := (Below.refl w.heap.size w).grown hg2 (by simp) (fun k e => by cases e); clear hg2; have hO2 := Ow.of_row hown2; clear hown2; simp only [List.nil_append] at hO2)
   go_ret
   exact ⟨_, rfl, by rw [HP.out]; exact hO2, hb2⟩

end Go.Proofs.YtghpakfjpdifaaaGreatDoor

/- Package segs: which option tells edges. -/
namespace Go.Proofs.YtghpakfjpdifaaaGreatDoor
open Go.RowKit Go.Shelf
set_option maxRecDepth 100000
set_option linter.unusedVariables false
set_option linter.unusedSimpArgs false

end Go.Proofs.YtghpakfjpdifaaaGreatDoor

/- Package segs: the edges that a segment tells. -/
namespace Go.Proofs.YtghpakfjpdifaaaGreatDoor
open Go.RowKit Go.Shelf
set_option maxRecDepth 100000
set_option linter.unusedVariables false
set_option linter.unusedSimpArgs false

/-- A slice of numbers of 32 bits in a block of one's own, or none. -/
def Ow4 (base : Nat) (W : World) (v : Value) (ns : List Int) : Prop :=
 (v = .slice none 0 0 ∧ ns = []) ∨ ∃ g, v = .slice (some ⟨g, 0, none⟩) ns.length ns.length ∧ base ≤ g ∧ W.heap[g]? = some (.cells (ns.map (Value.int .u32)).toArray 23 (0, 0))
theorem Ow4.later {base : Nat} {A B : World} {v : Value} {ns : List Int} (h : Ow4 base A v ns) (l : Later A B) : Ow4 base B v ns := by
 rcases h with h | ⟨g, h1, h2, h3⟩
 ·exact .inl h
 ·exact .inr ⟨g, h1, h2, later_keep l h3⟩
theorem Ow4.mono {base base' : Nat} {A : World} {v : Value} {ns : List Int} (h : Ow4 base A v ns) (hb : base' ≤ base) : Ow4 base' A v ns := by
 rcases h with h | ⟨g, h1, h2, h3⟩
 ·exact .inl h
 ·exact .inr ⟨g, h1, by omega, h3⟩
theorem Ow4.slice {base : Nat} {A : World} {v : Value} {ns : List Int} (h : Ow4 base A v ns) : ∃ a, v = .slice a ns.length ns.length := by
 rcases h with ⟨rfl, rfl⟩ | ⟨g, rfl, _⟩
 ·exact ⟨none, rfl⟩
 ·exact ⟨_, rfl⟩
theorem Ow4.cell {base : Nat} {A : World} {a : Option Addr} {l c : Nat} {ns : List Int} (h : Ow4 base A (.slice a l c) ns) (hne : 0 < ns.length) : ∃ g, a = some ⟨g, 0, none⟩ ∧ l = ns.length ∧ c = ns.length ∧ base ≤ g ∧ ∀ j, j < ns.length → A.cell? ⟨g, j, none⟩ = some (.int .u32 (ns[j]?.getD 0)) := by
 rcases h with ⟨_, rfl⟩ | ⟨g, e, h2, h3⟩
 ·simp at hne
 ·cases e
  refine ⟨g, rfl, rfl, rfl, h2, fun j hj => ?_⟩
  rw [block_cell h3 j]
  simp [hj]

theorem getAt4_lit (zs : List Int) (p : Int) (k : Nat) (hk : p = k) (h : k + 4 ≤ zs.length) : getAt4 zs p = wat4 zs k := by
 subst hk
 unfold getAt4
 rw [if_pos (by omega), Int.toNat_natCast]
end Go.Proofs.YtghpakfjpdifaaaGreatDoor

/- The document's answer for a packet's segment. -/
namespace Go.Proofs.YtghpakfjpdifaaaGreatDoor
open Go.RowKit Go.Shelf
set_option maxRecDepth 100000
set_option linter.unusedVariables false
set_option linter.unusedSimpArgs false

theorem OwO.kept {base : Nat} {A B : World} {v : Value} {os : List Opt} (h : OwO base A v os) (hk : ∀ (k : Nat) (o : Obj), base ≤ k → A.heap[k]? = some o → B.heap[k]? = some o) : OwO base B v os := by
 obtain ⟨ss, h1, h2, h3⟩ := h
 refine ⟨ss, h1, ⟨h2.1, h2.2.imp id ?_⟩, fun j hj => ?_⟩
 ·rintro ⟨g, cap, cur, e1, e2, e3, r⟩
  exact ⟨g, cap, cur, e1, e2, hk g _ e2 e3, r⟩
 ·rcases h3 j hj with h | ⟨g, cp, cur, e1, e2, e3, e4, e5, e6, e7⟩
  ·exact .inl h
  ·exact .inr ⟨g, cp, cur, e1, e2, e3, e4, e5, hk g _ e2 e6, e7⟩

set_option maxHeartbeats 4000000 in
theorem rparseTcp_any (tos id ttl proto src dst : Int) (keep : Bool) (so sd : Value) (zs : List Int) (w : World) (hB : Mt.By zs) (hI : Rd w.heap.size w sd zs) (hl : 12 + zs.length ≤ 1099511627776) (hsr : 0 ≤ src ∧ src ≤ 4294967295) (hds : 0 ≤ dst ∧ dst ≤ 4294967295) :
  Calls Tryz.prog 28 #[.agg #[.int .u8 tos, .int .u16 id, .bool keep, .int .u8 ttl, .int .u8 proto, .int .u32 src, .int .u32 dst, so, sd]] w fun e w' => Below w.heap.size w w' ∧ ((pte proto src dst zs ≠ 0 ∧ e = .returned (.tuple #[.agg zsg.toArray, .int .i64 (pte proto src dst zs)])) ∨
   (pte proto src dst zs = 0 ∧ ∃ os aO cO ad cd, opts (hop zs) = some os ∧ e = .returned (.tuple #[.agg #[.int .u16 (wat zs 0), .int .u16 (wat zs 2), .int .u32 (wat4 zs 4), .int .u32 (wat4 zs 8), .int .u8 (zs[13]?.getD 0), .int .u16 (wat zs 14), .int .u16 (wat zs 18), .slice aO os.length cO, .slice ad (zs.length - (thd zs).toNat) cd], .int .i64 0]) ∧ OwO w.heap.size w' (.slice aO os.length cO) os ∧ Ow w.heap.size w' (.slice ad (zs.length - (thd zs).toNat) cd) (zs.drop (thd zs).toNat))) := by
 obtain ⟨ad, cd, rfl, hl1, hm1⟩ := hI.slice
 have hb0 : Below w.heap.size w ((w.alloc (.cells #[.int .u8 tos, .int .u16 id, .bool keep, .int .u8 ttl, .int .u8 proto, .int .u32 src, .int .u32 dst, so, .slice ad zs.length cd] 26)).alloc (.cells zsg.toArray 60)) := ((Below.refl _ _).alloc (Nat.le_refl _) _).alloc (by simp) _
 have p0 : ((w.alloc (.cells #[.int .u8 tos, .int .u16 id, .bool keep, .int .u8 ttl, .int .u8 proto, .int .u32 src, .int .u32 dst, so, .slice ad zs.length cd] 26)).alloc (.cells zsg.toArray 60)).heap[w.heap.size]? = some (.cells #[.int .u8 tos, .int .u16 id, .bool keep, .int .u8 ttl, .int .u8 proto, .int .u32 src, .int .u32 dst, so, .slice ad zs.length cd] 26) := (Below.heap_alloc _ _ _ (by simp)).trans (heap_alloc_new w _)
 have r0 : ((w.alloc (.cells #[.int .u8 tos, .int .u16 id, .bool keep, .int .u8 ttl, .int .u8 proto, .int .u32 src, .int .u32 dst, so, .slice ad zs.length cd] 26)).alloc (.cells zsg.toArray 60)).heap[w.heap.size + 1]? = some (.cells zsg.toArray 60 (0, 0)) := by have := heap_alloc_new (w.alloc (.cells #[.int .u8 tos, .int .u16 id, .bool keep, .int .u8 ttl, .int .u8 proto, .int .u32 src, .int .u32 dst, so, .slice ad zs.length cd] 26)) (.cells zsg.toArray 60); simpa using this
 have hs0 : ((w.alloc (.cells #[.int .u8 tos, .int .u16 id, .bool keep, .int .u8 ttl, .int .u8 proto, .int .u32 src, .int .u32 dst, so, .slice ad zs.length cd] 26)).alloc (.cells zsg.toArray 60)).heap.size = w.heap.size + 1 + 1 := by simp
 have P0 := hide p0
 have R0 := hide r0
 have HS := hide hs0
 clear p0 r0 hs0
 go_enter Tryz.func28, Tryz.ntmps28
 go_upto_region 1 with fail
 generalize (w.alloc (.cells #[.int .u8 tos, .int .u16 id, .bool keep, .int .u8 ttl, .int .u8 proto, .int .u32 src, .int .u32 dst, so, .slice ad zs.length cd] 26)).alloc (.cells zsg.toArray 60) = w1 at *
 have p1 := P0.out
 have r1 := R0.out
 have hw1 := hb0
 have hs1 : w.heap.size + 1 + 1 ≤ w1.heap.size := by have := HS.out; omega
 clear hb0 P0 R0 HS
 have K1 := block_cell p1
 by_cases c1 : proto = 6
 ·have t1 : (proto != 6) = false := by simp [c1]
  have C1 := hide c1
  clear c1
  by_cases c2 : zs.length < 20
  ·have t2 : (zs.length : Int) < 20 := by omega
   have HF : Hid (pte proto src dst zs = 3) := by show _ = _; unfold pte; rw [show ptc proto src dst zs = 3 from by unfold ptc; rw [if_neg (by simp [C1.out]), if_pos c2], if_pos (by decide)]
   have R1 := block_cell r1
   have F1 := block_frozen r1
   go_wp2_with fail
   generalize hV : ((((((((w1.setCell ⟨w.heap.size + 1, 0, none⟩ _).setCell ⟨w.heap.size + 1, 1, none⟩ _).setCell ⟨w.heap.size + 1, 2, none⟩ _).setCell ⟨w.heap.size + 1, 3, none⟩ _).setCell ⟨w.heap.size + 1, 4, none⟩ _).setCell ⟨w.heap.size + 1, 5, none⟩ _).setCell ⟨w.heap.size + 1, 6, none⟩ _).setCell ⟨w.heap.size + 1, 7, none⟩ _).setCell ⟨w.heap.size + 1, 8, none⟩ _ = V8
   have hV9 : V8 = putRow w1 (w.heap.size + 1) 0 zsg := hV.symm
   have hb8 : But (fun b => b = w.heap.size + 1) w1 V8 := by rw [hV9]; exact putRow_but (E := fun b => b = w.heap.size + 1) (n := w.heap.size + 1) rfl _ _ _ _ (But.refl _ _)
   have p8 := putRow_all zsg r1 rfl
   rw [← hV9] at p8
   clear hV hV9
   have P8 := block_cell p8
   have hw8 : Below w.heap.size w V8 := (hw1).trans (hb8.below (hw1).size (fun k h e => by omega))
   exact bodyPost_ret (v := .tuple #[.agg zsg.toArray, .int .i64 3]) (by simp [results, Tryz.results28, go_sem, P8]) rfl (⟨hw8, .inl ⟨by rw [HF.out]; decide, by rw [HF.out]⟩⟩)
  ·have t2 : ¬ (zs.length : Int) < 20 := by omega
   obtain ⟨b, off, cap, e0, hlc, hmc, hbb, hcs⟩ := hI.cells (by omega)
   simp at e0
   obtain ⟨rfl, rfl⟩ := e0
   have d0 := (hw1.cell (p := ⟨b, off + 12, none⟩) hbb).trans (hcs 12 (by omega))
   have b0 := hB.at 12
   have HC13 := hide (hcs 13 (by omega))
   have i12 : (12 : Int) < zs.length := by omega
   clear hcs
   have HTH : Hid (thd zs = zs[12]?.getD 0 / 16 * 4) := rfl
   have HC2 := hide c2
   generalize hx : zs[12]?.getD 0 = x at d0 b0 HTH
   have HX := hide hx
   clear hx c2
   by_cases c3 : x / 16 * 4 < 20
   ·have HF : Hid (pte proto src dst zs = 4) := by show _ = _; unfold pte; rw [show ptc proto src dst zs = 4 from by unfold ptc; rw [if_neg (by simp [C1.out]), if_neg HC2.out, if_pos (.inl (by rw [HTH.out]; exact c3))], if_pos (by decide)]
    have R1 := block_cell r1
    have F1 := block_frozen r1
    go_wp2_with fail
    generalize hV : ((((((((w1.setCell ⟨w.heap.size + 1, 0, none⟩ _).setCell ⟨w.heap.size + 1, 1, none⟩ _).setCell ⟨w.heap.size + 1, 2, none⟩ _).setCell ⟨w.heap.size + 1, 3, none⟩ _).setCell ⟨w.heap.size + 1, 4, none⟩ _).setCell ⟨w.heap.size + 1, 5, none⟩ _).setCell ⟨w.heap.size + 1, 6, none⟩ _).setCell ⟨w.heap.size + 1, 7, none⟩ _).setCell ⟨w.heap.size + 1, 8, none⟩ _ = V8
    have hV9 : V8 = putRow w1 (w.heap.size + 1) 0 zsg := hV.symm
    have hb8 : But (fun b => b = w.heap.size + 1) w1 V8 := by rw [hV9]; exact putRow_but (E := fun b => b = w.heap.size + 1) (n := w.heap.size + 1) rfl _ _ _ _ (But.refl _ _)
    have p8 := putRow_all zsg r1 rfl
    rw [← hV9] at p8
    clear hV hV9
    have P8 := block_cell p8
    have hw8 : Below w.heap.size w V8 := (hw1).trans (hb8.below (hw1).size (fun k h e => by omega))
    exact bodyPost_ret (v := .tuple #[.agg zsg.toArray, .int .i64 4]) (by simp [results, Tryz.results28, go_sem, P8]) rfl (⟨hw8, .inl ⟨by rw [HF.out]; decide, by rw [HF.out]⟩⟩)
   ·by_cases c4 : x % 16 = 0
    ·have t4 : (x % 16 != 0) = false := by simp [c4]
     by_cases c5 : (zs.length : Int) < x / 16 * 4
     ·have HF : Hid (pte proto src dst zs = 3) := by show _ = _; unfold pte; rw [show ptc proto src dst zs = 3 from by unfold ptc; rw [if_neg (by simp [C1.out]), if_neg HC2.out, if_neg (by rw [HTH.out, HX.out]; omega), if_pos (by rw [HTH.out]; exact c5)], if_pos (by decide)]
      have C4 := hide c4
      clear c4
      have R1 := block_cell r1
      have F1 := block_frozen r1
      go_wp2_with fail
      generalize hV : ((((((((w1.setCell ⟨w.heap.size + 1, 0, none⟩ _).setCell ⟨w.heap.size + 1, 1, none⟩ _).setCell ⟨w.heap.size + 1, 2, none⟩ _).setCell ⟨w.heap.size + 1, 3, none⟩ _).setCell ⟨w.heap.size + 1, 4, none⟩ _).setCell ⟨w.heap.size + 1, 5, none⟩ _).setCell ⟨w.heap.size + 1, 6, none⟩ _).setCell ⟨w.heap.size + 1, 7, none⟩ _).setCell ⟨w.heap.size + 1, 8, none⟩ _ = V8
      have hV9 : V8 = putRow w1 (w.heap.size + 1) 0 zsg := hV.symm
      have hb8 : But (fun b => b = w.heap.size + 1) w1 V8 := by rw [hV9]; exact putRow_but (E := fun b => b = w.heap.size + 1) (n := w.heap.size + 1) rfl _ _ _ _ (But.refl _ _)
      have p8 := putRow_all zsg r1 rfl
      rw [← hV9] at p8
      clear hV hV9
      have P8 := block_cell p8
      have hw8 : Below w.heap.size w V8 := (hw1).trans (hb8.below (hw1).size (fun k h e => by omega))
      exact bodyPost_ret (v := .tuple #[.agg zsg.toArray, .int .i64 3]) (by simp [results, Tryz.results28, go_sem, P8]) rfl (⟨hw8, .inl ⟨by rw [HF.out]; decide, by rw [HF.out]⟩⟩)
     ·have C4 := hide c4
      clear c4
      go_wp2_with fail
      rw [C1.out]
      refine (rsum3_any tos id ttl 6 src dst 6 keep so _ _ zs w1 hB ((hI.below hw1).mono hw1.size) hl (by omega) hsr hds).mono ?_
      rintro e w2 ⟨rfl, hb2⟩
      have r2 := later_keep hb2 r1
      have hw2 : Below w.heap.size w w2 := hw1.trans (hb2.mono hw1.size)
      have hs2 : w.heap.size + 1 + 1 ≤ w2.heap.size := by have := hb2.size; omega
      clear hb2 r1 p1 K1 d0 hw1
      by_cases c6 : Mt.cks (psd src dst 6 zs.length ++ zs) = 0
      ·have t6 : (Mt.cks (psd src dst 6 zs.length ++ zs) != 0) = false := by simp [c6]
       have HPC : Hid (ptc proto src dst zs = 0) := by show _ = _; unfold ptc; rw [if_neg (by simp [C1.out]), if_neg HC2.out, if_neg (by rw [HTH.out, HX.out]; have := C4.out; omega), if_neg (by rw [HTH.out]; omega), if_neg (by simp [c6])]
       have HPT : Hid (pte proto src dst zs = if (opts (hop zs)).isNone then 4 else 0) := by show _ = _; unfold pte; rw [if_neg (by simp [HPC.out])]
       clear c6
       obtain ⟨tm, hh⟩ : ∃ tm : Nat, x / 16 * 4 = (tm : Int) := ⟨(x / 16 * 4).toNat, by omega⟩
       have HHOP : Hid (hop zs = (zs.drop 20).take (tm - 20)) := by show _ = _; unfold hop; rw [HTH.out, hh]; simp
       have HTO : Hid ((thd zs).toNat = tm) := by show _ = _; rw [HTH.out, hh]; simp
       have z7 : (tm : Int) ≤ 60 := by omega
       rw [hh] at c3 c5 ⊢
       have HH := hide hh
       clear hh
       have i20 : (20 : Int) ≤ tm := by omega
       have ihl : (tm : Int) ≤ zs.length := by omega
       have ilc : (zs.length : Int) ≤ cd := by omega
       have hs20 := ((hI.below hw2).cutAt 20 (by omega)).take (tm - 20) (by omega)
       obtain ⟨a20, hA20⟩ : ∃ a20, (if cd = 20 then some (⟨b, off, none⟩ : Addr) else some ⟨b, off + 20, none⟩) = a20 := ⟨_, rfl⟩
       rw [hA20] at hs20
       have HA20 := hide hA20
       have HS20 := hide hs20
       clear hs20 hA20
       go_wp2_with (refine wpList_valD 48 rfl rfl (.slice a20 (tm - 20) (cd - 20)) (by rw [← HA20.out]; go_simp; split <;> first | rfl | (intro _; omega)) ?_)
       have hBh : Mt.By ((zs.drop 20).take (tm - 20)) := (hB.drop 20).take _
       have hlh : ((zs.drop 20).take (tm - 20)).length = tm - 20 := by simp; omega
       refine (roptions_any _ ((zs.drop 20).take (tm - 20)) hBh (by omega) w2 (HS20.out.mono hw2.size)).mono ?_
       clear HS20 HA20
       rintro e w3 ⟨hb3, ⟨ho, rfl⟩ | ⟨os, vO, ho, rfl, hOO⟩⟩
       ·have r3 := later_keep hb3 r2
        have hw3 := hw2.trans (hb3.mono hw2.size)
        have HF : Hid (pte proto src dst zs = 4) := by show _ = _; rw [HPT.out, HHOP.out, ho]; rfl
        clear ho
        have R1 := block_cell r3
        have F1 := block_frozen r3
        go_wp2_with fail
        generalize hV : ((((((((w3.setCell ⟨w.heap.size + 1, 0, none⟩ _).setCell ⟨w.heap.size + 1, 1, none⟩ _).setCell ⟨w.heap.size + 1, 2, none⟩ _).setCell ⟨w.heap.size + 1, 3, none⟩ _).setCell ⟨w.heap.size + 1, 4, none⟩ _).setCell ⟨w.heap.size + 1, 5, none⟩ _).setCell ⟨w.heap.size + 1, 6, none⟩ _).setCell ⟨w.heap.size + 1, 7, none⟩ _).setCell ⟨w.heap.size + 1, 8, none⟩ _ = V8
        have hV9 : V8 = putRow w3 (w.heap.size + 1) 0 zsg := hV.symm
        have hb8 : But (fun b => b = w.heap.size + 1) w3 V8 := by rw [hV9]; exact putRow_but (E := fun b => b = w.heap.size + 1) (n := w.heap.size + 1) rfl _ _ _ _ (But.refl _ _)
        have p8 := putRow_all zsg r3 rfl
        rw [← hV9] at p8
        clear hV hV9
        have P8 := block_cell p8
        have hw8 : Below w.heap.size w V8 := (hw3).trans (hb8.below (hw3).size (fun k h e => by omega))
        exact bodyPost_ret (v := .tuple #[.agg zsg.toArray, .int .i64 4]) (by simp [results, Tryz.results28, go_sem, P8]) rfl (⟨hw8, .inl ⟨by rw [HF.out]; decide, by rw [HF.out]⟩⟩)
       ·have r3 := later_keep hb3 r2
        have hw3 := hw2.trans (hb3.mono hw2.size)
        have hs3 : w.heap.size + 1 + 1 ≤ w3.heap.size := by have := hb3.size; omega
        have HF : Hid (pte proto src dst zs = 0) := by show _ = _; rw [HPT.out, HHOP.out, ho]; rfl
        have HO : Hid (opts (hop zs) = some os) := by show _ = _; rw [HHOP.out]; exact ho
        obtain ⟨aO, cO, rfl, _, _⟩ := hOO.slice
        have hOO' := hOO.mono (base' := w.heap.size + 1 + 1) hs2
        clear ho hOO hb3 r2 hBh hlh
        go_upto_region 16 with fail
        have d13 := HC13.out
        generalize hx13 : zs[13]?.getD 0 = x13 at d13
        have HX13 := hide hx13
        clear hx13
        refine anyR_begin (R := KI w3.heap.size 60 9 (List.toArray [.int .u16 (wat zs 0), .int .u16 (wat zs 2), .int .u32 (wat4 zs 4), .int .u32 (wat4 zs 8), .int .u8 x13, .int .u16 (wat zs 14), .int .u16 (wat zs 18), .slice aO os.length cO, .slice none 0 0])) (KI.pre _ _ _ _) (fun w => KI.of (Later.drew w)) 19 rfl (by kernel_rfl) (fun W5 hW5 => ?_)
        have hbel : ∀ w1, KI w3.heap.size 60 9 (List.toArray [.int .u16 (wat zs 0), .int .u16 (wat zs 2), .int .u32 (wat4 zs 4), .int .u32 (wat4 zs 8), .int .u8 x13, .int .u16 (wat zs 14), .int .u16 (wat zs 18), .slice aO os.length cO, .slice none 0 0]) W5 w1 → Below w.heap.size w w1 := fun w1 h => hw3.trans (((hW5.trans h).1.below (Nat.le_refl _) (fun k hk e => by omega)).mono (by omega))
        have hr1 : ∀ w1, KI w3.heap.size 60 9 (List.toArray [.int .u16 (wat zs 0), .int .u16 (wat zs 2), .int .u32 (wat4 zs 4), .int .u32 (wat4 zs 8), .int .u8 x13, .int .u16 (wat zs 14), .int .u16 (wat zs 18), .slice aO os.length cO, .slice none 0 0]) W5 w1 → Rd w.heap.size w1 (.slice (some ⟨b, off, none⟩) zs.length cd) zs := fun w1 h => hI.below (hbel w1 h)
        have e13 : ∀ w1, KI w3.heap.size 60 9 (List.toArray [.int .u16 (wat zs 0), .int .u16 (wat zs 2), .int .u32 (wat4 zs 4), .int .u32 (wat4 zs 8), .int .u8 x13, .int .u16 (wat zs 14), .int .u16 (wat zs 18), .slice aO os.length cO, .slice none 0 0]) W5 w1 → w1.cell? ⟨b, off + 13, none⟩ = some (.int .u8 x13) := fun w1 h => ((hbel w1 h).cell (p := ⟨b, off + 13, none⟩) hbb).trans d13
        have i13 : (13 : Int) < zs.length := by omega
        clear d13
        refine rV (KI.pre _ _ _ _) 0 rfl rfl ?_; apply Exists.intro; refine ⟨fun w1 hw1 => ?_, ?_⟩; (· (go_simp; rfl)); simp only [Act.put, sA, sB, sC]
        refine anyR_take (KI.pre _ _ _ _) 1 (.int .u16 (wat zs 0)) rfl (by kernel_rfl) (by kernel_rfl) (by kernel_rfl) (fun _ _ _ h => h) rfl (fun v1 hv1 => goes_call 62 #[.slice (some ⟨b, off, none⟩) zs.length cd, .int .i64 0] (by go_simp) ?_) ?_
        ·exact (rget16_at _ zs hB 0 (by omega) (by omega) v1 (hr1 v1 hv1)).mono fun e w' ⟨he, n, hn⟩ => ⟨by rw [he, getAt2_lit zs 0 0 rfl (by omega)], KI.of (by rw [hn]; exact below_draw (Later.refl v1) n)⟩
        simp only [Act.put, sA, sB, sC]
        refine rV (KI.pre _ _ _ _) 2 rfl rfl ?_; apply Exists.intro; refine ⟨fun w1 hw1 => ?_, ?_⟩; (· (go_simp; rfl)); simp only [Act.put, sA, sB, sC]
        refine anyR_take (KI.pre _ _ _ _) 3 (.int .u16 (wat zs 2)) rfl (by kernel_rfl) (by kernel_rfl) (by kernel_rfl) (fun _ _ _ h => h) rfl (fun v1 hv1 => goes_call 62 #[.slice (some ⟨b, off, none⟩) zs.length cd, .int .i64 2] (by go_simp) ?_) ?_
        ·exact (rget16_at _ zs hB 2 (by omega) (by omega) v1 (hr1 v1 hv1)).mono fun e w' ⟨he, n, hn⟩ => ⟨by rw [he, getAt2_lit zs 2 2 rfl (by omega)], KI.of (by rw [hn]; exact below_draw (Later.refl v1) n)⟩
        simp only [Act.put, sA, sB, sC]
        refine rV (KI.pre _ _ _ _) 4 rfl rfl ?_; apply Exists.intro; refine ⟨fun w1 hw1 => ?_, ?_⟩; (· (go_simp; rfl)); simp only [Act.put, sA, sB, sC]
        refine anyR_take (KI.pre _ _ _ _) 5 (.int .u32 (wat4 zs 4)) rfl (by kernel_rfl) (by kernel_rfl) (by kernel_rfl) (fun _ _ _ h => h) rfl (fun v1 hv1 => goes_call 36 #[.slice (some ⟨b, off, none⟩) zs.length cd, .int .i64 4] (by go_simp) ?_) ?_
        ·exact (rget32_at _ zs hB 4 (by omega) (by omega) v1 (hr1 v1 hv1)).mono fun e w' ⟨he, n, hn⟩ => ⟨by rw [he, getAt4_lit zs 4 4 rfl (by omega)], KI.of (by rw [hn]; exact below_draw (Later.refl v1) n)⟩
        simp only [Act.put, sA, sB, sC]
        refine rV (KI.pre _ _ _ _) 6 rfl rfl ?_; apply Exists.intro; refine ⟨fun w1 hw1 => ?_, ?_⟩; (· (go_simp; rfl)); simp only [Act.put, sA, sB, sC]
        refine anyR_take (KI.pre _ _ _ _) 7 (.int .u32 (wat4 zs 8)) rfl (by kernel_rfl) (by kernel_rfl) (by kernel_rfl) (fun _ _ _ h => h) rfl (fun v1 hv1 => goes_call 36 #[.slice (some ⟨b, off, none⟩) zs.length cd, .int .i64 8] (by go_simp) ?_) ?_
        ·exact (rget32_at _ zs hB 8 (by omega) (by omega) v1 (hr1 v1 hv1)).mono fun e w' ⟨he, n, hn⟩ => ⟨by rw [he, getAt4_lit zs 8 8 rfl (by omega)], KI.of (by rw [hn]; exact below_draw (Later.refl v1) n)⟩
        simp only [Act.put, sA, sB, sC]
        refine rV (KI.pre _ _ _ _) 8 rfl rfl ?_; apply Exists.intro; refine ⟨fun w1 hw1 => ?_, ?_⟩; (· (go_simp; rfl)); simp only [Act.put, sA, sB, sC]
        refine rV (KI.pre _ _ _ _) 9 rfl rfl ?_; apply Exists.intro; refine ⟨fun w1 hw1 => ?_, ?_⟩; (· (go_simp; rfl)); simp only [Act.put, sA, sB, sC]
        refine rV (KI.pre _ _ _ _) 10 rfl rfl ?_; apply Exists.intro; refine ⟨fun w1 hw1 => ?_, ?_⟩; (· (go_simp; rfl)); simp only [Act.put, sA, sB, sC]
        refine rV (KI.pre _ _ _ _) 11 rfl rfl ?_; apply Exists.intro; refine ⟨fun w1 hw1 => ?_, ?_⟩; (· (go_simp; rfl)); simp only [Act.put, sA, sB, sC]
        refine anyR_take (KI.pre _ _ _ _) 12 (.int .u16 (wat zs 14)) rfl (by kernel_rfl) (by kernel_rfl) (by kernel_rfl) (fun _ _ _ h => h) rfl (fun v1 hv1 => goes_call 62 #[.slice (some ⟨b, off, none⟩) zs.length cd, .int .i64 14] (by go_simp) ?_) ?_
        ·exact (rget16_at _ zs hB 14 (by omega) (by omega) v1 (hr1 v1 hv1)).mono fun e w' ⟨he, n, hn⟩ => ⟨by rw [he, getAt2_lit zs 14 14 rfl (by omega)], KI.of (by rw [hn]; exact below_draw (Later.refl v1) n)⟩
        simp only [Act.put, sA, sB, sC]
        refine rV (KI.pre _ _ _ _) 13 rfl rfl ?_; apply Exists.intro; refine ⟨fun w1 hw1 => ?_, ?_⟩; (· (go_simp; rfl)); simp only [Act.put, sA, sB, sC]
        refine anyR_take (KI.pre _ _ _ _) 14 (.int .u16 (wat zs 18)) rfl (by kernel_rfl) (by kernel_rfl) (by kernel_rfl) (fun _ _ _ h => h) rfl (fun v1 hv1 => goes_call 62 #[.slice (some ⟨b, off, none⟩) zs.length cd, .int .i64 18] (by go_simp) ?_) ?_
        ·exact (rget16_at _ zs hB 18 (by omega) (by omega) v1 (hr1 v1 hv1)).mono fun e w' ⟨he, n, hn⟩ => ⟨by rw [he, getAt2_lit zs 18 18 rfl (by omega)], KI.of (by rw [hn]; exact below_draw (Later.refl v1) n)⟩
        simp only [Act.put, sA, sB, sC]
        refine rV (KI.pre _ _ _ _) 15 rfl rfl ?_; apply Exists.intro; refine ⟨fun w1 hw1 => ?_, ?_⟩; (· (go_simp; rfl)); simp only [Act.put, sA, sB, sC]
        refine rV (KI.pre _ _ _ _) 16 rfl rfl ?_; apply Exists.intro; refine ⟨fun w1 hw1 => ?_, ?_⟩; (· (go_simp; rfl)); simp only [Act.put, sA, sB, sC]
        refine anyR_one 17 rfl (by kernel_rfl) rfl (fun W6 hW6 => ?_)
        have hs6 : w3.heap.size ≤ W6.heap.size := (hW5.trans hW6).1.size
        unfold Oper.wp
        go_simp
        refine ⟨KI.of ((Below.refl _ _).alloc (Nat.le_refl _) _), ?_⟩
        refine anyR_one 18 rfl (by kernel_rfl) rfl (fun W7 hW7 => ?_)
        have hwr : Wr W6.heap.size 9 60 W7 := hW7.2.1 _ ⟨_, heap_alloc_new W6 _, rfl⟩
        have hst := KI.store (n₁ := w3.heap.size) [.int .u16 (wat zs 0), .int .u16 (wat zs 2), .int .u32 (wat4 zs 4), .int .u32 (wat4 zs 8), .int .u8 x13, .int .u16 (wat zs 14), .int .u16 (wat zs 18), .slice aO os.length cO, .slice none 0 0] hs6 hwr rfl
        obtain ⟨cur, hcur, hsz⟩ := hwr
        have k7 := block_cell hcur
        have f7 := block_frozen hcur
        have HS := hide hst
        clear hst
        unfold Oper.wp
        go_simp
        generalize hV : ((((((((W7.setCell ⟨W6.heap.size, 0, none⟩ _).setCell ⟨W6.heap.size, 1, none⟩ _).setCell ⟨W6.heap.size, 2, none⟩ _).setCell ⟨W6.heap.size, 3, none⟩ _).setCell ⟨W6.heap.size, 4, none⟩ _).setCell ⟨W6.heap.size, 5, none⟩ _).setCell ⟨W6.heap.size, 6, none⟩ _).setCell ⟨W6.heap.size, 7, none⟩ _).setCell ⟨W6.heap.size, 8, none⟩ _ = V
        have hV9 : V = putRow W7 W6.heap.size 0 [.int .u16 (wat zs 0), .int .u16 (wat zs 2), .int .u32 (wat4 zs 4), .int .u32 (wat4 zs 8), .int .u8 x13, .int .u16 (wat zs 14), .int .u16 (wat zs 18), .slice aO os.length cO, .slice none 0 0] := hV.symm
        have hst := HS.out
        rw [← hV9] at hst
        clear hV hV9 HS k7 f7
        refine ⟨hst.1, anyR_done (by kernel_rfl) (fun W8 hW8 => ?_)⟩
        have p8 := hW8.2.2 _ hst.2
        have hAll := hW5.trans (((hW6.trans (KI.of ((Below.refl _ _).alloc (Nat.le_refl _) _))).trans hW7).trans (hst.1.trans hW8))
        have hwW8 : Below w.heap.size w W8 := hbel W8 (((hW6.trans (KI.of ((Below.refl _ _).alloc (Nat.le_refl _) _))).trans hW7).trans (hst.1.trans hW8))
        have hk8 : ∀ k o, w3.heap[k]? = some o → W8.heap[k]? = some o := fun k o h => (hAll.1.block k (bl9 h) (fun e => by have := (bl9 h); omega)).trans h
        generalize W6.heap.size = pb at *
        clear hbel hr1 e13 hst hW7 hW6 hcur hsz hW8 hAll hW5
        have hs8 := (bl9 p8)
        have r8 := hk8 _ _ r3
        clear r3
        go_upto_region 17 with fail
        refine anyT_begin (R := But (fun b => b = pb)) 8 rfl (by kernel_rfl) ?_
        have hd : Later W8 W8.drew := Later.drew W8
        have md := later_keep hd p8
        have rd := later_keep hd r8
        have hkd : ∀ k o, w3.heap[k]? = some o → W8.drew.heap[k]? = some o := fun k o h => later_keep hd (hk8 k o h)
        have hwd : Below w.heap.size w W8.drew := hwW8.trans (hd.mono hwW8.size)
        clear hk8 p8 r8
        generalize W8.drew = Wd at *
        have hr : Rd w.heap.size Wd (.slice (some ⟨b, off, none⟩) zs.length cd) zs := hI.below hwd
        have hst8 : Rd w.heap.size Wd (.slice (if cd = tm then some (⟨b, off, none⟩ : Addr) else some ⟨b, off + tm, none⟩) (zs.length - tm) (cd - tm)) (zs.drop tm) := hr.cutAt tm (by omega)
        generalize hE8 : (if cd = tm then some (⟨b, off, none⟩ : Addr) else some ⟨b, off + tm, none⟩) = adh at *
        refine tV (But.pre _) 0 rfl rfl ?_; apply Exists.intro; refine ⟨fun v1 hv1 => ?_, ?_⟩; (· (go_simp; rfl)); simp only [Act.put, sA, sB, sC]
        refine tV (But.pre _) 2 rfl rfl ?_; apply Exists.intro; refine ⟨fun v1 hv1 => ?_, ?_⟩; (· (go_simp; rfl)); simp only [Act.put, sA, sB, sC]
        refine tV (But.pre _) 3 rfl rfl ?_; apply Exists.intro; refine ⟨fun v1 hv1 => ?_, ?_⟩; (· (go_simp; rfl)); simp only [Act.put, sA, sB, sC]
        refine tV (But.pre _) 4 rfl rfl ⟨.slice adh (zs.length - tm) (cd - tm), fun v1 hv1 => by go_simp, ?_⟩
        simp only [Act.put, sA, sB, sC]
        refine anyT_one 1 rfl (by kernel_rfl) rfl ?_
        have kd := block_cell md
        unfold Oper.wp
        go_simp
        refine ⟨But.refl _ _, ?_⟩
        refine anyT_one 5 rfl (by kernel_rfl) rfl ?_
        obtain ⟨i0, hi, hz0, hz1, hz2⟩ := info_parts info_u8
        have hsd : pb + 1 ≤ Wd.heap.size := (bl9 md)
        obtain ⟨v3, W3, hrun3, hown3, hgr3⟩ := run_app (P := Tryz.prog) Wd 24 24 5 (pb + 1) i0 Tryz.underlying24 hi hz0 hz1 hz2 (.slice none 0 0) [] (World.ownsRow_nil _ _ _ _) w.heap.size _ (zs.drop tm) hst8 (by simp; omega) hsd
        have hl3 : Later Wd W3 := (Below.refl _ Wd).grown hgr3 (Nat.le_refl _) (fun _ e => by cases e)
        have hO3 := Ow.of_row hown3
        rw [List.nil_append] at hO3
        clear hown3
        obtain ⟨a3, c3, rfl, hq3, hm3⟩ := hO3.slice
        rw [List.length_drop] at hO3 hrun3
        refine wp_app (.tmp 73) (.tmp 76) 24 rfl _ _ rfl rfl _ W3 hrun3 ⟨But.of hl3, ?_⟩
        simp only [Act.put, sA, sB, sC]
        refine tV (But.pre _) 6 rfl rfl ?_; apply Exists.intro; refine ⟨fun v1 hv1 => ?_, ?_⟩; (· (go_simp; rfl)); simp only [Act.put, sA, sB, sC]
        have m3 := later_keep hl3 md
        have r3 := later_keep hl3 rd
        have hk3 : ∀ k o, w3.heap[k]? = some o → W3.heap[k]? = some o := fun k o h => later_keep hl3 (hkd k o h)
        have k3 := block_cell m3
        have f3 : ∀ j, W3.frozen? ⟨pb, j, none⟩ = false := block_frozen m3
        clear kd hkd
        refine anyT_one 7 rfl (by kernel_rfl) rfl ?_
        unfold Oper.wp
        go_simp
        refine ⟨(But.refl (fun b => b = pb) _).setCell (p := ⟨pb, 8, none⟩) rfl _, ?_⟩
        refine anyT_done (by kernel_rfl) ?_
        have m4 : (W3.setCell ⟨pb, 8, none⟩ (.slice a3 (zs.length - tm) c3)).heap[pb]? = some (.cells #[.int .u16 (wat zs 0), .int .u16 (wat zs 2), .int .u32 (wat4 zs 4), .int .u32 (wat4 zs 8), .int .u8 x13, .int .u16 (wat zs 14), .int .u16 (wat zs 18), .slice aO os.length cO, .slice a3 (zs.length - tm) c3] 60 (0, 0)) := heap_set1 m3 8 _
        have E4 : But (fun b => b = pb) W3 (W3.setCell ⟨pb, 8, none⟩ (.slice a3 (zs.length - tm) c3)) := (But.refl (fun b => b = pb) W3).setCell (p := ⟨pb, 8, none⟩) rfl _
        have hw33 := hwd.trans (hl3.mono hwd.size)
        have hs33 := hl3.size
        generalize W3.setCell ⟨pb, 8, none⟩ (.slice a3 (zs.length - tm) c3) = W4 at *
        have hw4 : Below w.heap.size w W4 := hw33.trans (E4.below hw33.size (fun k h e => by omega))
        have r4 := (E4.block (w.heap.size + 1) (by omega) (by omega)).trans r3
        have hk4 : ∀ k o, w3.heap[k]? = some o → W4.heap[k]? = some o := fun k o h => (E4.block k (by have := (Array.getElem?_eq_some_iff.1 (hk3 k o h)).1; omega) (fun e => by have := (bl9 h); omega)).trans (hk3 k o h)
        have hO4 := hO3.but E4 (fun b h e => by omega)
        have M4 := block_cell m4
        have R4 := block_cell r4
        have F4 := block_frozen r4
        have HK4 := hide hk4
        clear k3 f3 hk3 hk4
        go_wp2_with fail
        generalize hV : ((((((((W4.setCell ⟨w.heap.size + 1, 0, none⟩ _).setCell ⟨w.heap.size + 1, 1, none⟩ _).setCell ⟨w.heap.size + 1, 2, none⟩ _).setCell ⟨w.heap.size + 1, 3, none⟩ _).setCell ⟨w.heap.size + 1, 4, none⟩ _).setCell ⟨w.heap.size + 1, 5, none⟩ _).setCell ⟨w.heap.size + 1, 6, none⟩ _).setCell ⟨w.heap.size + 1, 7, none⟩ _).setCell ⟨w.heap.size + 1, 8, none⟩ _ = V8
        have hV9 : V8 = putRow W4 (w.heap.size + 1) 0 [.int .u16 (wat zs 0), .int .u16 (wat zs 2), .int .u32 (wat4 zs 4), .int .u32 (wat4 zs 8), .int .u8 x13, .int .u16 (wat zs 14), .int .u16 (wat zs 18), .slice aO os.length cO, .slice a3 (zs.length - tm) c3] := hV.symm
        have hb8 : But (fun b => b = w.heap.size + 1) W4 V8 := by rw [hV9]; exact putRow_but (E := fun b => b = w.heap.size + 1) (n := w.heap.size + 1) rfl _ _ _ _ (But.refl _ _)
        have p8 := putRow_all [.int .u16 (wat zs 0), .int .u16 (wat zs 2), .int .u32 (wat4 zs 4), .int .u32 (wat4 zs 8), .int .u8 x13, .int .u16 (wat zs 14), .int .u16 (wat zs 18), .slice aO os.length cO, .slice a3 (zs.length - tm) c3] r4 rfl
        rw [← hV9] at p8
        clear hV hV9
        have P8 := block_cell p8
        have hw8 : Below w.heap.size w V8 := (hw4).trans (hb8.below (hw4).size (fun k h e => by omega))
        exact bodyPost_ret (v := .tuple #[.agg #[.int .u16 (wat zs 0), .int .u16 (wat zs 2), .int .u32 (wat4 zs 4), .int .u32 (wat4 zs 8), .int .u8 x13, .int .u16 (wat zs 14), .int .u16 (wat zs 18), .slice aO os.length cO, .slice a3 (zs.length - tm) c3], .int .i64 0]) (by simp [results, Tryz.results28, go_sem, P8]) rfl (⟨hw8, .inr ⟨HF.out, os, aO, cO, a3, c3, HO.out, by rw [HTO.out, HX13.out], (hOO'.kept (fun k o hk h => (hb8.block k (by have := (Array.getElem?_eq_some_iff.1 (HK4.out k o h)).1; omega) (by omega)).trans (HK4.out k o h))).mono (by omega), by rw [HTO.out]; exact (hO4.but hb8 (fun b h e => by omega)).mono (by omega)⟩⟩)
      ·have t6 : (Mt.cks (psd src dst 6 zs.length ++ zs) != 0) = true := by simp [c6]
       have HF : Hid (pte proto src dst zs = 5) := by show _ = _; unfold pte; rw [show ptc proto src dst zs = 5 from by unfold ptc; rw [if_neg (by simp [C1.out]), if_neg HC2.out, if_neg (by rw [HTH.out, HX.out]; have := C4.out; omega), if_neg (by rw [HTH.out]; omega), if_pos c6], if_pos (by decide)]
       clear c6
       have R1 := block_cell r2
       have F1 := block_frozen r2
       go_wp2_with fail
       generalize hV : ((((((((w2.setCell ⟨w.heap.size + 1, 0, none⟩ _).setCell ⟨w.heap.size + 1, 1, none⟩ _).setCell ⟨w.heap.size + 1, 2, none⟩ _).setCell ⟨w.heap.size + 1, 3, none⟩ _).setCell ⟨w.heap.size + 1, 4, none⟩ _).setCell ⟨w.heap.size + 1, 5, none⟩ _).setCell ⟨w.heap.size + 1, 6, none⟩ _).setCell ⟨w.heap.size + 1, 7, none⟩ _).setCell ⟨w.heap.size + 1, 8, none⟩ _ = V8
       have hV9 : V8 = putRow w2 (w.heap.size + 1) 0 zsg := hV.symm
       have hb8 : But (fun b => b = w.heap.size + 1) w2 V8 := by rw [hV9]; exact putRow_but (E := fun b => b = w.heap.size + 1) (n := w.heap.size + 1) rfl _ _ _ _ (But.refl _ _)
       have p8 := putRow_all zsg r2 rfl
       rw [← hV9] at p8
       clear hV hV9
       have P8 := block_cell p8
       have hw8 : Below w.heap.size w V8 := (hw2).trans (hb8.below (hw2).size (fun k h e => by omega))
       exact bodyPost_ret (v := .tuple #[.agg zsg.toArray, .int .i64 5]) (by simp [results, Tryz.results28, go_sem, P8]) rfl (⟨hw8, .inl ⟨by rw [HF.out]; decide, by rw [HF.out]⟩⟩)
    ·have t4 : (x % 16 != 0) = true := by simp [c4]
     have HF : Hid (pte proto src dst zs = 4) := by show _ = _; unfold pte; rw [show ptc proto src dst zs = 4 from by unfold ptc; rw [if_neg (by simp [C1.out]), if_neg HC2.out, if_pos (.inr (by rw [HX.out]; exact c4))], if_pos (by decide)]
     clear c4
     have R1 := block_cell r1
     have F1 := block_frozen r1
     go_wp2_with fail
     generalize hV : ((((((((w1.setCell ⟨w.heap.size + 1, 0, none⟩ _).setCell ⟨w.heap.size + 1, 1, none⟩ _).setCell ⟨w.heap.size + 1, 2, none⟩ _).setCell ⟨w.heap.size + 1, 3, none⟩ _).setCell ⟨w.heap.size + 1, 4, none⟩ _).setCell ⟨w.heap.size + 1, 5, none⟩ _).setCell ⟨w.heap.size + 1, 6, none⟩ _).setCell ⟨w.heap.size + 1, 7, none⟩ _).setCell ⟨w.heap.size + 1, 8, none⟩ _ = V8
     have hV9 : V8 = putRow w1 (w.heap.size + 1) 0 zsg := hV.symm
     have hb8 : But (fun b => b = w.heap.size + 1) w1 V8 := by rw [hV9]; exact putRow_but (E := fun b => b = w.heap.size + 1) (n := w.heap.size + 1) rfl _ _ _ _ (But.refl _ _)
     have p8 := putRow_all zsg r1 rfl
     rw [← hV9] at p8
     clear hV hV9
     have P8 := block_cell p8
     have hw8 : Below w.heap.size w V8 := (hw1).trans (hb8.below (hw1).size (fun k h e => by omega))
     exact bodyPost_ret (v := .tuple #[.agg zsg.toArray, .int .i64 4]) (by simp [results, Tryz.results28, go_sem, P8]) rfl (⟨hw8, .inl ⟨by rw [HF.out]; decide, by rw [HF.out]⟩⟩)
 ·have t1 : (proto != 6) = true := by simp [c1]
  have HF : Hid (pte proto src dst zs = 12) := by show _ = _; unfold pte; rw [show ptc proto src dst zs = 12 from by unfold ptc; rw [if_pos c1], if_pos (by decide)]
  clear c1
  have R1 := block_cell r1
  have F1 := block_frozen r1
  go_wp2_with fail
  generalize hV : ((((((((w1.setCell ⟨w.heap.size + 1, 0, none⟩ _).setCell ⟨w.heap.size + 1, 1, none⟩ _).setCell ⟨w.heap.size + 1, 2, none⟩ _).setCell ⟨w.heap.size + 1, 3, none⟩ _).setCell ⟨w.heap.size + 1, 4, none⟩ _).setCell ⟨w.heap.size + 1, 5, none⟩ _).setCell ⟨w.heap.size + 1, 6, none⟩ _).setCell ⟨w.heap.size + 1, 7, none⟩ _).setCell ⟨w.heap.size + 1, 8, none⟩ _ = V8
  have hV9 : V8 = putRow w1 (w.heap.size + 1) 0 zsg := hV.symm
  have hb8 : But (fun b => b = w.heap.size + 1) w1 V8 := by rw [hV9]; exact putRow_but (E := fun b => b = w.heap.size + 1) (n := w.heap.size + 1) rfl _ _ _ _ (But.refl _ _)
  have p8 := putRow_all zsg r1 rfl
  rw [← hV9] at p8
  clear hV hV9
  have P8 := block_cell p8
  have hw8 : Below w.heap.size w V8 := (hw1).trans (hb8.below (hw1).size (fun k h e => by omega))
  exact bodyPost_ret (v := .tuple #[.agg zsg.toArray, .int .i64 12]) (by simp [results, Tryz.results28, go_sem, P8]) rfl (⟨hw8, .inl ⟨by rw [HF.out]; decide, by rw [HF.out]⟩⟩)
end Go.Proofs.YtghpakfjpdifaaaGreatDoor

/- Package ctrl: whether two messages, two frames are the same; the document's answers. -/
namespace Go.Proofs.YtghpakfjpdifaaaGreatDoor
open Go.RowKit Go.Shelf
set_option maxRecDepth 100000
set_option linter.unusedVariables false
set_option linter.unusedSimpArgs false

/-- Are two messages, two frames the same? -/
def smI (ty1 : Int) (cde1 : Int) (rest1 : Int) (ty2 : Int) (cde2 : Int) (rest2 : Int) (zd1 zd2 : List Int) : Bool := ty1 == ty2 && (cde1 == cde2 && (rest1 == rest2 && (decide (zd1 = zd2))))
def smG (cl1 : Int) (hs1 : Bool) (ha1 : Bool) (sq1 : Int) (ak1 : Int) (cl2 : Int) (hs2 : Bool) (ha2 : Bool) (sq2 : Int) (ak2 : Int) (zd1 zd2 : List Int) : Bool := cl1 == cl2 && (hs1 == hs2 && (ha1 == ha2 && (sq1 == sq2 && (ak1 == ak2 && (decide (zd1 = zd2))))))
set_option maxHeartbeats 4000000 in
theorem rsameIcmp_any (ty1 cde1 rest1 ty2 cde2 rest2 : Int) (sd1 sd2 : Value) (zd1 zd2 : List Int) (w : World) (hD1 : Mt.By zd1) (hD2 : Mt.By zd2) (hI1 : Rd w.heap.size w sd1 zd1) (hI2 : Rd w.heap.size w sd2 zd2) :
  Calls Tryz.prog 42 #[.agg #[.int .u8 ty1, .int .u8 cde1, .int .u32 rest1, sd1], .agg #[.int .u8 ty2, .int .u8 cde2, .int .u32 rest2, sd2]] w fun e w' => e = .returned (.bool (smI ty1 cde1 rest1 ty2 cde2 rest2 zd1 zd2)) ∧ Below w.heap.size w w' := by
 have hbox : Below w.heap.size w ((w.alloc (.cells #[.int .u8 ty1, .int .u8 cde1, .int .u32 rest1, sd1] 42)).alloc (.cells #[.int .u8 ty2, .int .u8 cde2, .int .u32 rest2, sd2] 42)) := ((Below.refl w.heap.size w).alloc (Nat.le_refl _) _).alloc (by simp) _
 have HA := hide (hI1.below hbox)
 have HB := hide (hI2.below hbox)
 obtain ⟨ad1, cd1, rfl, _, _⟩ := hI1.slice
 obtain ⟨ad2, cd2, rfl, _, _⟩ := hI2.slice
 have HS : Hid (smI ty1 cde1 rest1 ty2 cde2 rest2 zd1 zd2 = (ty1 == ty2 && (cde1 == cde2 && (rest1 == rest2 && (decide (zd1 = zd2)))))) := rfl
 generalize smI ty1 cde1 rest1 ty2 cde2 rest2 zd1 zd2 = r at *
 clear hI1 hI2
 have ca := conv_rd 24 9 5 Tryz.underlying24 Tryz.underlying5 Tryz.underlying9 HA.out
 have cb := conv_rd 24 9 5 Tryz.underlying24 Tryz.underlying5 Tryz.underlying9 HB.out
 have HE := hide (str_eq hD1 hD2)
 cases h0 : (ty1 == ty2)
 ·rw [h0] at HS
  go_enter Tryz.func42, Tryz.ntmps42
  go_wp2
  go_ret
  exact ⟨by rw [HS.out]; rfl, hbox⟩
 ·rw [h0] at HS
  cases h1 : (cde1 == cde2)
  ·rw [h1] at HS
   go_enter Tryz.func42, Tryz.ntmps42
   go_wp2
   go_ret
   exact ⟨by rw [HS.out]; rfl, hbox⟩
  ·rw [h1] at HS
   cases h2 : (rest1 == rest2)
   ·rw [h2] at HS
    go_enter Tryz.func42, Tryz.ntmps42
    go_wp2
    go_ret
    exact ⟨by rw [HS.out]; rfl, hbox⟩
   ·rw [h2] at HS
    simp only [Bool.true_and] at HS
    go_enter Tryz.func42, Tryz.ntmps42
    go_wp2
    go_ret
    exact ⟨by rw [HS.out, ← HE.out]; rfl, hbox⟩

set_option maxHeartbeats 4000000 in
theorem rsameGre_any (cl1 sq1 ak1 cl2 sq2 ak2 : Int) (hs1 ha1 hs2 ha2 : Bool) (sd1 sd2 : Value) (zd1 zd2 : List Int) (w : World) (hD1 : Mt.By zd1) (hD2 : Mt.By zd2) (hI1 : Rd w.heap.size w sd1 zd1) (hI2 : Rd w.heap.size w sd2 zd2) :
  Calls Tryz.prog 43 #[.agg #[.int .u16 cl1, .bool hs1, .bool ha1, .int .u32 sq1, .int .u32 ak1, sd1], .agg #[.int .u16 cl2, .bool hs2, .bool ha2, .int .u32 sq2, .int .u32 ak2, sd2]] w fun e w' => e = .returned (.bool (smG cl1 hs1 ha1 sq1 ak1 cl2 hs2 ha2 sq2 ak2 zd1 zd2)) ∧ Below w.heap.size w w' := by
 have hbox : Below w.heap.size w ((w.alloc (.cells #[.int .u16 cl1, .bool hs1, .bool ha1, .int .u32 sq1, .int .u32 ak1, sd1] 68)).alloc (.cells #[.int .u16 cl2, .bool hs2, .bool ha2, .int .u32 sq2, .int .u32 ak2, sd2] 68)) := ((Below.refl w.heap.size w).alloc (Nat.le_refl _) _).alloc (by simp) _
 have HA := hide (hI1.below hbox)
 have HB := hide (hI2.below hbox)
 obtain ⟨ad1, cd1, rfl, _, _⟩ := hI1.slice
 obtain ⟨ad2, cd2, rfl, _, _⟩ := hI2.slice
 have HS : Hid (smG cl1 hs1 ha1 sq1 ak1 cl2 hs2 ha2 sq2 ak2 zd1 zd2 = (cl1 == cl2 && (hs1 == hs2 && (ha1 == ha2 && (sq1 == sq2 && (ak1 == ak2 && (decide (zd1 = zd2)))))))) := rfl
 generalize smG cl1 hs1 ha1 sq1 ak1 cl2 hs2 ha2 sq2 ak2 zd1 zd2 = r at *
 clear hI1 hI2
 have ca := conv_rd 24 9 5 Tryz.underlying24 Tryz.underlying5 Tryz.underlying9 HA.out
 have cb := conv_rd 24 9 5 Tryz.underlying24 Tryz.underlying5 Tryz.underlying9 HB.out
 have HE := hide (str_eq hD1 hD2)
 cases h0 : (cl1 == cl2)
 ·rw [h0] at HS
  go_enter Tryz.func43, Tryz.ntmps43
  go_wp2
  go_ret
  exact ⟨by rw [HS.out]; rfl, hbox⟩
 ·rw [h0] at HS
  cases h1 : (hs1 == hs2)
  ·rw [h1] at HS
   go_enter Tryz.func43, Tryz.ntmps43
   go_wp2
   go_ret
   exact ⟨by rw [HS.out]; rfl, hbox⟩
  ·rw [h1] at HS
   cases h2 : (ha1 == ha2)
   ·rw [h2] at HS
    go_enter Tryz.func43, Tryz.ntmps43
    go_wp2
    go_ret
    exact ⟨by rw [HS.out]; rfl, hbox⟩
   ·rw [h2] at HS
    cases h3 : (sq1 == sq2)
    ·rw [h3] at HS
     go_enter Tryz.func43, Tryz.ntmps43
     go_wp2
     go_ret
     exact ⟨by rw [HS.out]; rfl, hbox⟩
    ·rw [h3] at HS
     cases h4 : (ak1 == ak2)
     ·rw [h4] at HS
      go_enter Tryz.func43, Tryz.ntmps43
      go_wp2
      go_ret
      exact ⟨by rw [HS.out]; rfl, hbox⟩
     ·rw [h4] at HS
      simp only [Bool.true_and] at HS
      go_enter Tryz.func43, Tryz.ntmps43
      go_wp2
      go_ret
      exact ⟨by rw [HS.out, ← HE.out]; rfl, hbox⟩

end Go.Proofs.YtghpakfjpdifaaaGreatDoor

/- Package ctrl: what Parse answers, in one form. -/
namespace Go.Proofs.YtghpakfjpdifaaaGreatDoor
open Go.RowKit Go.Shelf
set_option maxRecDepth 100000
set_option linter.unusedVariables false
set_option linter.unusedSimpArgs false

/-- What a frame's parts are. -/
def gcl (proto : Int) (zs : List Int) : Int := if pge proto zs = 0 then getAt2 zs 6 else 0
def gh1 (proto : Int) (zs : List Int) : Bool := if pge proto zs = 0 then ghs (bgz zs) else false
def gh2 (proto : Int) (zs : List Int) : Bool := if pge proto zs = 0 then gha (bgz zs) else false
def gq1 (proto : Int) (zs : List Int) : Int := if pge proto zs = 0 then gsq (bgz zs) zs else 0
def gq2 (proto : Int) (zs : List Int) : Int := if pge proto zs = 0 then gak (bgz zs) zs else 0
def gdt (proto : Int) (zs : List Int) : List Int := if pge proto zs = 0 then zs.drop (ghd (bgz zs)) else []
end Go.Proofs.YtghpakfjpdifaaaGreatDoor
