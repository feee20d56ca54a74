import Derived.Test.YtofknbfbmaefoaaGreatDoorX13
import Derived.Test.YtofknbfbmaefoaaGreatDoorX11
import Derived.Test.YtofknbfbmaefoaaGreatDoorX17
import Derived.Test.YtofknbfbmaefoaaGreatDoorX14
import Derived.Deep.OwnRows
namespace Go.Proofs.YtofknbfbmaefoaaGreatDoor
set_option maxHeartbeats 4000000
open Go.RowKit Go.Shelf
set_option maxRecDepth 100000
set_option linter.unusedVariables false
set_option linter.unusedSimpArgs false
theorem ofTcp_any (tos id ttl proto src dst : Int) (keep : Bool) (so sd : Value) (zd : List Int) (w : World) (hB : Mt.By zd) (hI : Rd w.heap.size w sd zd) (hl : 12 + zd.length ≤ 140737488355328) (hsr : 0 ≤ src ∧ src ≤ 4294967295) (hds : 0 ≤ dst ∧ dst ≤ 4294967295) :
  Calls Tryz.prog 100 #[.agg #[.int .u8 tos, .int .u16 id, .bool keep, .int .u8 ttl, .int .u8 proto, .int .u32 src, .int .u32 dst, so, sd]] w fun e w' => Below w.heap.size w w' ∧ ∃ a b : Int, e = .returned (.tuple #[.agg #[.int .u16 a, .int .u16 b], .int .i64 (pte proto src dst zd)]) ∧ (pte proto src dst zd = 0 → a = wat zd 0 ∧ b = wat zd 2) := by
 obtain ⟨ad, cd, rfl, _, _⟩ := hI.slice
 have hb0 : Below w.heap.size w ((w.alloc (.cells #[.int .u8 tos, .int .u16 id, .bool keep, .int .u8 ttl, .int .u8 proto, .int .u32 src, .int .u32 dst, so, .slice ad zd.length cd] 56)).alloc (.cells #[.int .u16 0, .int .u16 0] 130)) := ((Below.refl _ _).alloc (Nat.le_refl _) _).alloc (by simp) _
 have r0 := heap_alloc_new (w.alloc (.cells #[.int .u8 tos, .int .u16 id, .bool keep, .int .u8 ttl, .int .u8 proto, .int .u32 src, .int .u32 dst, so, .slice ad zd.length cd] 56)) (.cells #[.int .u16 0, .int .u16 0] 130)
 rw [World.size_alloc] at r0
 have R0 := hide r0
 clear r0
 go_enter Tryz.func100, Tryz.ntmps100
 go_wp2_with fail
 generalize (w.alloc (.cells #[.int .u8 tos, .int .u16 id, .bool keep, .int .u8 ttl, .int .u8 proto, .int .u32 src, .int .u32 dst, so, .slice ad zd.length cd] 56)).alloc (.cells #[.int .u16 0, .int .u16 0] 130) = w0 at *
 refine (parseTcp_any tos id ttl proto src dst keep _ _ zd w0 hB ((hI.below hb0).mono hb0.size) (by omega) hsr hds).mono ?_
 rintro e w1 ⟨hb1, ⟨hf, rfl⟩ | ⟨hf, os, aO, cO, a1, c1, _, rfl, hO, _⟩⟩
 ·rw [show zsg.toArray = #[.int .u16 0, .int .u16 0, .int .u32 0, .int .u32 0, .int .u8 0, .int .u16 0, .int .u16 0, .slice none 0 0, .slice none 0 0] from rfl]
  generalize hpu : pte proto src dst zd = f at *
  have HPU := hide hpu
  have HF := hide hf
  clear hf hpu
  have lq : Later w1 (w1.alloc (.cells #[.int .u16 0, .int .u16 0, .int .u32 0, .int .u32 0, .int .u8 0, .int .u16 0, .int .u16 0, .slice none 0 0, .slice none 0 0] 162)) := (Below.refl _ _).alloc (Nat.le_refl _) _
  have l1 := Later.trans hb1 lq
  have r1 := (l1.block _ (bl9 R0.out)).trans R0.out
  have hw1 := hb0.trans (l1.mono hb0.size)
  have kX := block_cell r1
  have fX := block_frozen r1
  go_wp2_with fail
  generalize w1.alloc (.cells #[.int .u16 0, .int .u16 0, .int .u32 0, .int .u32 0, .int .u8 0, .int .u16 0, .int .u16 0, .slice none 0 0, .slice none 0 0] 162) = W at *
  generalize hV : World.setCell _ ⟨w.heap.size + 1, 1, none⟩ _ = V
  have hV8 : V = putRow W (w.heap.size + 1) 0 [.int .u16 (0), .int .u16 (0)] := hV.symm
  have hbV : But (fun b => b = w.heap.size + 1) W V := by rw [hV8]; exact putRow_but (E := fun b => b = w.heap.size + 1) (n := w.heap.size + 1) rfl _ _ _ _ (But.refl _ _)
  have pV := putRow_all [Value.int .u16 (0), .int .u16 (0)] r1 rfl
  rw [← hV8] at pV
  clear hV hV8 kX fX
  have PV := block_cell pV
  have hwV : Below w.heap.size w V := hw1.trans (hbV.below hw1.size (fun k hk e => by omega))
  exact bodyPost_ret (v := .tuple #[.agg #[.int .u16 (0), .int .u16 (0)], .int .i64 f]) (by simp [results, Tryz.results100, go_sem, PV]) rfl ⟨hwV, _, _, by rw [HPU.out], fun h => absurd (HPU.out.symm.trans h) HF.out⟩
 ·have HF := hide hf
  clear hf
  have lq : Later w1 (w1.alloc (.cells #[.int .u16 (wat zd 0), .int .u16 (wat zd 2), .int .u32 (wat4 zd 4), .int .u32 (wat4 zd 8), .int .u8 (zd[13]?.getD 0), .int .u16 (wat zd 14), .int .u16 (wat zd 18), .slice aO os.length cO, .slice a1 (zd.length - (thd zd).toNat) c1] 162)) := (Below.refl _ _).alloc (Nat.le_refl _) _
  have l1 := Later.trans hb1 lq
  have r1 := (l1.block _ (bl9 R0.out)).trans R0.out
  have hw1 := hb0.trans (l1.mono hb0.size)
  have kX := block_cell r1
  have fX := block_frozen r1
  go_wp2_with fail
  generalize w1.alloc (.cells #[.int .u16 (wat zd 0), .int .u16 (wat zd 2), .int .u32 (wat4 zd 4), .int .u32 (wat4 zd 8), .int .u8 (zd[13]?.getD 0), .int .u16 (wat zd 14), .int .u16 (wat zd 18), .slice aO os.length cO, .slice a1 (zd.length - (thd zd).toNat) c1] 162) = W at *
  generalize hV : World.setCell _ ⟨w.heap.size + 1, 1, none⟩ _ = V
  have hV8 : V = putRow W (w.heap.size + 1) 0 [.int .u16 (wat zd 0), .int .u16 (wat zd 2)] := hV.symm
  have hbV : But (fun b => b = w.heap.size + 1) W V := by rw [hV8]; exact putRow_but (E := fun b => b = w.heap.size + 1) (n := w.heap.size + 1) rfl _ _ _ _ (But.refl _ _)
  have pV := putRow_all [Value.int .u16 (wat zd 0), .int .u16 (wat zd 2)] r1 rfl
  rw [← hV8] at pV
  clear hV hV8 kX fX
  have PV := block_cell pV
  have hwV : Below w.heap.size w V := hw1.trans (hbV.below hw1.size (fun k hk e => by omega))
  exact bodyPost_ret (v := .tuple #[.agg #[.int .u16 (wat zd 0), .int .u16 (wat zd 2)], .int .i64 0]) (by simp [results, Tryz.results100, go_sem, PV]) rfl ⟨hwV, _, _, by rw [HF.out], fun _ => ⟨rfl, rfl⟩⟩
theorem ofGre_any (tos id ttl proto src dst : Int) (keep : Bool) (so sd : Value) (zd : List Int) (w : World) (hT : Tb w) (hB : Mt.By zd) (hI : Rd w.heap.size w sd zd) (hl : 12 + zd.length ≤ 140737488355328) (hsr : 0 ≤ src ∧ src ≤ 4294967295) (hds : 0 ≤ dst ∧ dst ≤ 4294967295) :
  Calls Tryz.prog 105 #[.agg #[.int .u8 tos, .int .u16 id, .bool keep, .int .u8 ttl, .int .u8 proto, .int .u32 src, .int .u32 dst, so, sd]] w fun e w' => Below w.heap.size w w' ∧ ∃ a b : Int, e = .returned (.tuple #[.agg #[.int .u16 a, .int .u16 b], .int .i64 (pge proto zd)]) ∧ (pge proto zd = 0 → a = 0 ∧ b = getAt2 zd 6) := by
 obtain ⟨ad, cd, rfl, _, _⟩ := hI.slice
 have hb0 : Below w.heap.size w ((w.alloc (.cells #[.int .u8 tos, .int .u16 id, .bool keep, .int .u8 ttl, .int .u8 proto, .int .u32 src, .int .u32 dst, so, .slice ad zd.length cd] 56)).alloc (.cells #[.int .u16 0, .int .u16 0] 130)) := ((Below.refl _ _).alloc (Nat.le_refl _) _).alloc (by simp) _
 have r0 := heap_alloc_new (w.alloc (.cells #[.int .u8 tos, .int .u16 id, .bool keep, .int .u8 ttl, .int .u8 proto, .int .u32 src, .int .u32 dst, so, .slice ad zd.length cd] 56)) (.cells #[.int .u16 0, .int .u16 0] 130)
 rw [World.size_alloc] at r0
 have R0 := hide r0
 clear r0
 go_enter Tryz.func105, Tryz.ntmps105
 go_wp2_with fail
 generalize (w.alloc (.cells #[.int .u8 tos, .int .u16 id, .bool keep, .int .u8 ttl, .int .u8 proto, .int .u32 src, .int .u32 dst, so, .slice ad zd.length cd] 56)).alloc (.cells #[.int .u16 0, .int .u16 0] 130) = w0 at *
 refine (parseGre_any tos id ttl proto src dst keep _ _ zd w0 (hT.below hb0 hT.pos) hB ((hI.below hb0).mono hb0.size) (by omega)).mono ?_
 rintro e w1 ⟨hb1, ⟨hf, rfl⟩ | ⟨hf, a1, c1, rfl, hO⟩⟩
 ·rw [show zf.toArray = #[.int .u16 0, .bool false, .bool false, .int .u32 0, .int .u32 0, .slice none 0 0] from rfl]
  generalize hpu : pge proto zd = f at *
  have HPU := hide hpu
  have HF := hide hf
  clear hf hpu
  have lq : Later w1 (w1.alloc (.cells #[.int .u16 0, .bool false, .bool false, .int .u32 0, .int .u32 0, .slice none 0 0] 169)) := (Below.refl _ _).alloc (Nat.le_refl _) _
  have l1 := Later.trans hb1 lq
  have r1 := (l1.block _ (bl9 R0.out)).trans R0.out
  have hw1 := hb0.trans (l1.mono hb0.size)
  have kX := block_cell r1
  have fX := block_frozen r1
  go_wp2_with fail
  generalize w1.alloc (.cells #[.int .u16 0, .bool false, .bool false, .int .u32 0, .int .u32 0, .slice none 0 0] 169) = W at *
  generalize hV : World.setCell _ ⟨w.heap.size + 1, 1, none⟩ _ = V
  have hV8 : V = putRow W (w.heap.size + 1) 0 [.int .u16 (0), .int .u16 (0)] := hV.symm
  have hbV : But (fun b => b = w.heap.size + 1) W V := by rw [hV8]; exact putRow_but (E := fun b => b = w.heap.size + 1) (n := w.heap.size + 1) rfl _ _ _ _ (But.refl _ _)
  have pV := putRow_all [Value.int .u16 (0), .int .u16 (0)] r1 rfl
  rw [← hV8] at pV
  clear hV hV8 kX fX
  have PV := block_cell pV
  have hwV : Below w.heap.size w V := hw1.trans (hbV.below hw1.size (fun k hk e => by omega))
  exact bodyPost_ret (v := .tuple #[.agg #[.int .u16 (0), .int .u16 (0)], .int .i64 f]) (by simp [results, Tryz.results105, go_sem, PV]) rfl ⟨hwV, _, _, by rw [HPU.out], fun h => absurd (HPU.out.symm.trans h) HF.out⟩
 ·have HF := hide hf
  clear hf
  have lq : Later w1 (w1.alloc (.cells #[.int .u16 (getAt2 zd 6), .bool (ghs (bgz zd)), .bool (gha (bgz zd)), .int .u32 (gsq (bgz zd) zd), .int .u32 (gak (bgz zd) zd), .slice a1 (zd.length - ghd (bgz zd)) c1] 169)) := (Below.refl _ _).alloc (Nat.le_refl _) _
  have l1 := Later.trans hb1 lq
  have r1 := (l1.block _ (bl9 R0.out)).trans R0.out
  have hw1 := hb0.trans (l1.mono hb0.size)
  have kX := block_cell r1
  have fX := block_frozen r1
  go_wp2_with fail
  generalize w1.alloc (.cells #[.int .u16 (getAt2 zd 6), .bool (ghs (bgz zd)), .bool (gha (bgz zd)), .int .u32 (gsq (bgz zd) zd), .int .u32 (gak (bgz zd) zd), .slice a1 (zd.length - ghd (bgz zd)) c1] 169) = W at *
  generalize hV : World.setCell _ ⟨w.heap.size + 1, 1, none⟩ _ = V
  have hV8 : V = putRow W (w.heap.size + 1) 0 [.int .u16 0, .int .u16 (getAt2 zd 6)] := hV.symm
  have hbV : But (fun b => b = w.heap.size + 1) W V := by rw [hV8]; exact putRow_but (E := fun b => b = w.heap.size + 1) (n := w.heap.size + 1) rfl _ _ _ _ (But.refl _ _)
  have pV := putRow_all [Value.int .u16 0, .int .u16 (getAt2 zd 6)] r1 rfl
  rw [← hV8] at pV
  clear hV hV8 kX fX
  have PV := block_cell pV
  have hwV : Below w.heap.size w V := hw1.trans (hbV.below hw1.size (fun k hk e => by omega))
  exact bodyPost_ret (v := .tuple #[.agg #[.int .u16 0, .int .u16 (getAt2 zd 6)], .int .i64 0]) (by simp [results, Tryz.results105, go_sem, PV]) rfl ⟨hwV, _, _, by rw [HF.out], fun _ => ⟨rfl, rfl⟩⟩
def ecb (ty cde : Int) : Bool := (ty == 8 || ty == 0) && cde == 0
def oie (zs : List Int) : Int := if pie 1 zs ≠ 0 then pie 1 zs else if ecb (zs[0]?.getD 0) (zs[1]?.getD 0) = true then 0 else 12
theorem ofNumber_any (ty cde rest num : Int) (sm : Value) (w : World) :
  Calls Tryz.prog 149 #[.agg #[.int .u8 ty, .int .u8 cde, .int .u32 rest, sm], .int .u16 num] w fun e w' => Below w.heap.size w w' ∧ ((ecb ty cde = true ∧ e = .returned (.tuple #[.agg #[.int .u16 num, .int .u16 num], .int .i64 0])) ∨ (ecb ty cde = false ∧ e = .returned (.tuple #[.agg #[.int .u16 0, .int .u16 0], .int .i64 12]))) := by
 have hb0 : Below w.heap.size w ((w.alloc (.cells #[.int .u8 ty, .int .u8 cde, .int .u32 rest, sm] 65)).alloc (.cells #[.int .u16 0, .int .u16 0] 130)) := ((Below.refl _ _).alloc (Nat.le_refl _) _).alloc (by simp) _
 have r0 := heap_alloc_new (w.alloc (.cells #[.int .u8 ty, .int .u8 cde, .int .u32 rest, sm] 65)) (.cells #[.int .u16 0, .int .u16 0] 130)
 rw [World.size_alloc] at r0
 have R0 := hide r0
 clear r0
 go_enter Tryz.func149, Tryz.ntmps149
 go_wp2_with fail
 generalize (w.alloc (.cells #[.int .u8 ty, .int .u8 cde, .int .u32 rest, sm] 65)).alloc (.cells #[.int .u16 0, .int .u16 0] 130) = w0 at *
 refine (isEcho_any ty cde rest sm w0).mono ?_
 rintro e w1 ⟨rfl, hb1⟩
 have hw1 := hb0.trans (hb1.mono hb0.size)
 have r1 := (Below.block hb1 _ (bl9 R0.out)).trans R0.out
 have kX := block_cell r1
 have fX := block_frozen r1
 have HE : Hid (ecb ty cde = ((ty == 8 || ty == 0) && cde == 0)) := rfl
 generalize ((ty == 8 || ty == 0) && cde == 0) = bq at *
 cases bq with
 | true =>
  go_wp2_with fail
  generalize hV : World.setCell _ ⟨w.heap.size + 1, 1, none⟩ _ = V
  have hV8 : V = putRow w1 (w.heap.size + 1) 0 [.int .u16 num, .int .u16 num] := hV.symm
  have hbV : But (fun b => b = w.heap.size + 1) w1 V := by rw [hV8]; exact putRow_but (E := fun b => b = w.heap.size + 1) (n := w.heap.size + 1) rfl _ _ _ _ (But.refl _ _)
  have pV := putRow_all [Value.int .u16 num, .int .u16 num] r1 rfl
  rw [← hV8] at pV
  clear hV hV8 kX fX
  have PV := block_cell pV
  have hwV : Below w.heap.size w V := hw1.trans (hbV.below hw1.size (fun k hk e => by omega))
  exact bodyPost_ret (v := .tuple #[.agg #[.int .u16 num, .int .u16 num], .int .i64 0]) (by simp [results, Tryz.results149, go_sem, PV]) rfl ⟨hwV, .inl ⟨HE.out, rfl⟩⟩
 | false =>
  go_wp2_with fail
  generalize hV : World.setCell _ ⟨w.heap.size + 1, 1, none⟩ _ = V
  have hV8 : V = putRow w1 (w.heap.size + 1) 0 [.int .u16 0, .int .u16 0] := hV.symm
  have hbV : But (fun b => b = w.heap.size + 1) w1 V := by rw [hV8]; exact putRow_but (E := fun b => b = w.heap.size + 1) (n := w.heap.size + 1) rfl _ _ _ _ (But.refl _ _)
  have pV := putRow_all [Value.int .u16 0, .int .u16 0] r1 rfl
  rw [← hV8] at pV
  clear hV hV8 kX fX
  have PV := block_cell pV
  have hwV : Below w.heap.size w V := hw1.trans (hbV.below hw1.size (fun k hk e => by omega))
  exact bodyPost_ret (v := .tuple #[.agg #[.int .u16 0, .int .u16 0], .int .i64 12]) (by simp [results, Tryz.results149, go_sem, PV]) rfl ⟨hwV, .inr ⟨HE.out, rfl⟩⟩
theorem ofIcmp_any (tos id ttl src dst : Int) (keep : Bool) (so sd : Value) (zd : List Int) (w : World) (hB : Mt.By zd) (hI : Rd w.heap.size w sd zd) (hl : zd.length ≤ 140737488355328) :
  Calls Tryz.prog 103 #[.agg #[.int .u8 tos, .int .u16 id, .bool keep, .int .u8 ttl, .int .u8 1, .int .u32 src, .int .u32 dst, so, sd]] w fun e w' => Below w.heap.size w w' ∧ ∃ a b : Int, e = .returned (.tuple #[.agg #[.int .u16 a, .int .u16 b], .int .i64 (oie zd)]) ∧ (oie zd = 0 → a = wat zd 4 ∧ b = wat zd 4) := by
 obtain ⟨ad, cd, rfl, _, _⟩ := hI.slice
 have hb0 : Below w.heap.size w ((w.alloc (.cells #[.int .u8 tos, .int .u16 id, .bool keep, .int .u8 ttl, .int .u8 1, .int .u32 src, .int .u32 dst, so, .slice ad zd.length cd] 56)).alloc (.cells #[.int .u16 0, .int .u16 0] 130)) := ((Below.refl _ _).alloc (Nat.le_refl _) _).alloc (by simp) _
 have r0 := heap_alloc_new (w.alloc (.cells #[.int .u8 tos, .int .u16 id, .bool keep, .int .u8 ttl, .int .u8 1, .int .u32 src, .int .u32 dst, so, .slice ad zd.length cd] 56)) (.cells #[.int .u16 0, .int .u16 0] 130)
 rw [World.size_alloc] at r0
 have R0 := hide r0
 clear r0
 go_enter Tryz.func103, Tryz.ntmps103
 go_wp2_with fail
 generalize (w.alloc (.cells #[.int .u8 tos, .int .u16 id, .bool keep, .int .u8 ttl, .int .u8 1, .int .u32 src, .int .u32 dst, so, .slice ad zd.length cd] 56)).alloc (.cells #[.int .u16 0, .int .u16 0] 130) = w0 at *
 refine (parseIcmp_any tos id ttl 1 src dst keep _ _ zd w0 hB ((hI.below hb0).mono hb0.size) hl).mono ?_
 rintro e w1 ⟨hb1, ⟨hf, rfl⟩ | ⟨hf, a1, c1, rfl, hO⟩⟩
 ·rw [show zm.toArray = #[.int .u8 0, .int .u8 0, .int .u32 0, .slice none 0 0] from rfl]
  have HOE : Hid (oie zd = pie 1 zd) := if_pos hf
  generalize hpu : pie 1 zd = f at *
  have HF := hide hf
  clear hpu
  have hne : (f != 0) = true := by simp [hf]
  clear hf
  have lq : Later w1 (w1.alloc (.cells #[.int .u8 0, .int .u8 0, .int .u32 0, .slice none 0 0] 65)) := (Below.refl _ _).alloc (Nat.le_refl _) _
  have l1 := Later.trans hb1 lq
  have rX := (l1.block _ (bl9 R0.out)).trans R0.out
  have hwX := hb0.trans (l1.mono hb0.size)
  have kX := block_cell rX
  have fX := block_frozen rX
  go_wp2_with fail
  generalize w1.alloc (.cells #[.int .u8 0, .int .u8 0, .int .u32 0, .slice none 0 0] 65) = W at *
  generalize hV : World.setCell _ ⟨w.heap.size + 1, 1, none⟩ _ = V
  have hV8 : V = putRow W (w.heap.size + 1) 0 [.int .u16 0, .int .u16 0] := hV.symm
  have hbV : But (fun b => b = w.heap.size + 1) W V := by rw [hV8]; exact putRow_but (E := fun b => b = w.heap.size + 1) (n := w.heap.size + 1) rfl _ _ _ _ (But.refl _ _)
  have pV := putRow_all ([.int .u16 0, .int .u16 0] : List Value) rX rfl
  rw [← hV8] at pV
  clear hV hV8 kX fX
  have PV := block_cell pV
  have hwV : Below w.heap.size w V := hwX.trans (hbV.below hwX.size (fun k hk e => by omega))
  exact bodyPost_ret (v := .tuple #[.agg #[.int .u16 0, .int .u16 0], .int .i64 f]) (by simp [results, Tryz.results103, go_sem, PV]) rfl ⟨hwV, _, _, by rw [HOE.out], fun h => absurd (HOE.out.symm.trans h) HF.out⟩
 ·have HF := hide hf
  clear hf
  have b4 := wat_bd hB 4
  have b6 := wat_bd hB (4 + 2)
  have HW4 : Hid (wat4 zd 4 / 65536 = wat zd 4) := by show _ = _; unfold wat4; omega
  have hW4b : 0 ≤ wat4 zd 4 ∧ wat4 zd 4 ≤ 4294967295 := by unfold wat4; omega
  have lq : Later w1 (w1.alloc (.cells #[.int .u8 (zd[0]?.getD 0), .int .u8 (zd[1]?.getD 0), .int .u32 (wat4 zd 4), .slice a1 (zd.length - 8) c1] 65)) := (Below.refl _ _).alloc (Nat.le_refl _) _
  have l1 := Later.trans hb1 lq
  have r1 := (l1.block _ (bl9 R0.out)).trans R0.out
  have hw1 := hb0.trans (l1.mono hb0.size)
  go_wp2_with fail
  rw [HW4.out]
  generalize w1.alloc (.cells #[.int .u8 (zd[0]?.getD 0), .int .u8 (zd[1]?.getD 0), .int .u32 (wat4 zd 4), .slice a1 (zd.length - 8) c1] 65) = W at *
  refine (ofNumber_any (zd[0]?.getD 0) (zd[1]?.getD 0) (wat4 zd 4) (wat zd 4) _ W).mono ?_
  rintro e w2 ⟨hb2, ⟨he, rfl⟩ | ⟨he, rfl⟩⟩
  ·have HOE : Hid (oie zd = 0) := by show _ = _; unfold oie; rw [if_neg (fun h => h HF.out), if_pos he]
   clear he
   have rX := (Below.block hb2 _ (bl9 r1)).trans r1
   have hwX := hw1.trans (hb2.mono hw1.size)
   have kX := block_cell rX
   have fX := block_frozen rX
   go_wp2_with fail
   generalize hV : World.setCell _ ⟨w.heap.size + 1, 1, none⟩ _ = V
   have hV8 : V = putRow w2 (w.heap.size + 1) 0 [.int .u16 (wat zd 4), .int .u16 (wat zd 4)] := hV.symm
   have hbV : But (fun b => b = w.heap.size + 1) w2 V := by rw [hV8]; exact putRow_but (E := fun b => b = w.heap.size + 1) (n := w.heap.size + 1) rfl _ _ _ _ (But.refl _ _)
   have pV := putRow_all ([.int .u16 (wat zd 4), .int .u16 (wat zd 4)] : List Value) rX rfl
   rw [← hV8] at pV
   clear hV hV8 kX fX
   have PV := block_cell pV
   have hwV : Below w.heap.size w V := hwX.trans (hbV.below hwX.size (fun k hk e => by omega))
   exact bodyPost_ret (v := .tuple #[.agg #[.int .u16 (wat zd 4), .int .u16 (wat zd 4)], .int .i64 0]) (by simp [results, Tryz.results103, go_sem, PV]) rfl ⟨hwV, _, _, by rw [HOE.out], fun _ => ⟨rfl, rfl⟩⟩
  ·have HOE : Hid (oie zd = 12) := by show _ = _; unfold oie; rw [if_neg (fun h => h HF.out), if_neg (by rw [he]; decide)]
   clear he
   have rX := (Below.block hb2 _ (bl9 r1)).trans r1
   have hwX := hw1.trans (hb2.mono hw1.size)
   have kX := block_cell rX
   have fX := block_frozen rX
   go_wp2_with fail
   generalize hV : World.setCell _ ⟨w.heap.size + 1, 1, none⟩ _ = V
   have hV8 : V = putRow w2 (w.heap.size + 1) 0 [.int .u16 0, .int .u16 0] := hV.symm
   have hbV : But (fun b => b = w.heap.size + 1) w2 V := by rw [hV8]; exact putRow_but (E := fun b => b = w.heap.size + 1) (n := w.heap.size + 1) rfl _ _ _ _ (But.refl _ _)
   have pV := putRow_all ([.int .u16 0, .int .u16 0] : List Value) rX rfl
   rw [← hV8] at pV
   clear hV hV8 kX fX
   have PV := block_cell pV
   have hwV : Below w.heap.size w V := hwX.trans (hbV.below hwX.size (fun k hk e => by omega))
   exact bodyPost_ret (v := .tuple #[.agg #[.int .u16 0, .int .u16 0], .int .i64 12]) (by simp [results, Tryz.results103, go_sem, PV]) rfl ⟨hwV, _, _, by rw [HOE.out], fun h => by rw [HOE.out] at h; exact absurd h (by decide)⟩
theorem look_none {z : Int} (hz : z ≠ 6 ∧ z ≠ 17 ∧ z ≠ 1 ∧ z ≠ 47) {w : World} {b : Nat} (hb : w.heap[b]? = some (.map rdE 4)) : (Instr.lookup 127 (.map (some b)) (.int .u8 z) true).run Tryz.prog w = .ok (.tuple #[.agg #[.nilFunc, .nilFunc], .bool false]) w :=
 run_findq Tryz.underlying127 Tryz.underlying5 hb z _ false (.inr ⟨by
  obtain ⟨h1, h2, h3, h4⟩ := hz
  have e1 : (z == 6) = false := by simp [h1]
  have e2 : (z == 17) = false := by simp [h2]
  have e3 : (z == 1) = false := by simp [h3]
  have e4 : (z == 47) = false := by simp [h4]
  simp [rdE, Instr.findNow, Instr.sameNow, e1, e2, e3, e4], by kernel_rfl, rfl⟩)
theorem run_store_nf (P : Program) (w : World) (a : Addr) (m : Mode) : (store a .nilFunc m).run P w = stored P w a .nilFunc m := run_store P w a _ m rfl
theorem of_other (pr : Int) (tos id ttl src dst : Int) (keep : Bool) (so : Value) (ad : Option Addr) (ld cd : Nat) (w : World)
  (hpr : pr ≠ 6 ∧ pr ≠ 17 ∧ pr ≠ 1 ∧ pr ≠ 47) :
  Calls Tryz.prog 21 #[.agg #[.int .u8 tos, .int .u16 id, .bool keep, .int .u8 ttl, .int .u8 pr, .int .u32 src, .int .u32 dst, so, .slice ad ld cd]] w fun e w' => Below w.heap.size w w' ∧ e = .returned (.tuple #[.agg #[.int .u8 0, .int .u32 0, .int .u32 0, .int .u16 0, .int .u16 0], .int .i64 12]) := by
 have hb0 : Below w.heap.size w ((w.alloc (.cells #[.int .u8 tos, .int .u16 id, .bool keep, .int .u8 ttl, .int .u8 pr, .int .u32 src, .int .u32 dst, so, .slice ad ld cd] 56)).alloc (.cells #[.int .u8 0, .int .u32 0, .int .u32 0, .int .u16 0, .int .u16 0] 68)) := ((Below.refl _ _).alloc (Nat.le_refl _) _).alloc (by simp) _
 have p0 : ((w.alloc (.cells #[.int .u8 tos, .int .u16 id, .bool keep, .int .u8 ttl, .int .u8 pr, .int .u32 src, .int .u32 dst, so, .slice ad ld cd] 56)).alloc (.cells #[.int .u8 0, .int .u32 0, .int .u32 0, .int .u16 0, .int .u16 0] 68)).heap[w.heap.size]? = some (.cells #[.int .u8 tos, .int .u16 id, .bool keep, .int .u8 ttl, .int .u8 pr, .int .u32 src, .int .u32 dst, so, .slice ad ld cd] 56) := (Below.heap_alloc _ _ _ (by simp)).trans (heap_alloc_new w _)
 have r0 := heap_alloc_new (w.alloc (.cells #[.int .u8 tos, .int .u16 id, .bool keep, .int .u8 ttl, .int .u8 pr, .int .u32 src, .int .u32 dst, so, .slice ad ld cd] 56)) (.cells #[.int .u8 0, .int .u32 0, .int .u32 0, .int .u16 0, .int .u16 0] 68)
 rw [World.size_alloc] at r0
 have hs0 : ((w.alloc (.cells #[.int .u8 tos, .int .u16 id, .bool keep, .int .u8 ttl, .int .u8 pr, .int .u32 src, .int .u32 dst, so, .slice ad ld cd] 56)).alloc (.cells #[.int .u8 0, .int .u32 0, .int .u32 0, .int .u16 0, .int .u16 0] 68)).heap.size = w.heap.size + 2 := by simp
 have HS0 := hide hs0
 have P0 := hide p0
 have R0 := hide r0
 clear r0 hs0 p0
 go_enter Tryz.func21, Tryz.ntmps21
 go_upto_region 1 with fail
 generalize (w.alloc (.cells #[.int .u8 tos, .int .u16 id, .bool keep, .int .u8 ttl, .int .u8 pr, .int .u32 src, .int .u32 dst, so, .slice ad ld cd] 56)).alloc (.cells #[.int .u8 0, .int .u32 0, .int .u32 0, .int .u16 0, .int .u16 0] 68) = w0 at *
 have hlt0 : w.heap.size + 1 < w0.heap.size := by have := HS0.out; omega
 have p0 := P0.out
 go_cut [4, 5] (fun q x wx => ∃ g, q = .pointer (some ⟨g, 0, none⟩) ∧ x = .bool false ∧ wx.heap[g]? = some (.cells #[.nilFunc, .nilFunc] 125 (0, 0)) ∧ Below w0.heap.size w0 wx)
 case first =>
  refine anyT_begin (R := But (fun b => w0.heap.size ≤ b)) 10 rfl (by kernel_rfl) ?_
  have hd : Later w0 w0.drew := Later.drew w0
  have pd := (hd.block w.heap.size (bl9 p0)).trans p0
  have bd : Below w0.heap.size w0 w0.drew := hd
  generalize w0.drew = Wd at *
  have ha : ∀ v1, But (fun b => w0.heap.size ≤ b) Wd v1 → ∀ i, v1.cell? ⟨w.heap.size, i, none⟩ = #[Value.int .u8 tos, .int .u16 id, .bool keep, .int .u8 ttl, .int .u8 pr, .int .u32 src, .int .u32 dst, so, .slice ad ld cd][i]? := fun v1 h => block_cell ((h.block w.heap.size (bl9 pd) (by omega)).trans pd)
  have hz : w0.heap.size ≤ Wd.heap.size := bd.size
  refine tV (But.pre _) 1 rfl rfl ⟨_, fun v h => by (go_simp; rfl), ?_⟩; simp only [Act.put, sA, sB, sC]
  refine tV (But.pre _) 2 rfl rfl ⟨_, fun v h => by (go_simp; rfl), ?_⟩; simp only [Act.put, sA, sB, sC]
  refine anyT_two 0 7 rfl rfl (by kernel_rfl) rfl rfl ?_ ?_
  ·skip
   refine wp_enter 53 #[] (by go_simp) ?_
   refine (readers_any Wd).mono ?_
   rintro e W3 ⟨m, rfl, hb3, hM3⟩
   have l3 : Later Wd W3 := hb3
   refine ⟨But.of l3, ?_⟩
   simp only [Act.put, sA, sB, sC]
   have hlk := look_none hpr hM3
   refine anyT_two 3 7 rfl rfl (by kernel_rfl) rfl rfl ?_ ?_
   ·unfold Oper.wp
    go_simp
    refine ⟨But.refl _ _, ?_⟩
    clear hlk
    refine tV (But.pre _) 4 rfl rfl ⟨_, fun v h => by (go_simp; rfl), ?_⟩; simp only [Act.put, sA, sB, sC]
    refine tV (But.pre _) 5 rfl rfl ⟨_, fun v h => by (go_simp; rfl), ?_⟩; simp only [Act.put, sA, sB, sC]
    refine tV (But.pre _) 6 rfl rfl ⟨_, fun v h => by (go_simp; rfl), ?_⟩; simp only [Act.put, sA, sB, sC]
    refine anyT_one 7 rfl (by kernel_rfl) rfl ?_
    unfold Oper.wp
    go_simp
    have l4 : Later W3 (W3.alloc (.cells #[.nilFunc, .nilFunc] 125)) := (Below.refl _ _).alloc (Nat.le_refl _) _
    have g4 := heap_alloc_new W3 (.cells #[.nilFunc, .nilFunc] 125)
    have b4 : Below w0.heap.size w0 (W3.alloc (.cells #[.nilFunc, .nilFunc] 125)) := (bd.trans (l3.mono hz)).trans (l4.mono (Nat.le_trans hz l3.size))
    have hge : w0.heap.size ≤ W3.heap.size := Nat.le_trans hz l3.size
    refine ⟨But.of l4, ?_⟩
    generalize W3.alloc (.cells #[.nilFunc, .nilFunc] 125) = W4 at *
    generalize W3.heap.size = g at *
    have kg := block_cell g4
    have fg := block_frozen g4
    have hsf := run_store_nf Tryz.prog
    refine anyT_one 8 rfl (by kernel_rfl) rfl ?_
    unfold Oper.wp
    go_simp
    generalize hV : World.setCell _ ⟨g, 1, none⟩ _ = V
    have hV8 : V = putRow W4 (g) 0 [.nilFunc, .nilFunc] := hV.symm
    have hbV : But (fun b => w0.heap.size ≤ b) W4 V := by rw [hV8]; exact putRow_but (E := fun b => w0.heap.size ≤ b) (n := g) hge _ _ _ _ (But.refl _ _)
    have pV := putRow_all [Value.nilFunc, .nilFunc] g4 rfl
    rw [← hV8] at pV
    clear hV hV8 kg fg hsf
    refine ⟨hbV, ?_⟩
    refine anyT_one 9 rfl (by kernel_rfl) rfl ?_
    unfold Oper.wp
    go_simp
    refine ⟨But.refl _ _, ?_⟩
    refine anyT_done (by kernel_rfl) ?_
    have hbl : Below w0.heap.size w0 V := b4.trans (hbV.below b4.size (fun k hk e => by omega))
    clear ha
    go_wp2_with fail
    go_meet
    exact ⟨_, rfl, rfl, pV, hbl⟩
   ·unfold Oper.wp
    go_simp
    have l4 : Later W3 (W3.alloc (.cells #[.nilFunc, .nilFunc] 125)) := (Below.refl _ _).alloc (Nat.le_refl _) _
    have g4 := heap_alloc_new W3 (.cells #[.nilFunc, .nilFunc] 125)
    have b4 : Below w0.heap.size w0 (W3.alloc (.cells #[.nilFunc, .nilFunc] 125)) := (bd.trans (l3.mono hz)).trans (l4.mono (Nat.le_trans hz l3.size))
    have hge : w0.heap.size ≤ W3.heap.size := Nat.le_trans hz l3.size
    have hM4 := (l4.block m (bl9 hM3)).trans hM3
    refine ⟨But.of l4, ?_⟩
    clear hlk
    generalize W3.alloc (.cells #[.nilFunc, .nilFunc] 125) = W4 at *
    generalize W3.heap.size = g at *
    have hlk := look_none hpr hM4
    refine anyT_one 3 rfl (by kernel_rfl) rfl ?_
    unfold Oper.wp
    go_simp
    refine ⟨But.refl _ _, ?_⟩
    clear hlk
    refine tV (But.pre _) 4 rfl rfl ⟨_, fun v h => by (go_simp; rfl), ?_⟩; simp only [Act.put, sA, sB, sC]
    refine tV (But.pre _) 5 rfl rfl ⟨_, fun v h => by (go_simp; rfl), ?_⟩; simp only [Act.put, sA, sB, sC]
    refine tV (But.pre _) 6 rfl rfl ⟨_, fun v h => by (go_simp; rfl), ?_⟩; simp only [Act.put, sA, sB, sC]
    have kg := block_cell g4
    have fg := block_frozen g4
    have hsf := run_store_nf Tryz.prog
    refine anyT_one 8 rfl (by kernel_rfl) rfl ?_
    unfold Oper.wp
    go_simp
    generalize hV : World.setCell _ ⟨g, 1, none⟩ _ = V
    have hV8 : V = putRow W4 (g) 0 [.nilFunc, .nilFunc] := hV.symm
    have hbV : But (fun b => w0.heap.size ≤ b) W4 V := by rw [hV8]; exact putRow_but (E := fun b => w0.heap.size ≤ b) (n := g) hge _ _ _ _ (But.refl _ _)
    have pV := putRow_all [Value.nilFunc, .nilFunc] g4 rfl
    rw [← hV8] at pV
    clear hV hV8 kg fg hsf
    refine ⟨hbV, ?_⟩
    refine anyT_one 9 rfl (by kernel_rfl) rfl ?_
    unfold Oper.wp
    go_simp
    refine ⟨But.refl _ _, ?_⟩
    refine anyT_done (by kernel_rfl) ?_
    have hbl : Below w0.heap.size w0 V := b4.trans (hbV.below b4.size (fun k hk e => by omega))
    clear ha
    go_wp2_with fail
    go_meet
    exact ⟨_, rfl, rfl, pV, hbl⟩
  ·unfold Oper.wp
   go_simp
   have l4 : Later Wd (Wd.alloc (.cells #[.nilFunc, .nilFunc] 125)) := (Below.refl _ _).alloc (Nat.le_refl _) _
   have g4 := heap_alloc_new Wd (.cells #[.nilFunc, .nilFunc] 125)
   have b4 : Below w0.heap.size w0 (Wd.alloc (.cells #[.nilFunc, .nilFunc] 125)) := bd.trans (l4.mono hz)
   refine ⟨But.of l4, ?_⟩
   have hge : w0.heap.size ≤ Wd.heap.size := hz
   generalize Wd.alloc (.cells #[.nilFunc, .nilFunc] 125) = W4 at *
   generalize Wd.heap.size = g at *
   refine anyT_one 0 rfl (by kernel_rfl) rfl ?_
   refine wp_enter 53 #[] (by go_simp) ?_
   refine (readers_any W4).mono ?_
   rintro e W5 ⟨m, rfl, hb5, hM5⟩
   have l5 : Later W4 W5 := hb5
   have g5 := (l5.block g (bl9 g4)).trans g4
   have b5 : Below w0.heap.size w0 W5 := b4.trans (l5.mono b4.size)
   refine ⟨But.of l5, ?_⟩
   simp only [Act.put, sA, sB, sC]
   have hlk := look_none hpr hM5
   refine anyT_one 3 rfl (by kernel_rfl) rfl ?_
   unfold Oper.wp
   go_simp
   refine ⟨But.refl _ _, ?_⟩
   clear hlk
   refine tV (But.pre _) 4 rfl rfl ⟨_, fun v h => by (go_simp; rfl), ?_⟩; simp only [Act.put, sA, sB, sC]
   refine tV (But.pre _) 5 rfl rfl ⟨_, fun v h => by (go_simp; rfl), ?_⟩; simp only [Act.put, sA, sB, sC]
   refine tV (But.pre _) 6 rfl rfl ⟨_, fun v h => by (go_simp; rfl), ?_⟩; simp only [Act.put, sA, sB, sC]
   have kg := block_cell g5
   have fg := block_frozen g5
   have hsf := run_store_nf Tryz.prog
   refine anyT_one 8 rfl (by kernel_rfl) rfl ?_
   unfold Oper.wp
   go_simp
   generalize hV : World.setCell _ ⟨g, 1, none⟩ _ = V
   have hV8 : V = putRow W5 (g) 0 [.nilFunc, .nilFunc] := hV.symm
   have hbV : But (fun b => w0.heap.size ≤ b) W5 V := by rw [hV8]; exact putRow_but (E := fun b => w0.heap.size ≤ b) (n := g) hge _ _ _ _ (But.refl _ _)
   have pV := putRow_all [Value.nilFunc, .nilFunc] g5 rfl
   rw [← hV8] at pV
   clear hV hV8 kg fg hsf
   refine ⟨hbV, ?_⟩
   refine anyT_one 9 rfl (by kernel_rfl) rfl ?_
   unfold Oper.wp
   go_simp
   refine ⟨But.refl _ _, ?_⟩
   refine anyT_done (by kernel_rfl) ?_
   have hbl : Below w0.heap.size w0 V := b5.trans (hbV.below b5.size (fun k hk e => by omega))
   clear ha
   go_wp2_with fail
   go_meet
   exact ⟨_, rfl, rfl, pV, hbl⟩
 case rest =>
  obtain ⟨g, rfl, rfl, hg, hbc⟩ := hcut
  have rX := (hbc.block _ (bl9 R0.out)).trans R0.out
  have hwX := hb0.trans (hbc.mono hb0.size)
  have kX := block_cell rX
  have fX := block_frozen rX
  go_wp2_with fail
  generalize hV : World.setCell _ ⟨w.heap.size + 1, 4, none⟩ _ = V
  have hV8 : V = putRow wc (w.heap.size + 1) 0 [.int .u8 0, .int .u32 0, .int .u32 0, .int .u16 0, .int .u16 0] := hV.symm
  have hbV : But (fun b => b = w.heap.size + 1) wc V := by rw [hV8]; exact putRow_but (E := fun b => b = w.heap.size + 1) (n := w.heap.size + 1) rfl _ _ _ _ (But.refl _ _)
  have pV := putRow_all ([.int .u8 0, .int .u32 0, .int .u32 0, .int .u16 0, .int .u16 0] : List Value) rX rfl
  rw [← hV8] at pV
  clear hV hV8 kX fX
  have PV := block_cell pV
  have hwV : Below w.heap.size w V := hwX.trans (hbV.below hwX.size (fun k hk e => by omega))
  exact bodyPost_ret (v := .tuple #[.agg #[.int .u8 0, .int .u32 0, .int .u32 0, .int .u16 0, .int .u16 0], .int .i64 12]) (by simp [results, Tryz.results21, go_sem, PV]) rfl ⟨hwV, rfl⟩
theorem rpseudo_row (s d p n : Int) (hs : 0 ≤ s ∧ s ≤ 4294967295) (hd : 0 ≤ d ∧ d ≤ 4294967295) (w : World) :
  Calls Tryz.prog 160 #[.int .u32 s, .int .u32 d, .int .u8 p, .int .i64 n] w fun e w' => ∃ v, e = .returned v ∧ w'.ownsRow w.heap.size 5 1 v (psd s d p n).length ((psd s d p n).map (Value.int .u8)) ∧ Below w.heap.size w w' := by
 obtain ⟨i0, hi, hz0, hz1, hz2⟩ := info_parts info_u8
 have hn0 : 0 ≤ n % 65536 ∧ n % 65536 ≤ 65535 := by omega
 go_enter Tryz.func160, Tryz.ntmps160
 go_wp2_with fail
 refine (four_any s hs _).mono ?_
 rintro e w1 ⟨rfl, rfl⟩
 have hR1 := Rd.new4 (s / 16777216) (s / 65536 % 256) (s / 256 % 256) (s % 256) 5 w
 have hb1 : Below w.heap.size w (w.alloc (.cells #[.int .u8 (s / 16777216), .int .u8 (s / 65536 % 256), .int .u8 (s / 256 % 256), .int .u8 (s % 256)] 5)) := (Below.refl _ w).alloc (Nat.le_refl _) _
 go_wp2_with (at_builtin; refine wpList_app _ rfl (.tmp 10) (.tmp 12) 31 rfl w.heap.size 5 i0 Tryz.underlying31 hi hz0 hz1 hz2 _ [] rfl (World.ownsRow_nil _ _ _ _) (w.heap.size + 1) _ [s / 16777216, s / 65536 % 256, s / 256 % 256, s % 256] rfl hR1 (by simp) (by simp) ?_; intro v2 w2 hown2 hg2; have hb2 := hb1.grown hg2 (by simp) (fun k e => by cases e); clear hg2 hb1 hR1)
 simp only [List.nil_append] at hown2
 generalize hl2 : [s / 16777216, s / 65536 % 256, s / 256 % 256, s % 256] = l2 at *
 have hn2 : l2.length = 4 := by rw [← hl2]; rfl
 have HL2 := hide hl2
 clear hl2
 refine (four_any d hd _).mono ?_
 rintro e w3 ⟨rfl, rfl⟩
 have hR3 := Rd.new4 (d / 16777216) (d / 65536 % 256) (d / 256 % 256) (d % 256) 5 w2
 have hb3 := hb2.alloc hb2.size (.cells #[.int .u8 (d / 16777216), .int .u8 (d / 65536 % 256), .int .u8 (d / 256 % 256), .int .u8 (d % 256)] 5)
 go_wp2_with (first
  | (at_builtin; refine wpList_app _ rfl (.tmp 14) (.tmp 16) 31 rfl w.heap.size 5 i0 Tryz.underlying31 hi hz0 hz1 hz2 _ l2 rfl (hown2.alloc _) (w2.heap.size + 1) _ [d / 16777216, d / 65536 % 256, d / 256 % 256, d % 256] rfl hR3 (by simp; omega) hb3.size ?_; intro v4 w4 hown4 hg4; have hb4 := below_app hb3 (hown2.alloc _) hg4 (Nat.le_refl _) hb3.size; clear hg4 hb3 hR3; have hR5 := Rd.new2 0 p 5 w4; have hb5 := hb4.alloc hb4.size (.cells #[.int .u8 0, .int .u8 p] 5))
  | (at_builtin; refine wpList_app _ rfl (.tmp 18) (.tmp 20) 31 rfl w.heap.size 5 i0 Tryz.underlying31 hi hz0 hz1 hz2 _ (l2 ++ [d / 16777216, d / 65536 % 256, d / 256 % 256, d % 256]) rfl (hown4.alloc _) (w4.heap.size + 1) _ [0, p] rfl hR5 (by simp; omega) hb5.size ?_; intro v6 w6 hown6 hg6; have hb6 := below_app hb5 (hown4.alloc _) hg6 (Nat.le_refl _) hb5.size; clear hg6 hb5 hR5))
 rw [IntKind.wrap_u16]
 have HM : Hid (n % 65536 / 256 = n / 256 % 256 ∧ n % 65536 % 256 = n % 256) := by show _ ∧ _; omega
 generalize n % 65536 = m at *
 refine (two_any m hn0 _).mono ?_
 rintro e w7 ⟨rfl, rfl⟩
 have hR7 := Rd.new2 (m / 256) (m % 256) 5 w6
 have hb7 := hb6.alloc hb6.size (.cells #[.int .u8 (m / 256), .int .u8 (m % 256)] 5)
 go_wp2_with (at_builtin; refine wpList_app _ rfl (.tmp 22) (.tmp 25) 31 rfl w.heap.size 5 i0 Tryz.underlying31 hi hz0 hz1 hz2 _ (l2 ++ [d / 16777216, d / 65536 % 256, d / 256 % 256, d % 256] ++ [0, p]) rfl (hown6.alloc _) (w6.heap.size + 1) _ [m / 256, m % 256] rfl hR7 (by simp; omega) hb7.size ?_; intro v8 w8 hown8 hg8; have hb8 := below_app hb7 (hown6.alloc _) hg8 (Nat.le_refl _) hb7.size; clear hg8 hb7 hR7)
 go_ret
 refine ⟨_, rfl, ?_, hb8⟩
 rw [← HL2.out, HM.out.1, HM.out.2] at hown8
 exact hown8
theorem rsum3_any (tos id ttl proto src dst pr : Int) (keep : Bool) (so sd sb : Value) (zs : List Int) (w : World) (hB : Mt.By zs) (hI : Rd w.heap.size w sb zs) (hl : 12 + zs.length ≤ 1099511627776) (hpr : 0 ≤ pr ∧ pr ≤ 255) (hsr : 0 ≤ src ∧ src ≤ 4294967295) (hds : 0 ≤ dst ∧ dst ≤ 4294967295) :
  Calls Tryz.prog 117 #[.agg #[.int .u8 tos, .int .u16 id, .bool keep, .int .u8 ttl, .int .u8 proto, .int .u32 src, .int .u32 dst, so, sd], .int .u8 pr, sb] w fun e w' => e = .returned (.int .u16 (Mt.cks (psd src dst pr zs.length ++ zs))) ∧ Below w.heap.size w w' := by
 obtain ⟨i0, hi, hz0, hz1, hz2⟩ := info_parts info_u8
 obtain ⟨ab, cb, rfl, hl1, hm1⟩ := hI.slice
 have hb0 : Below w.heap.size w (w.alloc (.cells #[.int .u8 tos, .int .u16 id, .bool keep, .int .u8 ttl, .int .u8 proto, .int .u32 src, .int .u32 dst, so, sd] 56)) := (Below.refl _ _).alloc (Nat.le_refl _) _
 have hBs := (By_psd src dst pr zs.length hsr hds hpr).append hB
 have hln : (psd src dst pr zs.length ++ zs).length = 12 + zs.length := by rw [List.length_append, psd_length]
 have HBS := hide hBs
 have HLN := hide hln
 clear hBs hln
 go_enter Tryz.func117, Tryz.ntmps117
 go_wp2_with fail
 generalize w.alloc (.cells #[.int .u8 tos, .int .u16 id, .bool keep, .int .u8 ttl, .int .u8 proto, .int .u32 src, .int .u32 dst, so, sd] 56) = W0 at *
 refine (rpseudo_row src dst pr zs.length hsr hds W0).mono ?_
 rintro e w2 ⟨v2, rfl, hO2, hb2⟩
 have hw2 := hb0.trans (hb2.mono hb0.size)
 obtain ⟨a2, c2, rfl, _, _⟩ := (Ow.of_row hO2).slice
 have hI2 := hI.below hw2
 go_wp2_with (at_builtin; refine wpList_app _ rfl (.tmp 14) (.tmp 15) 31 rfl W0.heap.size 5 i0 Tryz.underlying31 hi hz0 hz1 hz2 _ (psd src dst pr zs.length) rfl hO2 w.heap.size _ zs rfl hI2 (by rw [psd_length]; omega) hb2.size ?_; intro v3 w3 hO3 hg3; have hw3 := below_app hw2 hO2 hg3 hb0.size hw2.size; clear hg3)
 have hO3' := Ow.of_row hO3
 clear hO2 hO3
 refine (rsum_any _ _ HBS.out (by rw [HLN.out]; exact hl) w3 hO3'.rd).mono ?_
 rintro e w4 ⟨rfl, hb4⟩
 have hw4 := hw3.trans (hb4.mono hw3.size)
 go_wp2_with fail
 go_ret
 exact ⟨rfl, hw4⟩
theorem rparseUdp_any (tos id ttl proto src dst : Int) (keep : Bool) (so sd : Value) (zs : List Int) (w : World) (hB : Mt.By zs) (hI : Rd w.heap.size w sd zs) (hl : 12 + zs.length ≤ 140737488355328) (hsr : 0 ≤ src ∧ src ≤ 4294967295) (hds : 0 ≤ dst ∧ dst ≤ 4294967295) :
  Calls Tryz.prog 66 #[.agg #[.int .u8 tos, .int .u16 id, .bool keep, .int .u8 ttl, .int .u8 proto, .int .u32 src, .int .u32 dst, so, sd]] w fun e w' => Below w.heap.size w w' ∧ ((pue proto src dst zs ≠ 0 ∧ e = .returned (.tuple #[.agg zud.toArray, .int .i64 (pue proto src dst zs)])) ∨
   (pue proto src dst zs = 0 ∧ ∃ ad cd, e = .returned (.tuple #[.agg #[.int .u16 (wat zs 0), .int .u16 (wat zs 2), .bool (wat zs 6 == 0), .slice ad (zs.length - 8) cd], .int .i64 0]) ∧ Ow w.heap.size w' (.slice ad (zs.length - 8) cd) (zs.drop 8))) := by
 obtain ⟨ad, cd, rfl, hl1, hm1⟩ := hI.slice
 have hb0 : Below w.heap.size w ((w.alloc (.cells #[.int .u8 tos, .int .u16 id, .bool keep, .int .u8 ttl, .int .u8 proto, .int .u32 src, .int .u32 dst, so, .slice ad zs.length cd] 56)).alloc (.cells zud.toArray 60)) := ((Below.refl _ _).alloc (Nat.le_refl _) _).alloc (by simp) _
 have p0 : ((w.alloc (.cells #[.int .u8 tos, .int .u16 id, .bool keep, .int .u8 ttl, .int .u8 proto, .int .u32 src, .int .u32 dst, so, .slice ad zs.length cd] 56)).alloc (.cells zud.toArray 60)).heap[w.heap.size]? = some (.cells #[.int .u8 tos, .int .u16 id, .bool keep, .int .u8 ttl, .int .u8 proto, .int .u32 src, .int .u32 dst, so, .slice ad zs.length cd] 56) := (Below.heap_alloc _ _ _ (by simp)).trans (heap_alloc_new w _)
 have r0 : ((w.alloc (.cells #[.int .u8 tos, .int .u16 id, .bool keep, .int .u8 ttl, .int .u8 proto, .int .u32 src, .int .u32 dst, so, .slice ad zs.length cd] 56)).alloc (.cells zud.toArray 60)).heap[w.heap.size + 1]? = some (.cells zud.toArray 60 (0, 0)) := by have := heap_alloc_new (w.alloc (.cells #[.int .u8 tos, .int .u16 id, .bool keep, .int .u8 ttl, .int .u8 proto, .int .u32 src, .int .u32 dst, so, .slice ad zs.length cd] 56)) (.cells zud.toArray 60); simpa using this
 have hs0 : ((w.alloc (.cells #[.int .u8 tos, .int .u16 id, .bool keep, .int .u8 ttl, .int .u8 proto, .int .u32 src, .int .u32 dst, so, .slice ad zs.length cd] 56)).alloc (.cells zud.toArray 60)).heap.size = w.heap.size + 1 + 1 := by simp
 have P0 := hide p0
 have R0 := hide r0
 have HS := hide hs0
 clear p0 r0 hs0
 go_enter Tryz.func66, Tryz.ntmps66
 go_upto_region 1 with fail
 generalize (w.alloc (.cells #[.int .u8 tos, .int .u16 id, .bool keep, .int .u8 ttl, .int .u8 proto, .int .u32 src, .int .u32 dst, so, .slice ad zs.length cd] 56)).alloc (.cells zud.toArray 60) = w1 at *
 have p1 := P0.out
 have r1 := R0.out
 have hw1 := hb0
 have hs1 : w.heap.size + 1 + 1 ≤ w1.heap.size := by have := HS.out; omega
 clear hb0 P0 R0 HS
 have K1 := block_cell p1
 by_cases c1 : proto = 17
 ·have t1 : (proto != 17) = false := by simp [c1]
  have C1 := hide c1
  by_cases c2 : zs.length < 8
  ·have t2 : (zs.length : Int) < 8 := by omega
   have HF : Hid (pue proto src dst zs = 3) := by show _ = _; unfold pue; rw [if_neg (by simp [C1.out]), if_pos c2]
   clear c1
   have R1 := block_cell r1
   have F1 := block_frozen r1
   go_wp2_with fail
   generalize hV : World.setCell _ ⟨w.heap.size + 1, 3, none⟩ _ = V8
   have hV9 : V8 = putRow w1 (w.heap.size + 1) 0 zud := hV.symm
   have hb8 : But (fun b => b = w.heap.size + 1) w1 V8 := by rw [hV9]; exact putRow_but (E := fun b => b = w.heap.size + 1) (n := w.heap.size + 1) rfl _ _ _ _ (But.refl _ _)
   have p8 := putRow_all zud r1 rfl
   rw [← hV9] at p8
   clear hV hV9
   have P8 := block_cell p8
   have hw8 : Below w.heap.size w V8 := (hw1).trans (hb8.below (hw1).size (fun k h e => by omega))
   exact bodyPost_ret (v := .tuple #[.agg zud.toArray, .int .i64 3]) (by simp [results, Tryz.results66, go_sem, P8]) rfl (⟨hw8, .inl ⟨by rw [HF.out]; decide, by rw [HF.out]⟩⟩)
  ·have t2 : ¬ (zs.length : Int) < 8 := by omega
   clear c1
   go_wp2_with fail
   refine (rget16_at _ zs hB 4 (by omega) (by omega) w1 (hI.below hw1)).mono ?_
   rw [getAt2_lit zs 4 4 rfl (by omega)]
   rintro e w2 ⟨rfl, n2, hn2⟩
   have hb2 : Later w1 w2 := by rw [hn2]; exact below_draw (Later.refl w1) n2
   clear hn2
   have p2 := later_keep hb2 p1
   have r2 := later_keep hb2 r1
   have hw2 : Below w.heap.size w w2 := hw1.trans (hb2.mono hw1.size)
   have hs2' : w.heap.size + 1 + 1 ≤ w2.heap.size := by have := hb2.size; omega
   clear hb2 p1 r1 hw1 hs1 K1
   have K2 := block_cell p2
   have b4 := wat_bd hB 4
   by_cases c3 : wat zs 4 = zs.length
   ·have t3 : (wat zs 4 != (zs.length : Int)) = false := by simp [c3]
    have hsm : zs.length ≤ 65535 := by omega
    have C3 := hide c3
    clear c3
    go_wp2_with fail
    refine (rget16_at _ zs hB 6 (by omega) (by omega) w2 (hI.below hw2)).mono ?_
    rw [getAt2_lit zs 6 6 rfl (by omega)]
    rintro e w5 ⟨rfl, n5, hn5⟩
    have hb5 : Later w2 w5 := by rw [hn5]; exact below_draw (Later.refl w2) n5
    clear hn5
    have p5 := later_keep hb5 p2
    have r5 := later_keep hb5 r2
    have hw5 : Below w.heap.size w w5 := hw2.trans (hb5.mono hw2.size)
    have hs5 : w.heap.size + 1 + 1 ≤ w5.heap.size := by have := hb5.size; omega
    clear hb5 p2 r2 hw2 hs2' K2
    have K5 := block_cell p5
    generalize g6 : wat zs 6 = x6
    have G6 := hide g6
    clear g6
    by_cases c4 : x6 = 0
    ·have t4 : (x6 == 0) = true := by simp [c4]
     have HF : Hid (pue proto src dst zs = 0) := by show _ = _; unfold pue; rw [if_neg (by simp [C1.out]), if_neg c2, if_neg (by simp [C3.out]), if_neg (by rw [G6.out]; simp [c4])]
     clear c4
     obtain ⟨b, off, cap, e0, hlc, hmc, hbb, hcs⟩ := hI.cells (by omega)
     have hcl := e0
     simp at hcl
     obtain ⟨rfl, rfl⟩ := hcl
     clear e0 hcs
     go_wp2_with fail
     refine (rget16_at _ zs hB 0 (by omega) (by omega) w5 (hI.below hw5)).mono ?_
     rw [getAt2_lit zs 0 0 rfl (by omega)]
     rintro e wa ⟨rfl, na, hna⟩
     have hba : Later w5 wa := by rw [hna]; exact below_draw (Later.refl w5) na
     clear hna
     have hwa := hw5.trans (hba.mono hw5.size)
     go_wp2_with fail
     refine (rget16_at _ zs hB 2 (by omega) (by omega) wa (hI.below hwa)).mono ?_
     rw [getAt2_lit zs 2 2 rfl (by omega)]
     rintro e wb ⟨rfl, nb, hnb⟩
     have hbb2 : Later wa wb := by rw [hnb]; exact below_draw (Later.refl wa) nb
     clear hnb
     have hwb := hwa.trans (hbb2.mono hwa.size)
     have rb := later_keep hbb2 (later_keep hba r5)
     have hsb : w.heap.size + 1 + 1 ≤ wb.heap.size := by have := hba.size; have := hbb2.size; omega
     clear hba hbb2
     go_upto_region 12 with fail
     generalize hV : wb.alloc _ = Wc
     have lc : Later wb Wc := by rw [← hV]; exact (Below.refl _ wb).alloc (Nat.le_refl _) _
     have mc : Wc.heap[wb.heap.size]? = some (.cells #[.int .u16 (wat zs 0), .int .u16 (wat zs 2), .bool true, .slice none 0 0] 60 (0, 0)) := by rw [← hV]; exact heap_alloc_new wb _
     clear hV
     have hwc := hwb.trans (lc.mono hwb.size)
     have rc := later_keep lc rb
     refine anyT_begin (R := But (fun b => b = wb.heap.size)) 7 rfl (by kernel_rfl) ?_
     have hd : Later Wc Wc.drew := Later.drew Wc
     have md := later_keep hd mc
     have rd := later_keep hd rc
     have hwd : Below w.heap.size w Wc.drew := hwc.trans (hd.mono hwc.size)
     generalize Wc.drew = Wd at *
     have hr : Rd w.heap.size Wd (.slice (some ⟨b, off, none⟩) zs.length cd) zs := hI.below hwd
     have hs8 : Rd w.heap.size Wd (.slice (if cd = 8 then some (⟨b, off, none⟩ : Addr) else some ⟨b, off + 8, none⟩) (zs.length - 8) (cd - 8)) (zs.drop 8) := hr.cutAt 8 (by omega)
     generalize hE8 : (if cd = 8 then some (⟨b, off, none⟩ : Addr) else some ⟨b, off + 8, none⟩) = ad8 at *
     have i8 : (8 : Int) ≤ zs.length := by omega
     have i8c : (zs.length : Int) ≤ cd := by omega
     have i8n : ¬ zs.length < 8 := by omega
     refine tV (But.pre _) 0 rfl rfl ⟨_, fun v h => by (go_simp; rfl), ?_⟩; simp only [Act.put, sA, sB, sC]
     refine tV (But.pre _) 2 rfl rfl ⟨_, fun v h => by (go_simp; rfl), ?_⟩; simp only [Act.put, sA, sB, sC]
     refine tV (But.pre _) 3 rfl rfl ⟨.slice ad8 (zs.length - 8) (cd - 8), fun v1 hv1 => by go_simp, ?_⟩
     simp only [Act.put, sA, sB, sC]
     refine anyT_one 1 rfl (by kernel_rfl) rfl ?_
     have kd := block_cell md
     unfold Oper.wp
     go_simp
     refine ⟨But.refl _ _, ?_⟩
     refine anyT_one 4 rfl (by kernel_rfl) rfl ?_
     obtain ⟨i0, hi, hz0, hz1, hz2⟩ := info_parts info_u8
     have hsd : wb.heap.size + 1 ≤ Wd.heap.size := (bl9 md)
     obtain ⟨v3, W3, hrun3, hown3, hgr3⟩ := run_app (P := Tryz.prog) Wd 31 31 5 (wb.heap.size + 1) i0 Tryz.underlying31 hi hz0 hz1 hz2 (.slice none 0 0) [] (World.ownsRow_nil _ _ _ _) w.heap.size _ (zs.drop 8) hs8 (by simp; omega) hsd
     have hl3 : Later Wd W3 := (Below.refl _ Wd).grown hgr3 (Nat.le_refl _) (fun _ e => by cases e)
     have hO3 := Ow.of_row hown3
     rw [List.nil_append] at hO3
     clear hown3
     obtain ⟨a3, c3, rfl, hq3, hm3⟩ := hO3.slice
     rw [List.length_drop] at hO3 hrun3
     refine wp_app (.tmp 43) (.tmp 45) 31 rfl _ _ rfl rfl _ W3 hrun3 ⟨But.of hl3, ?_⟩
     simp only [Act.put, sA, sB, sC]
     refine tV (But.pre _) 5 rfl rfl ⟨_, fun v h => by (go_simp; rfl), ?_⟩; simp only [Act.put, sA, sB, sC]
     have m3 := later_keep hl3 md
     have r3 := later_keep hl3 rd
     have k3 := block_cell m3
     have f3 : ∀ j, W3.frozen? ⟨wb.heap.size, j, none⟩ = false := block_frozen m3
     clear kd
     refine anyT_one 6 rfl (by kernel_rfl) rfl ?_
     unfold Oper.wp
     go_simp
     refine ⟨(But.refl (fun b => b = wb.heap.size) _).setCell (p := ⟨wb.heap.size, 3, none⟩) rfl _, ?_⟩
     refine anyT_done (by kernel_rfl) ?_
     have m4 : (W3.setCell ⟨wb.heap.size, 3, none⟩ (.slice a3 (zs.length - 8) c3)).heap[wb.heap.size]? = some (.cells #[.int .u16 (wat zs 0), .int .u16 (wat zs 2), .bool true, .slice a3 (zs.length - 8) c3] 60 (0, 0)) := heap_set1 m3 3 _
     have E4 : But (fun b => b = wb.heap.size) W3 (W3.setCell ⟨wb.heap.size, 3, none⟩ (.slice a3 (zs.length - 8) c3)) := (But.refl (fun b => b = wb.heap.size) W3).setCell (p := ⟨wb.heap.size, 3, none⟩) rfl _
     have hw3 := hwd.trans (hl3.mono hwd.size)
     have hs3 := hl3.size
     generalize W3.setCell ⟨wb.heap.size, 3, none⟩ (.slice a3 (zs.length - 8) c3) = W4 at *
     have hw4 : Below w.heap.size w W4 := hw3.trans (E4.below hw3.size (fun k h e => by omega))
     have r4 := (E4.block (w.heap.size + 1) (by omega) (by omega)).trans r3
     have hO4 := hO3.but E4 (fun b h e => by omega)
     have M4 := block_cell m4
     have R4 := block_cell r4
     have F4 := block_frozen r4
     clear k3 f3
     go_wp2_with fail
     generalize hV : World.setCell _ ⟨w.heap.size + 1, 3, none⟩ _ = V8
     have hV9 : V8 = putRow W4 (w.heap.size + 1) 0 [.int .u16 (wat zs 0), .int .u16 (wat zs 2), .bool true, .slice a3 (zs.length - 8) c3] := hV.symm
     have hb8 : But (fun b => b = w.heap.size + 1) W4 V8 := by rw [hV9]; exact putRow_but (E := fun b => b = w.heap.size + 1) (n := w.heap.size + 1) rfl _ _ _ _ (But.refl _ _)
     have p8 := putRow_all [.int .u16 (wat zs 0), .int .u16 (wat zs 2), .bool true, .slice a3 (zs.length - 8) c3] r4 rfl
     rw [← hV9] at p8
     clear hV hV9
     have P8 := block_cell p8
     have hw8 : Below w.heap.size w V8 := (hw4).trans (hb8.below (hw4).size (fun k h e => by omega))
     exact bodyPost_ret (v := .tuple #[.agg #[.int .u16 (wat zs 0), .int .u16 (wat zs 2), .bool true, .slice a3 (zs.length - 8) c3], .int .i64 0]) (by simp [results, Tryz.results66, go_sem, P8]) rfl (⟨hw8, .inr ⟨HF.out, a3, c3, by rw [G6.out, t4], (hO4.but hb8 (fun b h e => by omega)).mono (by omega)⟩⟩)
    ·have t4 : (x6 == 0) = false := by simp [c4]
     have C4 := hide c4
     clear c4
     go_wp2_with fail
     rw [C1.out]
     refine (rsum3_any tos id ttl 17 src dst 17 keep so _ _ zs w5 hB ((hI.below hw5).mono hw5.size) (by omega) (by omega) hsr hds).mono ?_
     rintro e w6 ⟨rfl, hb6⟩
     have r6 := later_keep hb6 r5
     have hw6 : Below w.heap.size w w6 := hw5.trans (hb6.mono hw5.size)
     have hs6 : w.heap.size + 1 + 1 ≤ w6.heap.size := by have := hb6.size; omega
     clear hb6 r5 p5 K5
     by_cases c5 : Mt.cks (psd src dst 17 zs.length ++ zs) = 0
     ·have t5 : (Mt.cks (psd src dst 17 zs.length ++ zs) != 0) = false := by simp [c5]
      have HF : Hid (pue proto src dst zs = 0) := by show _ = _; unfold pue; rw [if_neg (by simp [C1.out]), if_neg c2, if_neg (by simp [C3.out]), if_neg (by simp [c5])]
      clear c5
      obtain ⟨b, off, cap, e0, hlc, hmc, hbb, hcs⟩ := hI.cells (by omega)
      have hcl := e0
      simp at hcl
      obtain ⟨rfl, rfl⟩ := hcl
      clear e0 hcs
      go_wp2_with fail
      refine (rget16_at _ zs hB 0 (by omega) (by omega) w6 (hI.below hw6)).mono ?_
      rw [getAt2_lit zs 0 0 rfl (by omega)]
      rintro e wa ⟨rfl, na, hna⟩
      have hba : Later w6 wa := by rw [hna]; exact below_draw (Later.refl w6) na
      clear hna
      have hwa := hw6.trans (hba.mono hw6.size)
      go_wp2_with fail
      refine (rget16_at _ zs hB 2 (by omega) (by omega) wa (hI.below hwa)).mono ?_
      rw [getAt2_lit zs 2 2 rfl (by omega)]
      rintro e wb ⟨rfl, nb, hnb⟩
      have hbb2 : Later wa wb := by rw [hnb]; exact below_draw (Later.refl wa) nb
      clear hnb
      have hwb := hwa.trans (hbb2.mono hwa.size)
      have rb := later_keep hbb2 (later_keep hba r6)
      have hsb : w.heap.size + 1 + 1 ≤ wb.heap.size := by have := hba.size; have := hbb2.size; omega
      clear hba hbb2
      go_upto_region 12 with fail
      generalize hV : wb.alloc _ = Wc
      have lc : Later wb Wc := by rw [← hV]; exact (Below.refl _ wb).alloc (Nat.le_refl _) _
      have mc : Wc.heap[wb.heap.size]? = some (.cells #[.int .u16 (wat zs 0), .int .u16 (wat zs 2), .bool false, .slice none 0 0] 60 (0, 0)) := by rw [← hV]; exact heap_alloc_new wb _
      clear hV
      have hwc := hwb.trans (lc.mono hwb.size)
      have rc := later_keep lc rb
      refine anyT_begin (R := But (fun b => b = wb.heap.size)) 7 rfl (by kernel_rfl) ?_
      have hd : Later Wc Wc.drew := Later.drew Wc
      have md := later_keep hd mc
      have rd := later_keep hd rc
      have hwd : Below w.heap.size w Wc.drew := hwc.trans (hd.mono hwc.size)
      generalize Wc.drew = Wd at *
      have hr : Rd w.heap.size Wd (.slice (some ⟨b, off, none⟩) zs.length cd) zs := hI.below hwd
      have hs8 : Rd w.heap.size Wd (.slice (if cd = 8 then some (⟨b, off, none⟩ : Addr) else some ⟨b, off + 8, none⟩) (zs.length - 8) (cd - 8)) (zs.drop 8) := hr.cutAt 8 (by omega)
      generalize hE8 : (if cd = 8 then some (⟨b, off, none⟩ : Addr) else some ⟨b, off + 8, none⟩) = ad8 at *
      have i8 : (8 : Int) ≤ zs.length := by omega
      have i8c : (zs.length : Int) ≤ cd := by omega
      have i8n : ¬ zs.length < 8 := by omega
      refine tV (But.pre _) 0 rfl rfl ⟨_, fun v h => by (go_simp; rfl), ?_⟩; simp only [Act.put, sA, sB, sC]
      refine tV (But.pre _) 2 rfl rfl ⟨_, fun v h => by (go_simp; rfl), ?_⟩; simp only [Act.put, sA, sB, sC]
      refine tV (But.pre _) 3 rfl rfl ⟨.slice ad8 (zs.length - 8) (cd - 8), fun v1 hv1 => by go_simp, ?_⟩
      simp only [Act.put, sA, sB, sC]
      refine anyT_one 1 rfl (by kernel_rfl) rfl ?_
      have kd := block_cell md
      unfold Oper.wp
      go_simp
      refine ⟨But.refl _ _, ?_⟩
      refine anyT_one 4 rfl (by kernel_rfl) rfl ?_
      obtain ⟨i0, hi, hz0, hz1, hz2⟩ := info_parts info_u8
      have hsd : wb.heap.size + 1 ≤ Wd.heap.size := (bl9 md)
      obtain ⟨v3, W3, hrun3, hown3, hgr3⟩ := run_app (P := Tryz.prog) Wd 31 31 5 (wb.heap.size + 1) i0 Tryz.underlying31 hi hz0 hz1 hz2 (.slice none 0 0) [] (World.ownsRow_nil _ _ _ _) w.heap.size _ (zs.drop 8) hs8 (by simp; omega) hsd
      have hl3 : Later Wd W3 := (Below.refl _ Wd).grown hgr3 (Nat.le_refl _) (fun _ e => by cases e)
      have hO3 := Ow.of_row hown3
      rw [List.nil_append] at hO3
      clear hown3
      obtain ⟨a3, c3, rfl, hq3, hm3⟩ := hO3.slice
      rw [List.length_drop] at hO3 hrun3
      refine wp_app (.tmp 43) (.tmp 45) 31 rfl _ _ rfl rfl _ W3 hrun3 ⟨But.of hl3, ?_⟩
      simp only [Act.put, sA, sB, sC]
      refine tV (But.pre _) 5 rfl rfl ⟨_, fun v h => by (go_simp; rfl), ?_⟩; simp only [Act.put, sA, sB, sC]
      have m3 := later_keep hl3 md
      have r3 := later_keep hl3 rd
      have k3 := block_cell m3
      have f3 : ∀ j, W3.frozen? ⟨wb.heap.size, j, none⟩ = false := block_frozen m3
      clear kd
      refine anyT_one 6 rfl (by kernel_rfl) rfl ?_
      unfold Oper.wp
      go_simp
      refine ⟨(But.refl (fun b => b = wb.heap.size) _).setCell (p := ⟨wb.heap.size, 3, none⟩) rfl _, ?_⟩
      refine anyT_done (by kernel_rfl) ?_
      have m4 : (W3.setCell ⟨wb.heap.size, 3, none⟩ (.slice a3 (zs.length - 8) c3)).heap[wb.heap.size]? = some (.cells #[.int .u16 (wat zs 0), .int .u16 (wat zs 2), .bool false, .slice a3 (zs.length - 8) c3] 60 (0, 0)) := heap_set1 m3 3 _
      have E4 : But (fun b => b = wb.heap.size) W3 (W3.setCell ⟨wb.heap.size, 3, none⟩ (.slice a3 (zs.length - 8) c3)) := (But.refl (fun b => b = wb.heap.size) W3).setCell (p := ⟨wb.heap.size, 3, none⟩) rfl _
      have hw3 := hwd.trans (hl3.mono hwd.size)
      have hs3 := hl3.size
      generalize W3.setCell ⟨wb.heap.size, 3, none⟩ (.slice a3 (zs.length - 8) c3) = W4 at *
      have hw4 : Below w.heap.size w W4 := hw3.trans (E4.below hw3.size (fun k h e => by omega))
      have r4 := (E4.block (w.heap.size + 1) (by omega) (by omega)).trans r3
      have hO4 := hO3.but E4 (fun b h e => by omega)
      have M4 := block_cell m4
      have R4 := block_cell r4
      have F4 := block_frozen r4
      clear k3 f3
      go_wp2_with fail
      generalize hV : World.setCell _ ⟨w.heap.size + 1, 3, none⟩ _ = V8
      have hV9 : V8 = putRow W4 (w.heap.size + 1) 0 [.int .u16 (wat zs 0), .int .u16 (wat zs 2), .bool false, .slice a3 (zs.length - 8) c3] := hV.symm
      have hb8 : But (fun b => b = w.heap.size + 1) W4 V8 := by rw [hV9]; exact putRow_but (E := fun b => b = w.heap.size + 1) (n := w.heap.size + 1) rfl _ _ _ _ (But.refl _ _)
      have p8 := putRow_all [.int .u16 (wat zs 0), .int .u16 (wat zs 2), .bool false, .slice a3 (zs.length - 8) c3] r4 rfl
      rw [← hV9] at p8
      clear hV hV9
      have P8 := block_cell p8
      have hw8 : Below w.heap.size w V8 := (hw4).trans (hb8.below (hw4).size (fun k h e => by omega))
      exact bodyPost_ret (v := .tuple #[.agg #[.int .u16 (wat zs 0), .int .u16 (wat zs 2), .bool false, .slice a3 (zs.length - 8) c3], .int .i64 0]) (by simp [results, Tryz.results66, go_sem, P8]) rfl (⟨hw8, .inr ⟨HF.out, a3, c3, by rw [G6.out, t4], (hO4.but hb8 (fun b h e => by omega)).mono (by omega)⟩⟩)
     ·have t5 : (Mt.cks (psd src dst 17 zs.length ++ zs) != 0) = true := by simp [c5]
      have HF : Hid (pue proto src dst zs = 5) := by show _ = _; unfold pue; rw [if_neg (by simp [C1.out]), if_neg c2, if_neg (by simp [C3.out]), if_pos ⟨by rw [G6.out]; exact C4.out, c5⟩]
      clear c5
      have R1 := block_cell r6
      have F1 := block_frozen r6
      go_wp2_with fail
      generalize hV : World.setCell _ ⟨w.heap.size + 1, 3, none⟩ _ = V8
      have hV9 : V8 = putRow w6 (w.heap.size + 1) 0 zud := hV.symm
      have hb8 : But (fun b => b = w.heap.size + 1) w6 V8 := by rw [hV9]; exact putRow_but (E := fun b => b = w.heap.size + 1) (n := w.heap.size + 1) rfl _ _ _ _ (But.refl _ _)
      have p8 := putRow_all zud r6 rfl
      rw [← hV9] at p8
      clear hV hV9
      have P8 := block_cell p8
      have hw8 : Below w.heap.size w V8 := (hw6).trans (hb8.below (hw6).size (fun k h e => by omega))
      exact bodyPost_ret (v := .tuple #[.agg zud.toArray, .int .i64 5]) (by simp [results, Tryz.results66, go_sem, P8]) rfl (⟨hw8, .inl ⟨by rw [HF.out]; decide, by rw [HF.out]⟩⟩)
   ·have t3 : (wat zs 4 != (zs.length : Int)) = true := by simp [c3]
    have HF : Hid (pue proto src dst zs = 4) := by show _ = _; unfold pue; rw [if_neg (by simp [C1.out]), if_neg c2, if_pos c3]
    clear c3
    have R1 := block_cell r2
    have F1 := block_frozen r2
    go_wp2_with fail
    generalize hV : World.setCell _ ⟨w.heap.size + 1, 3, none⟩ _ = V8
    have hV9 : V8 = putRow w2 (w.heap.size + 1) 0 zud := hV.symm
    have hb8 : But (fun b => b = w.heap.size + 1) w2 V8 := by rw [hV9]; exact putRow_but (E := fun b => b = w.heap.size + 1) (n := w.heap.size + 1) rfl _ _ _ _ (But.refl _ _)
    have p8 := putRow_all zud r2 rfl
    rw [← hV9] at p8
    clear hV hV9
    have P8 := block_cell p8
    have hw8 : Below w.heap.size w V8 := (hw2).trans (hb8.below (hw2).size (fun k h e => by omega))
    exact bodyPost_ret (v := .tuple #[.agg zud.toArray, .int .i64 4]) (by simp [results, Tryz.results66, go_sem, P8]) rfl (⟨hw8, .inl ⟨by rw [HF.out]; decide, by rw [HF.out]⟩⟩)
 ·have t1 : (proto != 17) = true := by simp [c1]
  have HF : Hid (pue proto src dst zs = 12) := by show _ = _; unfold pue; rw [if_pos c1]
  clear c1
  have R1 := block_cell r1
  have F1 := block_frozen r1
  go_wp2_with fail
  generalize hV : World.setCell _ ⟨w.heap.size + 1, 3, none⟩ _ = V8
  have hV9 : V8 = putRow w1 (w.heap.size + 1) 0 zud := hV.symm
  have hb8 : But (fun b => b = w.heap.size + 1) w1 V8 := by rw [hV9]; exact putRow_but (E := fun b => b = w.heap.size + 1) (n := w.heap.size + 1) rfl _ _ _ _ (But.refl _ _)
  have p8 := putRow_all zud r1 rfl
  rw [← hV9] at p8
  clear hV hV9
  have P8 := block_cell p8
  have hw8 : Below w.heap.size w V8 := (hw1).trans (hb8.below (hw1).size (fun k h e => by omega))
  exact bodyPost_ret (v := .tuple #[.agg zud.toArray, .int .i64 12]) (by simp [results, Tryz.results66, go_sem, P8]) rfl (⟨hw8, .inl ⟨by rw [HF.out]; decide, by rw [HF.out]⟩⟩)
theorem rget32_at {n₀ : Nat} (sv : Value) (zs : List Int) (hB : Mt.By zs) (p : Int) (hp : -9223372036854775808 ≤ p ∧ p ≤ 9223372036854775807) (hl : zs.length ≤ 140737488355328) (w : World) (hI : Rd n₀ w sv zs) :
  Calls Tryz.prog 122 #[sv, .int .i64 p] w fun e w' => e = .returned (.int .u32 (getAt4 zs p)) ∧ ∃ n, w' = w.drewN n := by
 obtain ⟨a, cap, rfl, h1, h2⟩ := hI.slice
 by_cases h : 0 ≤ p ∧ p + 4 ≤ zs.length
 ·obtain ⟨n, rfl⟩ := Int.eq_ofNat_of_zero_le h.1
  have HG : Hid (getAt4 zs (n : Int) = wat zs n * 65536 + wat zs (n + 2)) := by show _ = _; unfold getAt4; rw [if_pos h, Int.toNat_natCast]; rfl
  have HG1 : Hid (getAt2 zs (n : Int) = wat zs n) := by show _ = _; unfold getAt2; rw [if_pos (by omega), Int.toNat_natCast]
  have HG2 : Hid (getAt2 zs ((n : Int) + 2) = wat zs (n + 2)) := by show _ = _; unfold getAt2; rw [if_pos (by omega), show ((n : Int) + 2).toNat = n + 2 from by omega]
  have b0 := wat_bd hB n
  have b1 := wat_bd hB (n + 2)
  have t0 : ¬ (n : Int) < 0 := by omega
  have t1 : ¬ (zs.length : Int) < 4 := by omega
  have t2 : ¬ (zs.length : Int) - 4 < n := by omega
  have hn : (n : Int) + 2 ≤ 9223372036854775807 := by omega
  clear h hp
  go_enter Tryz.func122, Tryz.ntmps122
  go_wp2_with fail
  refine (rget16_at _ zs hB n (by omega) hl _ hI).mono ?_
  rintro e w2 ⟨rfl, q, rfl⟩
  rw [HG1.out]
  go_wp2_with fail
  refine (rget16_at _ zs hB ((n : Int) + 2) (by omega) hl _ (hI.drew q)).mono ?_
  rintro e w2 ⟨rfl, q2, rfl⟩
  rw [HG2.out]
  generalize wat zs n = x at *
  generalize wat zs (n + 2) = y at *
  go_wp2
  rw [or_join32 x y b0 b1]
  go_ret
  exact ⟨by rw [HG.out]; rfl, _, rfl⟩
 ·have HG : Hid (getAt4 zs p = 0) := by show _ = _; unfold getAt4; rw [if_neg h]
  have ht : p < 0 ∨ (0 ≤ p ∧ (zs.length : Int) < 4) ∨ (0 ≤ p ∧ 4 ≤ (zs.length : Int) ∧ (zs.length : Int) - 4 < p) := by omega
  clear h
  rcases ht with t0 | ⟨t0, t1⟩ | ⟨t0, t1, t2⟩
  all_goals
   go_enter Tryz.func122, Tryz.ntmps122
   go_wp2
   go_ret
   exact ⟨by rw [HG.out]; rfl, 0, rfl⟩
theorem rput16_any (sv : Value) (zs : List Int) (p v : Int) (hp : -9223372036854775808 ≤ p ∧ p ≤ 9223372036854775807) (hl : zs.length ≤ 140737488355328) (w : World) (hI : Rd w.heap.size w sv zs) (hv : 0 ≤ v ∧ v ≤ 65535) :
  Calls Tryz.prog 118 #[sv, .int .i64 p, .int .u16 v] w fun e w' => ∃ r, e = .returned r ∧ Ow w.heap.size w' r (putAt2 zs p v) ∧ Below w.heap.size w w' := by
 obtain ⟨i0, hi, hz0, hz1, hz2⟩ := info_parts info_u8
 obtain ⟨a, cap, rfl, h1, h2⟩ := hI.slice
 by_cases h : 0 ≤ p ∧ p + 2 ≤ zs.length
 ·obtain ⟨n, rfl⟩ := Int.eq_ofNat_of_zero_le h.1
  have HP : Hid (putAt2 zs (n : Int) v = Mt.put2 zs n v) := by show _ = _; unfold putAt2; rw [if_pos h, Int.toNat_natCast]
  have t0 : (0 : Int) ≤ n := by omega
  have t1 : 2 ≤ (zs.length : Int) := by omega
  have t2 : (n : Int) ≤ (zs.length : Int) - 2 := by omega
  have k1 : n + 1 < zs.length := by omega
  have i1 : (n : Int) < zs.length := by omega
  have i2 : (n : Int) + 1 < zs.length := by omega
  clear h hp
  go_enter Tryz.func118, Tryz.ntmps118
  go_wp2_with (at_builtin; refine wpList_app _ rfl (.tmp 8) (.tmp 9) 31 rfl w.heap.size 5 i0 Tryz.underlying31 hi hz0 hz1 hz2 _ [] rfl (World.ownsRow_nil _ _ _ _) w.heap.size _ zs rfl hI (by simp; omega) (by simp) ?_; intro v2 w2 hown2 hg2; have hb2 := (Below.refl w.heap.size w).grown hg2 (by simp) (fun k e => by cases e); clear hg2; have hO2 := Ow.of_row hown2; clear hown2; simp only [List.nil_append] at hO2; obtain ⟨a2, cap2, rfl, hl2, hm2⟩ := hO2.slice; obtain ⟨g, rfl, _, hg, hcf, hset⟩ := hO2.at (by omega); obtain ⟨c0, f0⟩ := hcf n (by omega); obtain ⟨c1, f1⟩ := hcf (n + 1) k1; clear hcf)
  go_ret
  have hs1 := hset n (v / 256) (by omega)
  obtain ⟨g', hg1, _, _, _, hset2⟩ := hs1.at (by simp; omega)
  cases hg1
  refine ⟨_, rfl, ?_, (hb2.setCell (p := ⟨g, n, none⟩) hg _).setCell (p := ⟨g, n + 1, none⟩) hg _⟩
  rw [HP.out]
  have := hset2 (n + 1) (v % 256) (by simpa using k1)
  simpa [Mt.put2] using this
 ·have HP : Hid (putAt2 zs p v = zs) := by show _ = _; unfold putAt2; rw [if_neg h]
  have ht : p < 0 ∨ (0 ≤ p ∧ (zs.length : Int) < 2) ∨ (0 ≤ p ∧ 2 ≤ (zs.length : Int) ∧ (zs.length : Int) - 2 < p) := by omega
  clear h
  rcases ht with t0 | ⟨t0, t1⟩ | ⟨t0, t1, t2⟩
  all_goals
   go_enter Tryz.func118, Tryz.ntmps118
   go_wp2_with (at_builtin; refine wpList_app _ rfl (.tmp 8) (.tmp 9) 31 rfl w.heap.size 5 i0 Tryz.underlying31 hi hz0 hz1 hz2 _ [] rfl (World.ownsRow_nil _ _ _ _) w.heap.size _ zs rfl hI (by simp; omega) (by simp) ?_; intro v2 w2 hown2 hg2; have hb2 := (Below.refl w.heap.size w).grown hg2 (by simp) (fun k e => by cases e); clear hg2; have hO2 := Ow.of_row hown2; clear hown2; simp only [List.nil_append] at hO2)
   go_ret
   exact ⟨_, rfl, by rw [HP.out]; exact hO2, hb2⟩
def Ow4 (base : Nat) (W : World) (v : Value) (ns : List Int) : Prop :=
 (v = .slice none 0 0 ∧ ns = []) ∨ ∃ g, v = .slice (some ⟨g, 0, none⟩) ns.length ns.length ∧ base ≤ g ∧ W.heap[g]? = some (.cells (ns.map (Value.int .u32)).toArray 33 (0, 0))
theorem Ow4.later {base : Nat} {A B : World} {v : Value} {ns : List Int} (h : Ow4 base A v ns) (l : Later A B) : Ow4 base B v ns := by
 rcases h with h | ⟨g, h1, h2, h3⟩
 ·exact .inl h
 ·exact .inr ⟨g, h1, h2, later_keep l h3⟩
theorem Ow4.mono {base base' : Nat} {A : World} {v : Value} {ns : List Int} (h : Ow4 base A v ns) (hb : base' ≤ base) : Ow4 base' A v ns := by
 rcases h with h | ⟨g, h1, h2, h3⟩
 ·exact .inl h
 ·exact .inr ⟨g, h1, by omega, h3⟩
theorem Ow4.slice {base : Nat} {A : World} {v : Value} {ns : List Int} (h : Ow4 base A v ns) : ∃ a, v = .slice a ns.length ns.length := by
 rcases h with ⟨rfl, rfl⟩ | ⟨g, rfl, _⟩
 ·exact ⟨none, rfl⟩
 ·exact ⟨_, rfl⟩
theorem Ow4.cell {base : Nat} {A : World} {a : Option Addr} {l c : Nat} {ns : List Int} (h : Ow4 base A (.slice a l c) ns) (hne : 0 < ns.length) : ∃ g, a = some ⟨g, 0, none⟩ ∧ l = ns.length ∧ c = ns.length ∧ base ≤ g ∧ ∀ j, j < ns.length → A.cell? ⟨g, j, none⟩ = some (.int .u32 (ns[j]?.getD 0)) := by
 rcases h with ⟨_, rfl⟩ | ⟨g, e, h2, h3⟩
 ·simp at hne
 ·cases e
  refine ⟨g, rfl, rfl, rfl, h2, fun j hj => ?_⟩
  rw [block_cell h3 j]
  simp [hj]
theorem OwO.kept {base : Nat} {A B : World} {v : Value} {os : List Opt} (h : OwO base A v os) (hk : ∀ (k : Nat) (o : Obj), base ≤ k → A.heap[k]? = some o → B.heap[k]? = some o) : OwO base B v os := by
 obtain ⟨ss, h1, h2, h3⟩ := h
 refine ⟨ss, h1, ⟨h2.1, h2.2.imp id ?_⟩, fun j hj => ?_⟩
 ·rintro ⟨g, cap, cur, e1, e2, e3, r⟩
  exact ⟨g, cap, cur, e1, e2, hk g _ e2 e3, r⟩
 ·rcases h3 j hj with h | ⟨g, cp, cur, e1, e2, e3, e4, e5, e6, e7⟩
  ·exact .inl h
  ·exact .inr ⟨g, cp, cur, e1, e2, e3, e4, e5, hk g _ e2 e6, e7⟩
end Go.Proofs.YtofknbfbmaefoaaGreatDoor
