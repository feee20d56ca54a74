import Derived.ArgAppend
import Derived.Test.YtofknbfbmaefoaaGreatDoorV2
namespace Go.Proofs.YtofknbfbmaefoaaGreatDoor
open Go.RowKit Go.Shelf
set_option maxRecDepth 100000
theorem app_nil {P : Program} (w : World) (t ty e : TypeId) (i : TypeInfo) (ht : P.underlying t = some (.slice e)) (hi : P.info? e = some i) (g n : Nat) : (Builtin.append_ #[t, t] ty #[.slice (some ⟨g, 0, none⟩) n n, .slice none 0 0]).run P w = .ok (.slice (some ⟨g, 0, none⟩) n n) w := by
 simp [Builtin.append_, run_underlying ht, sizeOf, typeInfo, hi, Builtin.lenOf, Builtin.firstCells, storeCells]
theorem run_app_ow {P : Program} (w : World) (t ty : TypeId) (base : Nat) (i : TypeInfo) (ht : P.underlying t = some (.slice 5)) (hi : P.info? 5 = some i) (hz : i.zero = some (.int .u8 0)) (hsize : i.size = 1) (hby : i.bytes = 1)
  (a : Option Addr) (n : Nat) (ys : List Int) (hO : Ow base w (.slice a n n) ys) (hne : 0 < ys.length)
  (n₀ : Nat) (sx : Value) (zs : List Int) (hI : Rd n₀ w sx zs) (hbd : ys.length + zs.length ≤ 140737488355328) (hbase : base ≤ w.heap.size) :
  ∃ v' w', (Builtin.append_ #[t, t] ty #[.slice a n n, sx]).run P w = .ok v' w' ∧ Ow base w' v' (ys ++ zs) ∧ Below w.heap.size w w' := by
 obtain ⟨g, rfl, rfl, hg, hcf, _⟩ := hO.at hne
 rcases hI with ⟨ao, cap, rfl, rfl, hm, hn⟩ | ⟨b, off, cap, rfl, hze, hl, hm, hb, hc⟩
 ·refine ⟨.slice (some ⟨g, 0, none⟩) ys.length ys.length, w, ?_, by rw [List.append_nil]; exact hO, Below.refl _ _⟩
  cases ao with
  | none =>
   obtain rfl := hn rfl
   exact app_nil w t ty 5 i ht hi g _
  | some ad =>
   have := run_append_room_cells (P := P) w t ty 5 i ht hi g 0 ys.length ys.length ad 0 cap [] (by simp) (fun j u hj => by simp at hj) (fun u hu => by simp at hu) (by omega) (fun j hj => by simp at hj) (fun j hj => by simp at hj)
   exact this
 ·have hz0 : 0 < zs.length := by cases zs with | nil => exact absurd rfl hze | cons _ _ => simp
  obtain ⟨v', w', hr, h2, h3⟩ := run_append_arg_grows (P := P) w t ty 5 i (.int .u8 0) 1 1 ht hi hz hsize hby rfl (by decide) ⟨g, 0, none⟩ ys.length ys.length (ys.map (Value.int .u8)) (by simp)
   (fun j u hj => by
    have hj' : j < ys.length := by have := (List.getElem?_eq_some_iff.1 hj).1; simpa using this
    rw [show (⟨g, 0, none⟩ : Addr).add j = ⟨g, j, none⟩ from by unfold Addr.add; split <;> simp_all, (hcf j hj').1, ← hj]
    simp [hj'])
   ⟨b, off, none⟩ zs.length cap (zs.map (Value.int .u8)) (by simp)
   (fun j u hj => by
    have hj' : j < zs.length := by have := (List.getElem?_eq_some_iff.1 hj).1; simpa using this
    rw [show (⟨b, off, none⟩ : Addr).add j = ⟨b, off + j, none⟩ from by unfold Addr.add; split <;> simp_all, hc j hj', ← hj]
    simp [hj'])
   (by omega) (by unfold maxLen; omega) (by omega)
  rw [← List.map_append] at h2
  exact ⟨v', w', hr, (Ow.of_row h2).mono hbase, (Below.refl _ w).grown h3 (Nat.le_refl _) (fun _ e => by cases e)⟩
set_option maxHeartbeats 4000000 in
theorem build_yes (tos id ttl proto src dst : Int) (keep : Bool) (so sd : Value) (zo zd : List Int) (w : World) (hBo : Mt.By zo) (hIo : Rd w.heap.size w so zo) (hId : Rd w.heap.size w sd zd)
  (hlo : zo.length ≤ 40) (hlm : zo.length % 4 = 0) (hall : 20 + zo.length + zd.length ≤ 65535) (ht : 0 ≤ tos ∧ tos ≤ 255) (hid : 0 ≤ id ∧ id ≤ 65535) (htt : 0 ≤ ttl ∧ ttl ≤ 255) (hpr : 0 ≤ proto ∧ proto ≤ 255) (hsr : 0 ≤ src ∧ src ≤ 4294967295) (hds : 0 ≤ dst ∧ dst ≤ 4294967295) :
  Calls Tryz.prog 17 #[.agg #[.int .u8 tos, .int .u16 id, .bool keep, .int .u8 ttl, .int .u8 proto, .int .u32 src, .int .u32 dst, so, sd]] w fun e w' => ∃ v, e = .returned (.tuple #[v, .int .i64 0]) ∧ Ow w.heap.size w' v (hdr tos id keep ttl proto src dst zo (20 + zo.length + zd.length) ++ zd) ∧ Below w.heap.size w w' := by
 obtain ⟨i0, hi, hz0, hz1, hz2⟩ := info_parts info_u8
 obtain ⟨ao, co, rfl, hl1, hm1⟩ := hIo.slice
 obtain ⟨ad, cd, rfl, hl2, hm2⟩ := hId.slice
 have hbox : Below w.heap.size w (w.alloc (.cells #[.int .u8 tos, .int .u16 id, .bool keep, .int .u8 ttl, .int .u8 proto, .int .u32 src, .int .u32 dst, .slice ao zo.length co, .slice ad zd.length cd] 56)) := (Below.refl _ _).alloc (Nat.le_refl _) _
 have hcell := cell_new w #[.int .u8 tos, .int .u16 id, .bool keep, .int .u8 ttl, .int .u8 proto, .int .u32 src, .int .u32 dst, .slice ao zo.length co, .slice ad zd.length cd] 56
 have HF : Hid (flt zo.length zd.length = 0) := by show _ = _; unfold flt; rw [if_neg (by omega), if_neg (by omega)]
 have hlh : (hdr tos id keep ttl proto src dst zo (20 + zo.length + zd.length)).length = 20 + zo.length := by unfold hdr; rw [putAt2_length, hd0_length]
 go_enter Tryz.func17, Tryz.ntmps17
 go_wp2_with fail
 refine (fault_any tos id ttl proto src dst keep ao ad zo.length co zd.length cd _ (by omega) (by omega)).mono ?_
 rintro e w1 ⟨rfl, hb1⟩
 rw [HF.out]
 have hbc : ∀ j, w1.cell? ⟨w.heap.size, j, none⟩ = #[Value.int .u8 tos, .int .u16 id, .bool keep, .int .u8 ttl, .int .u8 proto, .int .u32 src, .int .u32 dst, .slice ao zo.length co, .slice ad zd.length cd][j]? := fun j => (hb1.cell (p := ⟨w.heap.size, j, none⟩) (by simp)).trans (hcell j)
 have hw1 := hbox.trans (hb1.mono (by simp))
 have hs1 : w.heap.size < w1.heap.size := by have := hb1.size; simp at this; omega
 have hIo1 := (hIo.below hw1).mono hw1.size
 have hId1 := (hId.below hw1).mono hw1.size
 have b0 := hbc 0
 have b1 := hbc 1
 have b2 := hbc 2
 have b3 := hbc 3
 have b4 := hbc 4
 have b5 := hbc 5
 have b6 := hbc 6
 have b7 := hbc 7
 have b8 := hbc 8
 simp at b0 b1 b2 b3 b4 b5 b6 b7 b8
 clear hcell hbc hbox hb1 HF
 go_wp2_with fail
 go_region_law (first
  | (refine step_run rfl (.tmp 11) (.tmp 13) 31 rfl _ _ rfl rfl v5 w5 hrun ?_)
  | (go_simp; go_at_call 43; refine (header_any tos id ttl proto src dst keep _ zo ad zd.length cd w1.drew hBo (hIo1.drew 1) hlo hlm hall ht hid htt hpr hsr hds).mono ?_; rintro e w4 ⟨a4, rfl, hO4, hb4⟩; have c8 : w4.cell? ⟨w.heap.size, 8, none⟩ = some (.slice ad zd.length cd) := (hb4.cell (p := ⟨w.heap.size, 8, none⟩) hs1).trans b8; obtain ⟨v5, w5, hrun, hO5, hb5⟩ := run_app_ow (P := Tryz.prog) w4 31 31 w1.heap.size i0 Tryz.underlying31 hi hz0 hz1 hz2 a4 (20 + zo.length) _ hO4 (by omega) w1.heap.size _ zd ((hId1.drew 1).below hb4) (by omega) hb4.size; dsimp only))
 all_goals go_wp2
 all_goals go_ret2
 all_goals
  have hbW := (below_draw hw1 1).trans (hb4.mono hw1.size)
  exact ⟨_, rfl, hO5.mono hw1.size, hbW.trans (hb5.mono hbW.size)⟩
set_option maxHeartbeats 1000000 in
theorem build_no (tos id ttl proto src dst : Int) (keep : Bool) (ao ad : Option Addr) (lo co ld cd : Nat) (w : World) (h1 : lo ≤ 140737488355328) (h2 : ld ≤ 140737488355328) (hf : flt lo ld ≠ 0) :
  Calls Tryz.prog 17 #[.agg #[.int .u8 tos, .int .u16 id, .bool keep, .int .u8 ttl, .int .u8 proto, .int .u32 src, .int .u32 dst, .slice ao lo co, .slice ad ld cd]] w fun e w' => e = .returned (.tuple #[.slice none 0 0, .int .i64 (flt lo ld)]) ∧ Below w.heap.size w w' := by
 have hbox : Below w.heap.size w (w.alloc (.cells #[.int .u8 tos, .int .u16 id, .bool keep, .int .u8 ttl, .int .u8 proto, .int .u32 src, .int .u32 dst, .slice ao lo co, .slice ad ld cd] 56)) := (Below.refl _ _).alloc (Nat.le_refl _) _
 have hf' : (flt lo ld != 0) = true := by simp [hf]
 go_enter Tryz.func17, Tryz.ntmps17
 go_wp2_with fail
 refine (fault_any tos id ttl proto src dst keep ao ad lo co ld cd _ h1 h2).mono ?_
 rintro e w1 ⟨rfl, hb1⟩
 clear hf
 go_wp2
 go_ret2
 exact ⟨rfl, hbox.trans (hb1.mono (by simp))⟩
end Go.Proofs.YtofknbfbmaefoaaGreatDoor
